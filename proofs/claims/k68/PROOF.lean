import PyProof.Rows.All
import Wide.All
import OpenK.AllK
import Wide.FinOn
import HandS.ForMost
import HandS.AnyAll
import HandS.EndTab
import HandS.GenList
import HandS.Walk
import HandS.Words
import HandS.More
import HandS.IsInst
import HandS.ForExc
import HandS.ExcInit
import HandS.FStr
import KE.KExcSuper
import HandS.ExcField
import KE.KExcIs
import KE.KIsAll
import HandS.TryOnly
import HandS.Deep
import HandS.Star
import HandS.TupMul
import HandS.Call
import HandS.ExcOwn
import HandS.Zip
import KE.GoesMore
import KE.GoesEnum
import HandS.TupAny
import HandS.WideBits
import HandS.Flow
import HandS.Codes
import HandS.Text
import HandS.Defaults
import PySem.Challenge.RW_quietsmith_k68_values_stay_in_their_fact
set_option Elab.async false
set_option linter.all false
set_option maxRecDepth 100000
/-! heaps that a law's own text works on: what it holds, as a list of addresses and objects; the two first helpers' promises -/
namespace Lw
open PySem PySem.Spec PyProof.Rows L2
theorem same_upd {H : Hp} {p : Addr} {o : HO} (h : H p = none) : Same H (upd H p o) := fun b x e => by
  rw [upd_ne (ne_of_none e h)]
  exact e
/-- what stood stands, but for the object at p -/
def Keep (H H' : Hp) (p : Addr) : Prop := ∀ b o, b ≠ p → H b = some o → H' b = some o
theorem Keep.trans {H H1 H2 : Hp} {p : Addr} (a : Keep H H1 p) (b : Keep H1 H2 p) : Keep H H2 p := fun c o n e => b c o n (a c o n e)
theorem keep_upd (H : Hp) (p : Addr) (o : HO) : Keep H (upd H p o) p := fun b u n e => by
  rw [upd_ne n]
  exact e
theorem Same.keep {H H' : Hp} {p : Addr} (s : Same H H') : Keep H H' p := fun b o _ e => s b o e
theorem Keep.new {H H1 H2 : Hp} {p : Addr} (n : H p = none) (s : Same H H1) (k : Keep H1 H2 p) : Same H H2 := fun b o e => k b o (ne_of_none e n) (s b o e)
theorem Keep.free {H H' : Hp} {p r : Addr} {o : HO} (k : Keep H H' p) (hp : H' p = some o) (hr : H' r = none) : H r = none := by
  cases e : H r with
  | none => rfl
  | some u =>
    have n : r ≠ p := fun z => by
      rw [z, hp] at hr
      cases hr
    rw [k r u n e] at hr
    cases hr
theorem at_int {ns : List Int} {i : Int} (h0 : 0 ≤ i) (h1 : i < ns.length) : ∃ z, atI (ns.map V.int) i = some (.int z) := by
  obtain ⟨j, rfl⟩ := Int.eq_ofNat_of_zero_le h0
  have hj : j < ns.length := by omega
  refine ⟨ns[j], atI_nat ?_⟩
  rw [List.getElem?_map, List.getElem?_eq_getElem hj]
  rfl
def spSource (K : PySem.W.Frag) : Sp := fun vs H Q _ => ∃ (a : Addr) (ns : List Int) (k : Int), vs = [.ref a, .int k] ∧ SqL K H a (ns.map V.int) ∧ ns.length ≤ 63 ∧ 0 ≤ k ∧
  ∀ (p : Addr) (x y : Int), H p = none → 0 ≤ x → Q (.ref p) (upd H p (.lst [.int x, .int y]))
def spDraw : Sp := fun vs H Q _ => ∃ (p : Addr) (x y m : Int), vs = [.ref p, .int m] ∧ H p = some (.lst [.int x, .int y]) ∧ 0 ≤ x ∧ 0 < m ∧ m ≤ 100000 ∧
  ∀ (v x' y' : Int), 0 ≤ v → v < m → 0 ≤ x' → Q (.int v) (upd H p (.lst [.int x', .int y']))
/-- since H0: what stood stands; L: what is new and known, each place once -/
structure Objs (H0 H : Hp) (L : List (Addr × HO)) : Prop where
  same : Same H0 H
  at_ : ∀ q ∈ L, H q.1 = some q.2
  nd : (L.map (·.1)).Nodup
  new : ∀ q ∈ L, H0 q.1 = none
section
variable {H0 H H' : Hp} {L : List (Addr × HO)} {a : Addr} {o o' : HO} {i : Nat}
theorem Objs.nil (H : Hp) : Objs H H [] := ⟨Same.refl H, fun _ h => absurd h (by simp), List.nodup_nil, fun _ h => absurd h (by simp)⟩
theorem Objs.get (h : Objs H0 H L) (i : Nat) (hi : L[i]? = some (a, o)) : H a = some o := h.at_ _ (List.mem_of_getElem? hi)
theorem Objs.mono (h : Objs H0 H L) (s : Same H H') : Objs H0 H' L := ⟨h.same.trans s, fun q hq => s _ _ (h.at_ q hq), h.nd, h.new⟩
theorem Objs.fresh (h : Objs H0 H L) (n : H a = none) : a ∉ L.map (·.1) ∧ H0 a = none :=
  ⟨fun z => (by
    obtain ⟨q, hq, e⟩ := List.mem_map.mp z
    have := h.at_ q hq
    rw [e, n] at this
    cases this), h.same.free n⟩
theorem Objs.push (h : Objs H0 H L) (n : H a = none) (s : Same H H') (e : H' a = some o) : Objs H0 H' ((a, o) :: L) := by
  obtain ⟨h1, h2⟩ := h.fresh n
  refine ⟨h.same.trans s, fun q hq => ?_, ?_, fun q hq => ?_⟩
  · rcases List.mem_cons.mp hq with z | z
    · rw [z]; exact e
    · exact s _ _ (h.at_ q z)
  · rw [List.map_cons, List.nodup_cons]
    exact ⟨h1, h.nd⟩
  · rcases List.mem_cons.mp hq with z | z
    · rw [z]; exact h2
    · exact h.new q z
theorem Objs.add (h : Objs H0 H L) (n : H a = none) : Objs H0 (upd H a o) ((a, o) :: L) := h.push n (same_upd n) upd_same
theorem Objs.skip (h : Objs H0 H L) (n : H a = none) : Objs H0 (upd H a o) L := h.mono (same_upd n)
theorem Objs.set (h : Objs H0 H L) (i : Nat) (hi : L[i]? = some (a, o)) (k : Keep H H' a) (e : H' a = some o') : Objs H0 H' (L.set i (a, o')) := by
  have hm : (a, o) ∈ L := List.mem_of_getElem? hi
  obtain ⟨hlt, hie⟩ := List.getElem?_eq_some_iff.mp hi
  have hmap : (L.set i (a, o')).map (·.1) = L.map (·.1) := by
    rw [List.map_set]
    apply List.ext_getElem?
    intro j
    by_cases hj : i = j
    · subst hj
      rw [List.getElem?_set_self (by simpa using hlt), List.getElem?_map, hi]
      rfl
    · rw [List.getElem?_set_ne hj]
  have h0 := h.new _ hm
  refine ⟨Keep.new h0 h.same k, fun q hq => ?_, by rw [hmap]; exact h.nd, fun q hq => ?_⟩
  · obtain ⟨j, hj⟩ := List.getElem?_of_mem hq
    by_cases hij : i = j
    · subst hij
      rw [List.getElem?_set_self hlt] at hj
      cases hj
      exact e
    · rw [List.getElem?_set_ne hij] at hj
      have hq2 := List.mem_of_getElem? hj
      refine k _ _ (fun z => ?_) (h.at_ q hq2)
      have e1 : (L.map (·.1))[i]? = some a := by rw [List.getElem?_map, hi]; rfl
      have e2 : (L.map (·.1))[j]? = some a := by rw [List.getElem?_map, hj, ← z]; rfl
      obtain ⟨g1, f1⟩ := List.getElem?_eq_some_iff.mp e1
      obtain ⟨g2, f2⟩ := List.getElem?_eq_some_iff.mp e2
      exact hij ((List.getElem_inj h.nd).mp (f1.trans f2.symm))
  · obtain ⟨j, hj⟩ := List.getElem?_of_mem hq
    by_cases hij : i = j
    · subst hij
      rw [List.getElem?_set_self hlt] at hj
      cases hj
      exact h0
    · rw [List.getElem?_set_ne hij] at hj
      exact h.new q (List.mem_of_getElem? hj)
theorem Objs.put (h : Objs H0 H L) (i : Nat) (hi : L[i]? = some (a, o)) : Objs H0 (upd H a o') (L.set i (a, o')) := h.set i hi (keep_upd H a o') upd_same
/-- one more, that was new at some time since -/
theorem Objs.join {b : Addr} {u : HO} (h : Objs H0 H' L) (n : b ∉ L.map (·.1)) (n0 : H0 b = none) (e : H' b = some u) : Objs H0 H' ((b, u) :: L) := by
  refine ⟨h.same, fun q hq => ?_, ?_, fun q hq => ?_⟩
  · rcases List.mem_cons.mp hq with z | z
    · rw [z]; exact e
    · exact h.at_ q z
  · rw [List.map_cons, List.nodup_cons]
    exact ⟨n, h.nd⟩
  · rcases List.mem_cons.mp hq with z | z
    · rw [z]; exact n0
    · exact h.new q z
theorem Objs.sub {L' : List (Addr × HO)} (h : Objs H0 H L) (s : List.Sublist L' L) : Objs H0 H L' :=
  ⟨h.same, fun q hq => h.at_ q (s.subset hq), h.nd.sublist (s.map _), fun q hq => h.new q (s.subset hq)⟩
theorem Objs.ne (h : Objs H0 H L) {b : Addr} {u : HO} (i j : Nat) (hi : L[i]? = some (a, o)) (hj : L[j]? = some (b, u)) (hij : i ≠ j) : a ≠ b := fun z => by
  have e1 : (L.map (·.1))[i]? = some a := by rw [List.getElem?_map, hi]; rfl
  have e2 : (L.map (·.1))[j]? = some a := by rw [List.getElem?_map, hj, z]; rfl
  obtain ⟨g1, f1⟩ := List.getElem?_eq_some_iff.mp e1
  obtain ⟨g2, f2⟩ := List.getElem?_eq_some_iff.mp e2
  exact hij ((List.getElem_inj h.nd).mp (f1.trans f2.symm))
end
theorem ixN_of {n : Nat} {i : Int} (h0 : 0 ≤ i) (h1 : i < n) : ixN n i = some i.toNat := by
  unfold ixN
  rw [if_pos h0, if_pos h1]
theorem get_at {ns : List Int} {i : Nat} (h : i < ns.length) : atI (ns.map V.int) (0 + (i : Int)) = some (.int ns[i]) := by
  rw [Int.zero_add]
  refine atI_nat ?_
  rw [List.getElem?_map, List.getElem?_eq_getElem h]
  rfl
theorem at_back {ns : List Int} {i : Nat} (h : i < ns.length) : atI (ns.map V.int) ((ns.length : Int) - 1 - (0 + (i : Int))) = some (.int (ns[ns.length - 1 - i]'(by omega))) := by
  rw [show (ns.length : Int) - 1 - (0 + (i : Int)) = ((ns.length - 1 - i : Nat) : Int) by omega]
  refine atI_nat ?_
  rw [List.getElem?_map, List.getElem?_eq_getElem (by omega)]
  rfl
theorem ne_of_none' {H : Hp} {a b : Addr} {o : HO} (h : H a = some o) (h' : H b = none) : b ≠ a := (ne_of_none h h').symm
end Lw

set_option Elab.async false
set_option linter.all false
set_option maxRecDepth 100000
set_option maxHeartbeats 2000000
/-! all(e for target in walked), any(..): the element may call own defs; by the frame of the generator as a context of its own. -/
namespace GA
open PySem PySem.Spec PyProof.Rows L2 GenW GxR

/-- the frame of a generator expression that was made at s -/
abbrev gen (X : Cx) (A : Around) (s : Shared) (H : Hp) (cenv : Env) (fp : List Addr) (pn : List (Addr × Obj)) : Cx :=
  { X with A := A, s_0 := s, H_0 := H, env := cenv, outer := X.stack, stack := cenv :: X.stack, ex := fp, fn := fun _ => false, pn := pn, xe := fun _ _ => False }
/-- its environment -/
abbrev genv (X : Cx) (scope : Scope) (C : Addr) (code : Value) : Env := genEnv scope (cloFrom X.env.cells scope.names []) C code builtinsNs X.env
structure GenOk (N : List Str) (sc scope : Scope) (own : List (Str × Nat)) : Prop where
  blk : BlkOk N sc scope own
  co : scope.isCoroutine = false
  cell : ∀ y ∈ scope.names, y.2 ≠ .cell
  dot : scope.names.lookup (".0" : Str) = some NameKind.local
theorem genOk_by {N : List Str} {sc scope : Scope} {own : List (Str × Nat)} (h : (scope.kind = .function ∧ (∀ y ∈ scope.names, scope.names.lookup y.1 = some y.2) ∧ (∀ p ∈ own, N[p.2]? = some p.1) ∧
    (∀ y ∈ scope.names, y.2 = .free → sc.names.lookup y.1 = some .cell ∨ sc.names.lookup y.1 = some .free) ∧ (∀ y ∈ scope.names, y.2 = .local ∨ y.2 = .cell → y.1 ∈ own.map (·.1) ∨ y.1 ∉ N)) ∧
    scope.isCoroutine = false ∧ (∀ y ∈ scope.names, y.2 ≠ .cell) ∧ scope.names.lookup (".0" : Str) = some NameKind.local) : GenOk N sc scope own :=
  ⟨⟨h.1.1, h.1.2.1, h.1.2.2.1, h.1.2.2.2.1, h.1.2.2.2.2⟩, h.2.1, h.2.2.1, h.2.2.2⟩

section
variable {X : Cx} {pins : List (Addr × Obj)} {σ : L2.St} {H : Hp} {s : Shared}
theorem gen_start {A : Around} {scope : Scope} {own : List (Str × Nat)} {fp : List Addr} {a : Addr} {code : Value} {go : Obj} {m0 : Str → Option Value} {s5 : Shared} (I : Inv X pins σ H s) (ok : GenOk X.N X.env.scope scope own) (hN : X.N.Nodup)
    (hA : A.frames = some X.stack) (hh : A.handled = none) (hfp : ∀ b ∈ fp, FpOk X pins H b ∧ b < s.heap.objs.size) (kp : ∀ b o, s.heap.get? b = some o → s5.heap.get? b = some o) (hns : s5.heap.Ns s.heap.objs.size m0) (hos : s5.os = s.os) (hb5 : AllBare s5.gens)
    (ha : s.heap.objs.size < a) (hgo : s5.heap.get? a = some go) (hgd : ∀ v, go.data ≠ .cell v) :
    Inv (gen X (A.deeper (genv X scope s.heap.objs.size code)) s H (genv X scope s.heap.objs.size code) fp [(a, go)]) [] (wipe σ (own.map (·.2))) H s5 := by
  have hfree : ∀ y ∈ scope.names, y.2 = .free → ∃ c, X.env.cells.lookup y.1 = some c := fun y hy e => by
    rcases ok.blk.free y hy e with k | k
    · exact I.ok.has _ (.inl k)
    · exact I.ok.has _ (.inr k)
  have cm : ∀ {y c}, (y, c) ∈ cloFrom X.env.cells scope.names [] → X.env.cells.lookup y = some c ∧ c < s.heap.objs.size ∧ (y, NameKind.free) ∈ scope.names := fun {y c} hm => by
    rcases cloFrom_mem hm with hm | ⟨h1, rfl⟩
    · cases hm
    · obtain ⟨c, hc⟩ := hfree _ h1 rfl
      rw [hc]
      obtain ⟨w, z⟩ := I.cell _ _ hc
      exact ⟨rfl, z.lt, h1⟩
  have cm2 : ∀ {y c}, (cloFrom X.env.cells scope.names []).lookup y = some c → X.env.cells.lookup y = some c ∧ c < s.heap.objs.size ∧ (y, NameKind.free) ∈ scope.names := fun {y c} e => cm (PySem.mem_of_lookup e)
  have look : ∀ {y}, scope.names.lookup y = some .free → ∃ c, (cloFrom X.env.cells scope.names []).lookup y = some c := fun {y} hl =>
    mem_lookup (cloFrom_has (cells := X.env.cells) (acc := []) (PySem.mem_of_lookup hl))
  refine ⟨⟨I.ok.mod, ok.blk.kind, I.ok.glob, rfl, Nat.le_refl _, fun y z c e1 e2 => I.ok.inj y z c (cm2 e1).1 (cm2 e2).1, fun y hy => ?_, fun y c z e => ?_, fun _ => hh, Around.frames_deeper hA, .inr ⟨rfl, rfl⟩, fun b hb => ⟨?_, fun y c e z => ?_⟩, I.bs, Nat.le_trans I.ok.bsz I.sz, fun b o e hb => ?_, fun b hb z => ?_, I.stack, I.stkFree⟩,
    hos, hb5, Un.kept kp, ⟨m0, hns, fun i y av e1 e2 e3 => ?_⟩, fun y c e => ?_, I.hok.fresh (Nat.le_refl _), fun y c e => ?_, fun p hp => ?_, I.hok.kept kp, by rw [wipe_length]; exact I.len⟩
  · have hy : scope.names.lookup y = some .cell ∨ scope.names.lookup y = some .free := hy
    rcases hy with hy | hy
    · exact absurd rfl (ok.cell _ (PySem.mem_of_lookup hy))
    · exact look hy
  · cases z
  · exact Nat.ne_of_lt (hfp b hb).2
  · exact (hfp b hb).1.2.2.2.2.1 y c (cm2 e).1 z
  · rcases (hfp b hb).1.2.2.2.1 with z | z
    · exact I.ok.noex b o e z
    · exact absurd (Nat.lt_of_lt_of_le (Heap.lt_size e) (Nat.le_trans I.ok.bsz z)) (Nat.lt_irrefl _)
  · rcases List.mem_cons.mp (I.stkSub b z) with z | z
    · exact (hfp b hb).1.2.1 z
    · exact (hfp b hb).1.2.2.1 z
  · obtain ⟨e2, hne⟩ := wipe_some e2
    have hfr : scope.names.lookup y = some .free := by
      have no : ∀ k, scope.names.lookup y = some k → ¬ (k = .local ∨ k = .cell) := fun k e hh => by
        rcases ok.blk.own _ (PySem.mem_of_lookup e) hh with e' | e'
        · obtain ⟨p, hp, hpy⟩ := List.mem_map.mp e'
          have e3 := ok.blk.ix p hp
          have : p.1 = y := hpy
          rw [this] at e3
          exact hne (List.mem_map.mpr ⟨p, hp, nodup_ix hN e3 e1⟩)
        · exact e' (List.mem_of_getElem? e1)
      have e3 : Vis scope y := e3
      rcases e3 with e3 | e3 | e3
      · exact absurd (.inl rfl) (no _ e3)
      · exact absurd (.inr rfl) (no _ e3)
      · exact e3
    obtain ⟨m, hn, hl⟩ := I.loc
    have hvis : Vis X.env.scope y := (ok.blk.free _ (PySem.mem_of_lookup hfr) rfl).elim (fun k => .inr (.inl k)) (fun k => .inr (.inr k))
    obtain ⟨w, r, q⟩ := hl i y av e1 e2 hvis
    obtain ⟨c, hc⟩ := look hfr
    refine ⟨w, r, .inr ⟨.inr hfr, c, hc, ?_⟩⟩
    rcases q with ⟨k, _⟩ | ⟨_, c', e', z⟩
    · have k : X.env.scope.names.lookup y = some .local := k
      rcases ok.blk.free _ (PySem.mem_of_lookup hfr) rfl with k' | k' <;> rw [show X.env.scope.names.lookup y = _ from k'] at k <;> cases k
    · rw [(cm2 hc).1] at e'
      cases e'
      obtain ⟨o, ho, hd⟩ := z
      exact ⟨o, kp _ _ ho, hd⟩
  · obtain ⟨v, o, ho, hd⟩ := I.cell y c (cm2 e).1
    exact ⟨v, o, kp _ _ ho, hd⟩
  · exact I.freeC y c (cm2 e).1
  · have e : p = (a, go) := by simpa using hp
    subst e
    refine ⟨hgo, I.hok.fresh (Nat.le_of_lt ha), Nat.ne_of_gt ha, fun z => ?_, hgd⟩
    have z : a ∈ frs X.stack := z
    rcases List.mem_cons.mp (I.stkSub a z) with e | e
    · exact absurd (Nat.lt_trans I.lt ha) (by rw [e]; exact Nat.lt_irrefl _)
    · exact I.nofs (Nat.le_of_lt ha) e

/-- the generator expression's code object: made, or found in the def's table; the table may have grown -/
theorem gcode {A : Around} {E : Value → Shared → Prop} {c P : Addr} {gpos : Pos} {qn : Str} {scope : Scope} {Q : Value → Shared → Prop} (TB : LamX.TabB X.base X.mg c P) (hcode : X.env.code = .ref c) (I : Inv X pins σ H s) (ht : TabG H P)
    (hQ : ∀ code s' H', Tabbed P H H' → Inv X pins σ H' s' → s.heap.objs.size ≤ s'.heap.objs.size → (∀ b o, b ≠ P → s.heap.get? b = some o → s'.heap.get? b = some o) → Q code s') :
    wpAny (model X.prog X.w) A (genexprCode X.env gpos qn scope) Q E s := by
  obtain ⟨ps, hP, ht⟩ := ht
  have hPs : s.heap.get? P = some { cls := .none, data := .fields ps } := I.hok P _ hP
  have cd : PySem.W.CodeHd s.heap c P := TB.code.keeps fun b u e => I.bk b u e
  cases hf : codeAmong gpos ps.toList with
  | none =>
    refine wpAny_genexprCodeX hcode (cd.code hPs ht) (cd.tab hPs) hf fun c' h' tk hx hge hlt hco' _ htab' _ => ?_
    obtain ⟨o1, vs, f1, tf, fl, tg, inF, tx, tt, op, _, _, _, _, _, _, _, _, _, htr, _⟩ := hco'
    have J := inv_tab (h' := h') (g' := s.gens) (d' := s.drawn) (t' := tk) I hP (fun b o hb e => hx b o hb e) htab'.2 I.bare
    exact hQ _ _ _ ⟨⟨_, upd_same, htr⟩, fun b hb => upd_ne hb⟩ J (Nat.le_trans hge (Nat.le_of_lt hlt)) fun b o hb e => hx b o hb e
  | some cv =>
    refine wpAny_genexprCode_hit hcode (cd.code hPs ht) hf ?_
    exact hQ cv s H ⟨⟨ps, hP, ht⟩, fun _ _ => rfl⟩ I (Nat.le_refl _) fun _ _ _ e => e
theorem gblt {A : Around} {E : Value → Shared → Prop} {c P : Addr} {Q : Addr → Shared → Prop} (TB : LamX.TabB X.base X.mg c P) (I : Inv X pins σ H s) (h : Q builtinsNs s) : wpAny (model X.prog X.w) A (builtinsFor X.env.globals X.env.builtins) Q E s := by
  obtain ⟨bm, ob, e1, e2, e3, e4, e5, e6, e7, e8⟩ := TB.bm
  exact wpAny_builtinsFor (m := X.mg) (by rw [I.ok.glob]; exact I.mod.glob.keeps I.bk) e1 e2 (I.bk _ _ e5) e6 e7 e8 h

/-! ### the generator's run -/
structure Wk (s s' : Shared) : Prop where
  os : s'.os = s.os
  bare : AllBare s'.gens
  keep : ∀ b o, s.heap.get? b = some o → s'.heap.get? b = some o
def YB (Y0 : Bool → Shared → Prop) : Protocol := fun _ _ v s kap => ∃ b, v = .bool b ∧ Y0 b s ∧ (b = true → ∀ s', Wk s s' → kap (.send .none) s')
def RB (F : Shared → Prop) : GenEnd := fun _ _ r s => ((r = .ok (.ret .none) ∨ r = .ok .next) ∧ F s) ∨ ∃ e, r = .error e ∧ False
theorem over_gloop {A : Around} {e : Expr} {gs : List Comprehension} {sc : Scope} {pos : Pos} {it : Value} {cenv : Env} : A.over (.compLoop (.GeneratorExp e gs sc pos) 0 it .none cenv) [] = A.deeper cenv := by
  first
    | rfl
    | (obtain ⟨hd, d, fr, gs, u⟩ := A; simp [Around.over, Around.deeper, marksOver, frameCount, unitsOf, envsOf, guardsOf, pushEnvs, pushGuards, Code.envs, Code.env?, Code.isFrame, Code.guards, Code.isGuard, Code.weight, Code.frames, Code.isCreation, Code.isCaller, Code.cUnits])
theorem over_gstart {A : Around} {e : Expr} {gs : List Comprehension} {sc : Scope} {pos : Pos} {it : Value} {cenv : Env} : A.over (.compStart (.GeneratorExp e gs sc pos) 0 it .none cenv) [] = A.deeper cenv := by
  first
    | rfl
    | (obtain ⟨hd, d, fr, gs, u⟩ := A; simp [Around.over, Around.deeper, marksOver, frameCount, unitsOf, envsOf, guardsOf, pushEnvs, pushGuards, Code.envs, Code.env?, Code.isFrame, Code.guards, Code.isGuard, Code.weight, Code.frames, Code.isCreation, Code.isCaller, Code.cUnits])
end
section
variable {Z : Cx} {tg iter elt : Expr} {scope : Scope} {gpos : Pos} {A : Around} {it : Addr} {fp : List Addr} {tn : Nat → Heap → Prop} {J : It} {g : TG} {te : TE} {W : Nat → Nat → Hp → Prop} {QT QF : Hp → Prop} {σ0 : L2.St} {vs : List Nat}
theorem seg_gloop (hA : A.deeper Z.env = Z.A) (hc : Z.calm = true) (hxe : ∀ e s, ¬ Z.xe e s) (hco : Z.env.scope.isCoroutine = false) (T : Turn Z.prog Z.w Z.K tg J fp it tn) (pg : PG Z tg g) (pe : PE Z elt te)
    (hσ : ∀ σ2 : L2.St, wipe σ2 vs = σ0 → ∀ (i : Nat) v, σ0[i]? = some (some v) → σ2[i]? = some (some v)) (hl : ∀ σ2 : L2.St, wipe σ2 vs = σ0 → σ0.length = σ2.length)
    (stat : ∀ {σ' : L2.St} {H' : Hp} {s' : Shared}, Inv Z [] σ' H' s' → (∀ b ∈ fp, H' b = none) → ∀ b ∈ fp, FpOk Z [] H' b)
    (turn : ∀ i m H, W i m H → (J.stop i H ∧ QT H) ∨ (J.go i H ∧ ∃ Nx : Hp → Prop, (∀ H', Nx H' → ∃ m', m' < m ∧ W (i + 1) m' H') ∧ ∀ x H', J.yld i H x H' → g x σ0 H' fun σ2 H2 => wipe σ2 vs = σ0 ∧
      te σ2 H2 fun y H4 => ∃ b, y = .bl b ∧ (if b = true then Nx H4 else QF H4))) :
    ∀ (m n i : Nat) (s₀ s : Shared) (H : Hp), m < n → Inv Z [] σ0 H s → tn i s.heap → (∀ b ∈ fp, H b = none) → W i m H →
      Seg (model Z.prog Z.w) A (RB fun s => ∃ H', Inv Z [] σ0 H' s ∧ QT H') (YB fun b s => ∃ H', Inv Z [] σ0 H' s ∧ (b = false → QF H')) n s₀
        (.compLoop (.GeneratorExp elt [⟨tg, iter, [], 0⟩] scope gpos) 0 (.ref it) .none Z.env)
        ((model Z.prog Z.w).den (.compLoop (.GeneratorExp elt [⟨tg, iter, [], 0⟩] scope gpos) 0 (.ref it) .none Z.env)) [] s := by
  intro m
  induction m using Nat.strongRecOn with
  | ind m ih =>
    intro n i s₀ s H hmn I st nfp w
    have ov : A.over (.compLoop (.GeneratorExp elt [⟨tg, iter, [], 0⟩] scope gpos) 0 (.ref it) .none Z.env) [] = Z.A := over_gloop.trans hA
    obtain ⟨n, rfl⟩ : ∃ k, n = k + 1 := ⟨n - 1, by omega⟩
    show Seg _ A _ _ _ s₀ _ ((compTurn (.GeneratorExp elt [⟨tg, iter, [], 0⟩] scope gpos) 0 (.ref it) .none Z.env).onRaise (leaving Z.env)) [] s
    rw [compTurn_gen, Sem.onRaise_eq_wrap]
    refine seg_bind_wrap (wpAny_standAt ?_)
    refine seg_bind_wrap ?_
    rw [ov]
    rcases turn i m H w with ⟨stop, q⟩ | ⟨go, Nx, hNx, step⟩
    · refine thnF (T.done Z rfl rfl rfl hc i [] s σ0 H (fun _ _ => False) I (stat I nfp) st stop) fun r s1 ⟨hr, I1⟩ => ?_
      subst hr
      exact seg_end (.ok .next) (.inl ⟨.inr rfl, H, I1, q⟩)
    · refine thnF (T.item Z rfl rfl rfl hc i [] s σ0 H (fun _ _ => False) I (stat I nfp) st go) fun r s1 ⟨u, hr, h1⟩ => ?_
      subst hr
      refine seg_bind_wrap ?_
      rw [ov]
      refine thnF h1 fun _ s2 ⟨x, H2, I2, r2, y2, st2, n2⟩ => ?_
      have I2' := I2.pinned (stat I2 n2) (T.obj _ _ st2)
      refine seg_bind_wrap ?_
      rw [ov]
      refine wpAny_mono (pg.run _ s2 _ H2 x u _ I2' r2 (step x H2 y2)) (fun _ s3 ⟨σ3, H3, I3, hw3, q3⟩ => ?_) fun e s' z => (hxe e s' z).elim
      refine seg_bind_wrap (wpAny_tests_nil ?_)
      simp only [if_true]
      have hy : ∀ v, yieldOut Z.env v = yieldValue v := fun v => by simp only [yieldOut, hco, Bool.false_eq_true, if_false]
      simp only [hy]
      rw [Sem.bind_eq_wrap', Sem.bind_eq_wrap', Sem.wrap_wrap, Sem.wrap_wrap]
      refine seg_wrap ?_
      rw [ov]
      refine wpAny_mono (pe.run _ s3 σ3 H3 _ I3 q3) (fun z s4 ⟨yv, H4, I4, r4, b, eb, q4⟩ => ?_) fun e s' z => (hxe e s' z).elim
      subst eb
      obtain rfl : z = Value.bool b := r4
      have pin' : ∀ b ∈ fp, ∀ o, s2.heap.get? b = some o → s4.heap.get? b = some o ∧ H4 b = none := fun b hb o e =>
        let z := I4.pin (b, o) (List.mem_append_right _ (List.mem_append_right _ (mem_pinsAt hb e)))
        ⟨z.1, z.2.1⟩
      have I5 : Inv Z [] σ0 H4 s4 := (I4.unpinned (pins := [])).weak (hl σ3 hw3) (hσ σ3 hw3)
      refine seg_at (seg_yield rfl rfl rfl ⟨b, rfl, ⟨H4, I5, fun hb => by subst hb; simpa using q4⟩, fun hb s' wk => ?_⟩)
      subst hb
      obtain ⟨m', hm, w'⟩ := hNx H4 (by simpa using q4)
      have I6 : Inv Z [] σ0 H4 s' := I5.call' (ch := []) wk.os (Un.kept wk.keep) (I5.hok.kept wk.keep) wk.bare fun b hb => absurd hb (by simp)
      refine seg_again rfl (ih m' hm n (i + 1) s' s' H4 (by omega) I6 (T.keep _ _ _ st2 fun b hb o e => wk.keep b o (pin' b hb o e).1) (fun b hb => ?_) w')
      obtain ⟨o, e, _⟩ := T.obj _ _ st2 b hb
      exact (pin' b hb o e).2

theorem seg_gstart (hA : A.deeper Z.env = Z.A) (hc : Z.calm = true) (hxe : ∀ e s, ¬ Z.xe e s) (hco : Z.env.scope.isCoroutine = false) (T : Turn Z.prog Z.w Z.K tg J fp it tn) (pg : PG Z tg g) (pe : PE Z elt te)
    (hσ : ∀ σ2 : L2.St, wipe σ2 vs = σ0 → ∀ (i : Nat) v, σ0[i]? = some (some v) → σ2[i]? = some (some v)) (hl : ∀ σ2 : L2.St, wipe σ2 vs = σ0 → σ0.length = σ2.length)
    (stat : ∀ {σ' : L2.St} {H' : Hp} {s' : Shared}, Inv Z [] σ' H' s' → (∀ b ∈ fp, H' b = none) → ∀ b ∈ fp, FpOk Z [] H' b)
    (turn : ∀ i m H, W i m H → (J.stop i H ∧ QT H) ∨ (J.go i H ∧ ∃ Nx : Hp → Prop, (∀ H', Nx H' → ∃ m', m' < m ∧ W (i + 1) m' H') ∧ ∀ x H', J.yld i H x H' → g x σ0 H' fun σ2 H2 => wipe σ2 vs = σ0 ∧
      te σ2 H2 fun y H4 => ∃ b, y = .bl b ∧ (if b = true then Nx H4 else QF H4))) (m n : Nat) (s₀ s : Shared) (H : Hp) (hmn : m < n) (I : Inv Z [] σ0 H s) (st : tn 0 s.heap) (nfp : ∀ b ∈ fp, H b = none) (w : W 0 m H) :
      Seg (model Z.prog Z.w) A (RB fun s => ∃ H', Inv Z [] σ0 H' s ∧ QT H') (YB fun b s => ∃ H', Inv Z [] σ0 H' s ∧ (b = false → QF H')) n s₀
        (.compStart (.GeneratorExp elt [⟨tg, iter, [], 0⟩] scope gpos) 0 (.ref it) .none Z.env)
        ((model Z.prog Z.w).den (.compStart (.GeneratorExp elt [⟨tg, iter, [], 0⟩] scope gpos) 0 (.ref it) .none Z.env)) [] s := by
  have loop := seg_gloop (iter := iter) (scope := scope) (gpos := gpos) hA hc hxe hco T pg pe hσ hl stat turn m n 0 s₀ s H hmn I st nfp w
  show Seg _ A _ _ _ s₀ _ ((compStart (.GeneratorExp elt [⟨tg, iter, [], 0⟩] scope gpos) 0 (.ref it) .none Z.env).onRaise (leaving Z.env)) [] s
  unfold compStart
  rw [Sem.onRaise_eq_wrap]
  show Seg _ A _ _ _ s₀ _ ((ask >>= _).wrap _ _ _ _) [] s
  refine seg_bind_wrap (wpAny_askSetting ?_)
  split
  · exact seg_again rfl loop
  · first
      | exact seg_bind_wrap (wpAny_rule (seg_bind_wrap (wpAny_standAt (seg_bind_wrap (T.self _ 0 s _ _ st (seg_again rfl loop))))))
      | (refine seg_bind_wrap (wpAny_rule ?_); show Seg _ A _ _ _ s₀ _ ((standAt iter.pos >>= _).wrap _ _ _ _) [] s; exact seg_bind_wrap (wpAny_standAt (seg_bind_wrap (T.self _ 0 s _ _ st (seg_again rfl loop)))))
/-- only the table of generators, the tokens and what was drawn are others; the heap has grown -/
theorem inv_wk {H : Hp} {s s' : Shared} (I : Inv Z [] σ0 H s) (wk : Wk s s') : Inv Z [] σ0 H s' :=
  I.call' (ch := []) wk.os (Un.kept wk.keep) (I.hok.kept wk.keep) wk.bare fun b hb => absurd hb (by simp)
/-! ### who asks: all, any -/
theorem all_loop {A : Around} {a : Addr} {gi : Nat} (hh : A.handled = none) (hd : A.depth < recursionLimit) (hgen : ∀ {H : Hp} {s : Shared}, Inv Z [] σ0 H s → s.heap.IsGen a gi) :
    ∀ (n : Nat) (s : Shared) (gs : GenState) (H : Hp), Inv Z [] σ0 H s → s.gens[gi]? = some gs →
      gs.Goes (model Z.prog Z.w) A.in1.in1 (RB fun s => ∃ H', Inv Z [] σ0 H' s ∧ QT H') (YB fun b s => ∃ H', Inv Z [] σ0 H' s ∧ (b = false → QF H')) n (.send .none) (s.setGen gi .running) →
      codeAny (model Z.prog Z.w) A (.builtin "all.loop" ⟨[.ref a], []⟩) (fun r s' => ∃ b H', r = .ok (.ret (.bool b)) ∧ Inv Z [] σ0 H' s' ∧ (if b = true then QT H' else QF H')) s := by
  intro n
  induction n with
  | zero =>
    intro s gs H I hgs hgo
    refine codeAny_builtin F.entry_all_loop ?_
    rw [Around.under_plainId F.plain_all_loop _]
    show wpAny _ A.in1 (pyNext (.ref a) >>= _) _ _ s
    refine wpAny_bind (next_genG (F := fun _ _ s => ∃ H', Inv Z [] σ0 H' s ∧ QT H') (Er := fun _ _ => False) hh I.nolimit hd (hgen I) hgs hgo (fun v s₁ gs' hb hv => ?_) (fun s₁ hp h' hk => ?_) fun _ _ z => z.elim)
    · obtain ⟨b, rfl, ⟨H1, I1, q1⟩, nx⟩ := hv
      refine wpAny_bind (wpAny_holding (wpAny_truthy_bool ?_))
      refine wpAny_bind (wpAny_letGo ?_)
      cases b with
      | true => exact (nx rfl s₁ ⟨rfl, I1.bare, fun _ _ e => e⟩).elim
      | false =>
        first
          | exact wpAny_pure ⟨false, H1, rfl, inv_wk I1 ⟨rfl, allBare_setGen I1.bare hb, fun _ _ e => e⟩, by simpa using q1 rfl⟩
          | (simp only [Bool.false_eq_true, if_false]; exact wpAny_pure ⟨false, H1, rfl, inv_wk I1 ⟨rfl, allBare_setGen I1.bare hb, fun _ _ e => e⟩, by simpa using q1 rfl⟩)
          | (simp only [Bool.false_eq_true, if_false]; exact wpAny_bind (wpAny_rule (wpAny_pure ⟨false, H1, rfl, inv_wk I1 ⟨rfl, allBare_setGen I1.bare hb, fun _ _ e => e⟩, by simpa using q1 rfl⟩)))
    · obtain ⟨H1, I1, q1⟩ := hp
      refine wpAny_bind (wpAny_rule (wpAny_pure ⟨true, H1, rfl, inv_wk I1 ⟨rfl, allBare_setGen I1.bare rfl, hk⟩, by simpa using q1⟩))
  | succ n ih =>
    intro s gs H I hgs hgo
    refine codeAny_builtin F.entry_all_loop ?_
    rw [Around.under_plainId F.plain_all_loop _]
    show wpAny _ A.in1 (pyNext (.ref a) >>= _) _ _ s
    have hsz : gi + 1 ≤ s.gens.size := by
      rcases Nat.lt_or_ge gi s.gens.size with h | h
      · exact h
      · rw [Array.getElem?_eq_none h] at hgs; cases hgs
    refine wpAny_bind (wpAny_gsz hsz (next_genG (F := fun _ _ s => ∃ H', Inv Z [] σ0 H' s ∧ QT H') (Er := fun _ _ => False) hh I.nolimit hd (hgen I) hgs hgo (fun v s₁ gs' hb hv => fun hs1 => ?_) (fun s₁ hp h' hk => fun _ => ?_) fun _ _ z => z.elim))
    · obtain ⟨b, rfl, ⟨H1, I1, q1⟩, nx⟩ := hv
      refine wpAny_bind (wpAny_holding (wpAny_truthy_bool ?_))
      refine wpAny_bind (wpAny_letGo ?_)
      have hs1' : gi < s₁.gens.size := by
        rw [setGen_size] at hs1
        exact hs1
      cases b with
      | true =>
        simp only [if_true]
        refine wpAny_pure ⟨plainId_quiet F.plain_all_loop _, ih _ gs' H1 (inv_wk I1 ⟨rfl, allBare_setGen I1.bare hb, fun _ _ e => e⟩) (setGen_at hs1') ?_⟩
        exact nx rfl _ ⟨rfl, allBare_setGen (allBare_setGen I1.bare hb) rfl, fun _ _ e => e⟩
      | false =>
        first
          | exact wpAny_pure ⟨false, H1, rfl, inv_wk I1 ⟨rfl, allBare_setGen I1.bare hb, fun _ _ e => e⟩, by simpa using q1 rfl⟩
          | (simp only [Bool.false_eq_true, if_false]; exact wpAny_pure ⟨false, H1, rfl, inv_wk I1 ⟨rfl, allBare_setGen I1.bare hb, fun _ _ e => e⟩, by simpa using q1 rfl⟩)
          | (simp only [Bool.false_eq_true, if_false]; exact wpAny_bind (wpAny_rule (wpAny_pure ⟨false, H1, rfl, inv_wk I1 ⟨rfl, allBare_setGen I1.bare hb, fun _ _ e => e⟩, by simpa using q1 rfl⟩)))
    · obtain ⟨H1, I1, q1⟩ := hp
      refine wpAny_bind (wpAny_rule (wpAny_pure ⟨true, H1, rfl, inv_wk I1 ⟨rfl, allBare_setGen I1.bare rfl, hk⟩, by simpa using q1⟩))
end

section
variable {X : Cx} {tg iter elt : Expr} {scope : Scope} {gpos p pos : Pos} {wi : TI} {g : TG} {te : TE} {own : List (Str × Nat)} {c P : Addr} {k : Nat}
/-- all(elt for target in iter): W by the turn and a measure, Nx what a turn is to reach -/
def tAll (P : Addr) (wi : TI) (g : TG) (te : TE) (vs : List Nat) : TE := fun σ H Q => wi σ H fun J H1 => TabG H1 P ∧ ∀ H2, Tabbed P H1 H2 → ∃ W : Nat → Nat → Hp → Prop, (∃ m, W 0 m H2) ∧ ∀ i m H, W i m H →
  (J.stop i H ∧ Q (.bl true) H) ∨ (J.go i H ∧ ∃ Nx : Hp → Prop, (∀ H', Nx H' → ∃ m', m' < m ∧ W (i + 1) m' H') ∧ ∀ x H', J.yld i H x H' → g x (wipe σ vs) H' fun σ2 H2 => wipe σ2 vs = wipe σ vs ∧
    te σ2 H2 fun y H4 => ∃ b, y = .bl b ∧ (if b = true then Nx H4 else Q (.bl false) H4))
theorem wipe_wipe {σ σ2 : L2.St} {vs : List Nat} (h : wipe σ2 vs = wipe σ vs) : (∀ (i : Nat) v, (wipe σ vs)[i]? = some (some v) → σ2[i]? = some (some v)) ∧ (wipe σ vs).length = σ2.length := by
  refine ⟨fun i v e => ?_, ?_⟩
  · rw [← h] at e
    exact (wipe_some e).1
  · rw [← h, wipe_length]
theorem pe_all (hr : Room (k + 1) X.A) (hc : X.calm = true) (hN : X.N.Nodup) (hg : Gl X "all") (hm : X.mg "all" = none) (hb : bootBuiltins "all" = some (.builtin "all")) (TB : LamX.TabB X.base X.mg c P) (hcode : X.env.code = .ref c) (hi : PI X tg iter wi) (ok : GenOk X.N X.env.scope scope own)
    (hpg : ∀ (s : Shared) (H : Hp) (C : Addr) (code : Value) (fp : List Addr) (pn : List (Addr × Obj)), PG (gen X (X.A.in1.in1.deeper (genv X scope C code)) s H (genv X scope C code) fp pn) tg g)
    (hpe : ∀ (s : Shared) (H : Hp) (C : Addr) (code : Value) (fp : List Addr) (pn : List (Addr × Obj)), Room k (X.A.in1.in1.deeper (genv X scope C code)) → PE (gen X (X.A.in1.in1.deeper (genv X scope C code)) s H (genv X scope C code) fp pn) elt te)
    (hs : ∀ v, genFold iter X.env v = pure v := by intro _; rfl)
    (he : starEach [.GeneratorExp elt [⟨tg, iter, [], 0⟩] scope gpos] X.env = (false, eval (.GeneratorExp elt [⟨tg, iter, [], 0⟩] scope gpos) X.env) :: starEach [] X.env := by rfl) :
    PE X (.Call (.Name "all" p) [.GeneratorExp elt [⟨tg, iter, [], 0⟩] scope gpos] [] pos) (tAll P wi g te (own.map (·.2))) := by
  refine ⟨fun pins s σ H Q I h => ?_⟩
  refine wpAny_Call_Name_kw (ld_blt I hg hm hb ?_)
  refine PyProof.Rows.callWith_builtin1 ?_ he (by rfl)
  rw [he]
  show wpAny _ _ (spliced ((false, eval (.GeneratorExp elt [⟨tg, iter, [], 0⟩] scope gpos) X.env) :: backTo pos (starEach [] X.env))) _ _ s
  refine Calls.spliced_cons ?_
  have hfree : ∀ y ∈ scope.names, y.2 = .free → ∃ c, X.env.cells.lookup y.1 = some c := fun y hy e => by
    rcases ok.blk.free y hy e with k | k
    · exact I.ok.has _ (.inl k)
    · exact I.ok.has _ (.inr k)
  refine wpAny_GeneratorExp_make ok.co (closure_ok hfree) ok.cell ok.dot ok.blk.kind hr.depth ?_ hs
  refine thn (hi.run pins s σ H _ I h) fun xv s1 h1 => thn h1 fun itv s2 h2 => ?_
  obtain ⟨it, fp, tn, J, H2, rfl, I2, T, st2, f2, tab2, q2⟩ := h2
  refine ⟨I2.nolimit, ?_⟩
  refine gcode TB hcode I2 tab2 fun code s3 H3 tb3 I3 sz3 kp3 => ?_
  refine gblt TB I3 ?_
  intro h' hn' hs'
  have nP : ∀ b, H2 b = none → b ≠ P := fun b e z => by
    obtain ⟨ps, e2, _⟩ := tab2
    rw [z, e2] at e
    cases e
  have f3 : ∀ b ∈ fp, FpOk X pins H3 b ∧ b < s3.heap.objs.size := fun b hb => by
    obtain ⟨o, e, _⟩ := T.obj _ _ st2 b hb
    have hP := nP b (f2 b hb).1
    refine ⟨⟨by rw [tb3.2 b hP]; exact (f2 b hb).1, (f2 b hb).2⟩, Heap.lt_size (kp3 b o hP e)⟩
  have st3 : tn 0 s3.heap := T.keep _ _ _ st2 fun b hb o e => kp3 b o (nP b (f2 b hb).1) e
  have hsz : h'.objs.size = s3.heap.objs.size + 1 := by rw [hs'.1, Heap.size_push]
  have keep' : ∀ b o, s3.heap.get? b = some o → h'.get? b = some o := fun b o e => hs'.extBut b o (Nat.ne_of_lt (Heap.lt_size e)) (Heap.get?_push_of_some _ e)
  generalize hgo : ({ cls := .type "generator", data := .fields #[.int s3.gens.size 0, .str "<genexpr>" (s3.toks + 1), .str (X.env.qual ++ "<genexpr>") (s3.toks + 1 + 1)] } : Obj) = go
  have hgoc : go.cls = .type "generator" ∧ go.data = .fields #[.int s3.gens.size 0, .str "<genexpr>" (s3.toks + 1), .str (X.env.qual ++ "<genexpr>") (s3.toks + 1 + 1)] ∧ go.slots = #[] := by rw [← hgo]; exact ⟨rfl, rfl, rfl⟩
  have hpush : (h'.push go).get? h'.objs.size = some go := by rw [← hgo]; exact Heap.get?_push_size _ rfl
  generalize hgi : s3.gens.size = gi at hgoc
  obtain ⟨W, ⟨m0, w0⟩, turn⟩ := q2 H3 tb3
  generalize hs5 : ({ s3 with gens := s3.gens.push (.fresh (.compStart (.GeneratorExp elt [⟨tg, iter, [], 0⟩] scope gpos) 0 (.ref it) .none (genEnv scope (cloFrom X.env.cells scope.names []) s3.heap.objs.size code builtinsNs X.env))), toks := s3.toks + 1 + 1 + 1, heap := h'.push go } : Shared) = s5
  have e5h : s5.heap = h'.push go := by rw [← hs5]
  have kp5 : ∀ b o, s3.heap.get? b = some o → s5.heap.get? b = some o := fun b o e => by rw [e5h]; exact Heap.get?_push_of_some _ (keep' b o e)
  have hns5 := hn'.push go
  rw [← e5h] at hns5
  have b5 : AllBare s5.gens := by rw [← hs5]; exact I3.bare.push rfl
  have os5 : s5.os = s3.os := by rw [← hs5]
  have g5 : s5.gens[gi]? = some (.fresh (.compStart (.GeneratorExp elt [⟨tg, iter, [], 0⟩] scope gpos) 0 (.ref it) .none (genv X scope s3.heap.objs.size code))) := by
    rw [← hs5, ← hgi]
    exact Array.getElem?_push_size ..
  have ha : s3.heap.objs.size < h'.objs.size := by rw [hsz]; exact Nat.lt_succ_self _
  have I5 := gen_start (code := code) (s5 := s5) I3 ok hN (show X.A.in1.in1.frames = some X.stack from I.ok.frames) (show X.A.in1.in1.handled = none from I.ok.hd hc) f3 kp5 hns5 os5 b5 ha (by rw [e5h]; exact hpush) (fun v q => by rw [hgoc.2.1] at q; cases q)
  have st5 : tn 0 s5.heap := T.keep _ _ _ st3 fun b _ o e => kp5 b o e
  have pg := hpg s3 H3 s3.heap.objs.size code fp [(h'.objs.size, go)]
  have pe := hpe s3 H3 s3.heap.objs.size code fp [(h'.objs.size, go)] ⟨hr.hd, by have := hr.dp; show X.A.depth + 1 + 3 * k + 5 < _; omega, by have := hr.un; show X.A.units + 1 + 1 + 3 + 16 * k + 200 < _; omega⟩
  generalize hZ : gen X (X.A.in1.in1.deeper (genv X scope s3.heap.objs.size code)) s3 H3 (genv X scope s3.heap.objs.size code) fp [(h'.objs.size, go)] = Z at I5 pg pe
  have zp : Z.prog = X.prog := by rw [← hZ]
  have zw : Z.w = X.w := by rw [← hZ]
  have zK : Z.K = X.K := by rw [← hZ]
  have ze : Z.env = genv X scope s3.heap.objs.size code := by rw [← hZ]
  have stat : ∀ {σ' : L2.St} {H' : Hp} {s' : Shared}, Inv Z [] σ' H' s' → (∀ b ∈ fp, H' b = none) → ∀ b ∈ fp, FpOk Z [] H' b := fun {σ' H' s'} I' hn b hb => by
    have hx : Z.ex = fp := by rw [← hZ]
    have hb' : b ∈ Z.ex := by rw [hx]; exact hb
    refine ⟨hn b hb, (I'.ok.exf b hb').1, I'.ok.exfs b hb', .inl hb', fun x c e => (I'.ok.exf b hb').2 x c e, fun p hp => ?_⟩
    have hpn : Z.pn = [(h'.objs.size, go)] := by rw [← hZ]
    rw [hpn] at hp
    have e : p = (h'.objs.size, go) := by simpa using hp
    rw [e]
    exact Nat.ne_of_gt (Nat.lt_trans (f3 b hb).2 ha)
  have hσ : ∀ σ2 : L2.St, wipe σ2 (own.map (·.2)) = wipe σ (own.map (·.2)) → ∀ (i : Nat) v, (wipe σ (own.map (·.2)))[i]? = some (some v) → σ2[i]? = some (some v) := fun σ2 e => (wipe_wipe e).1
  have hl : ∀ σ2 : L2.St, wipe σ2 (own.map (·.2)) = wipe σ (own.map (·.2)) → (wipe σ (own.map (·.2))).length = σ2.length := fun σ2 e => (wipe_wipe e).2
  have T' : Turn Z.prog Z.w Z.K tg J fp it tn := by rw [zp, zw, zK]; exact T
  have hgen : ∀ {H : Hp} {s : Shared}, Inv Z [] (wipe σ (own.map (·.2))) H s → s.heap.IsGen h'.objs.size gi := fun {H s} J => by
    have hpn : Z.pn = [(h'.objs.size, go)] := by rw [← hZ]
    have q := (J.pin (h'.objs.size, go) (by rw [hpn]; simp)).1
    exact ⟨go, _, _, q, hgoc.1, hgoc.2.1, hgoc.2.2⟩
  refine Calls.spliced_nil ?_
  refine call_function_tree F.kind_all F.plain_all F.entry_all (F.args_all1 _) ?_
  unfold Builtin.«all»
  refine wpAny_bind (m := oneArg "all" _) (wpAny_pure ?_)
  refine wpAny_bind (wpAny_pyIter_gen (s := s5) (hgen I5) ?_)
  refine wpAny_pure ⟨plainId_quiet F.plain_all_loop _, ?_⟩
  have seg := seg_gstart (A := X.A.in1.in1) (Z := Z) (iter := iter) (scope := scope) (gpos := gpos) (QT := Q (.bl true)) (QF := Q (.bl false)) (by rw [ze, ← hZ]) (by rw [← hZ]; exact hc) (fun e s z => by rw [← hZ] at z; exact z) (by rw [ze]; exact ok.co) T' pg pe hσ hl stat turn m0 (m0 + 1) (s5.setGen gi .running) (s5.setGen gi .running) H3
    (Nat.lt_succ_self _) (inv_wk I5 ⟨rfl, allBare_setGen b5 rfl, fun _ _ e => e⟩) st5 (fun b hb => (f3 b hb).1.1) w0
  have loop := all_loop (A := X.A) (Z := Z) (QT := Q (.bl true)) (QF := Q (.bl false)) (a := h'.objs.size) (gi := gi) hr.hd hr.depth hgen (m0 + 1) s5 _ H3 I5 g5 ⟨rfl, by rw [ze] at seg; exact seg⟩
  rw [zp, zw] at loop
  refine codeAny_mono loop fun r s' hq => ?_
  obtain ⟨b, H', rfl, I6, q6⟩ := hq
  have u6 : Un (frs X.stack) fp H3 H' s3.heap s'.heap := by
    have := I6.base
    rw [← hZ] at this
    exact this
  have o6 : s'.os = s3.os := by
    have := I6.os
    rw [← hZ] at this
    exact this
  have k6 : HOk X.prog X.w H' s'.heap := by
    have := I6.hok
    rw [zp, zw] at this
    exact this
  refine ⟨.bl b, H', I3.call' (ch := fp) o6 u6 k6 I6.bare fun b hb => ⟨(f3 b hb).1.2.2.2.1, (f3 b hb).1.2.1, (f3 b hb).1.2.2.2.2.1, (f3 b hb).1.2.2.2.2.2⟩, rfl, ?_⟩
  cases b with
  | true => simpa using q6
  | false => simpa using q6
end

/-- a reading of all(..) over what a Walk walks: Pv by the turn and the heap -/
theorem all_it {J : It} {n : Nat} {G : Hp → Prop} {Y : Nat → Hp → V → Hp → Prop} (w : Walk J n G Y) {g : TG} {te : TE} {vs : List Nat} {σ : L2.St} {H2 : Hp} {QT QF : Hp → Prop} (Pv : Nat → Hp → Prop) (h0 : Pv 0 H2) (hG : ∀ i H, i ≤ n → Pv i H → G H)
    (hs : ∀ i x H H', i < n → Pv i H → Y i H x H' → g x (wipe σ vs) H' fun σ2 H2 => wipe σ2 vs = wipe σ vs ∧ te σ2 H2 fun y H4 => ∃ b, y = .bl b ∧ (if b = true then Pv (i + 1) H4 else QF H4)) (hd : ∀ H, Pv n H → QT H) :
    ∃ W : Nat → Nat → Hp → Prop, (∃ m, W 0 m H2) ∧ ∀ i m H, W i m H →
      (J.stop i H ∧ QT H) ∨ (J.go i H ∧ ∃ Nx : Hp → Prop, (∀ H', Nx H' → ∃ m', m' < m ∧ W (i + 1) m' H') ∧ ∀ x H', J.yld i H x H' → g x (wipe σ vs) H' fun σ2 H2 => wipe σ2 vs = wipe σ vs ∧
        te σ2 H2 fun y H4 => ∃ b, y = .bl b ∧ (if b = true then Nx H4 else QF H4)) := by
  refine ⟨fun i m H => m = n - i ∧ i ≤ n ∧ Pv i H, ⟨n, rfl, Nat.zero_le _, h0⟩, ?_⟩
  rintro i m H ⟨rfl, hi, p⟩
  have q := hG i H hi p
  by_cases hlt : i < n
  · refine .inr ⟨w.goes i H hlt q, Pv (i + 1), fun H' p' => ⟨n - (i + 1), by omega, rfl, hlt, p'⟩, fun x H' y => hs i x H H' hlt p (w.yields i H x H' hlt q y)⟩
  · have e : i = n := by omega
    subst e
    exact .inl ⟨w.stops H q, hd H p⟩
/-- a def of the text whose code object stands at c -/
structure FunC (K : PySem.W.Frag) (x qual : Str) (st : Stmt) (f : Addr) (fd : FuncData) (c : Addr) : Prop where
  ex : ∃ (oc : Value) (od : Option Addr) (kV doc pm : Value) (an : Option Addr) (ct : Value) (osl : Array (Option Value)),
    fd = PySem.W.fnOf x qual (defArgs st) (defBody st) (defScope st) .none kV doc pm an (.ref c) ct ∧ K.lookup f = some ⟨oc, od, .func fd, osl⟩ ∧ PySem.W.codeIn K (.ref c) qual = true
  kp : PySem.W.keepIn K (.ref f) = true
section
variable {P : Program} {w : World} {K : PySem.W.Frag} {mg : Str → Option Value} {base : Heap}
theorem FunC.ok {x qual : Str} {st : Stmt} {f c : Addr} {fd : FuncData} {N ps : List Str} {k : Nat} {sp : Sp} (F : FunC K x qual st f fd c) (S : FnScope N ps (defScope st)) (len : ∀ vs H Q E, sp vs H Q E → vs.length = ps.length)
    (hbody : ∀ (A : Around) (outer : List Env) (s : Shared) (H : Hp) (vs : List V) (Q : VK) (E : XK), Room k (A.deeper (envOfC qual (defScope st) s.heap.objs.size f (.ref c))) → sp vs H Q E →
      ∃ t, PSs (cxOf CX0 P w K mg base N qual (defScope st) f (.ref c) A outer s H E).nox (defBody st) t ∧ t { nx := fun _ H' => Q .non H', rt := Q } (start N vs) H) : FnOk P w K mg base CX0 (k + 1) f fd ps sp := by
  obtain ⟨oc, od, kV, doc, pm, an, ct, osl, rfl, lk, hcd⟩ := F.ex
  refine fn_of lk hcd S len fun A outer s H vs Q E hr hsp => ?_
  obtain ⟨t, h, q⟩ := hbody A outer s H vs Q E hr hsp
  exact ⟨t, h.nox, q⟩
theorem FunC.binds {x qual : Str} {st : Stmt} {f c : Addr} {fd : FuncData} {ps : List Str} (F : FunC K x qual st f fd c)
    (h : ∀ (kV doc pm : Value) (an : Option Addr) (cdv ct : Value) (us : List Value), us.length = ps.length → bindArgs (PySem.W.fnOf x qual (defArgs st) (defBody st) (defScope st) .none kV doc pm an cdv ct) ⟨us, []⟩ = pure (ps.zip us)) : Binds K fd ps [] := by
  obtain ⟨oc, od, kV, doc, pm, an, ct, osl, rfl, lk, hcd⟩ := F.ex
  exact .all (h kV doc pm an (.ref c) ct)
theorem func_mk {x qual : Str} {st : Stmt} {f c : Addr} {oc : Value} {od an : Option Addr} {osl : Array (Option Value)} {kV doc pm ct : Value} (l : K.lookup f = some ⟨oc, od, .func (PySem.W.fnOf x qual (defArgs st) (defBody st) (defScope st) .none kV doc pm an (.ref c) ct), osl⟩)
    (k1 : PySem.W.codeIn K (.ref c) qual = true) (k : PySem.W.keepIn K (.ref f) = true) : FunC K x qual st f (PySem.W.fnOf x qual (defArgs st) (defBody st) (defScope st) .none kV doc pm an (.ref c) ct) c := ⟨⟨oc, od, kV, doc, pm, an, ct, osl, rfl, l, k1⟩, k⟩
end
/-! ### the end of a law whose defs hold generator expressions -/
def GTab (q : Program) (K : PySem.W.Frag) (h : Heap) : Prop := ∀ (x : Str) (c P : Addr), ((recsOf q).find? fun e => e.name == x).isSome = true → PySem.W.tabIn K x = some (c, P) → PySem.W.CodeHd h c P ∧ h.get? P = some { cls := .none, data := .fields #[] }
theorem tab_by {K : PySem.W.Frag} {x : Str} {f c P : Addr} {oc oq : Value} {od dq : Option Addr} {fd : FuncData} {sl sq : Array (Option Value)} {vq : Array Value} (a : PySem.W.nsIn K mainGlobals x = some (some (.ref f))) (l : K.lookup f = some ⟨oc, od, .func fd, sl⟩) (e : fd.code = .ref c) (q : K.lookup c = some ⟨oq, dq, .fields vq, sq⟩) (v : vq[11]? = some (.ref P)) : PySem.W.tabIn K x = some (c, P) := by
  unfold PySem.W.tabIn
  rw [a]
  simp only [l, e, q, v]
theorem walk_ofG {l : PySem.W.OpenLaw} {n k : Nat} {q : Program} {loose : List Str} {XP : (Str → Option Value) → Heap → Prop} {YP : World → Heap → Prop} {d : DefRec} {K : Params → PySem.W.Frag} {CX : World → CXT} {x : Str}
    (hn : l.most = some n) (hn2 : n ≤ sizeLine) (hdf : d.params.defaults = []) (hr : Room k callerA) (hY : ∀ (w : World) (h : Heap), YP w h → (K w.params).In h)
    (F : ∀ (w : World) (mg : Str → Option Value) (fa : Addr) (h : Heap), YP w h → (K w.params).In h → h.Ns mainGlobals mg → mg d.name = some (.ref fa) → GTab q (K w.params) h → LamX.LawAtS l w (K w.params) (CX w) k n x mg fa h)
    (hCX : ∀ (w : World) (H : Hp) (s : Shared) (e : Value) (s' : Shared), CX w [] H s (fun _ _ _ => False) e s' → False) :
    PySem.W.WalkO q loose XP YP l.row.toRowW d [] (fun f vs => PySem.call f vs) := by
  refine Att.attach_callB hn hdf fun w s₀ s₁ mg mb fa o pm cd doc a vs ns G Y ho hd hcd hmg hobj hints hlen hbits hg => ?_
  have KX := hY w _ Y
  have gt : GTab q (K w.params) s₁.heap := fun x c P hr ht => by
    obtain ⟨d2, hd2⟩ := Option.isSome_iff_exists.mp hr
    exact PySem.W.tab_of (mb := mb) G.T KX hd2 ht
  obtain ⟨fd, cs, sp, hT, nT, C, hb, hsp, hF⟩ := F w mg fa _ Y KX G.T.g hmg gt
  exact LamX.law_callTs KX G.T.g G.T.b G.T.builtins G.T.nolimit hg hT nT C G.T.bmain hobj hints (Nat.le_trans hlen hn2) hr hF hb (fun H hH hS => hsp H a ns hlen hbits hH hS) fun H e s' => hCX w H s₁ e s'
end GA

set_option Elab.async false
set_option linter.all false
set_option maxRecDepth 100000
/-! a dict of the module's top with text keys: d.get(k, x), d[k], k in d -/
namespace KDx
open PySem PySem.Spec PyProof.Rows L2
section
variable {X : Cx} {o e f : Expr} {apos cpos : Pos} {td ty tx : TE}
def tKGet2 (K : PySem.W.Frag) (w : World) (td ty tx : TE) : TE := fun σ H Q => td σ H fun x H1 => ∃ d es n, x = .ref d ∧ KDict K w d es n ∧ ty σ H1 fun y H2 => tx σ H2 fun z H3 => ∃ (q : Str) (r : Option Value), y = .str q ∧ PySem.W.nsIn K d q = some r ∧
  (r = none → Q z H3) ∧ (∀ u, r = some u → ∃ v, RelV v u ∧ Q v H3)
theorem pe_kget2 (ho : PE X o td) (he : PE X e ty) (hf : PE X f tx) (m : M2 X o "get" apos e f cpos := by exact ⟨rfl, rfl, rfl, rfl⟩) : PE X (.Call (.Attribute o "get" apos) [e, f] [] cpos) (tKGet2 X.K X.w td ty tx) := by
  refine ⟨fun pins s σ H Q I h => ?_⟩
  refine wpAny_Call_method m.base m.few m.line PySem.F.plainAttrs_dict PySem.F.slot_dict_get PySem.F.type_dict_get (thn (ho.run pins s σ H _ I h) fun u s1 ⟨x, H1, I1, rx, d, es, n, ex, D, q1⟩ => ?_)
  subst ex
  obtain rfl : u = Value.ref d := rx
  have hm1 := PySem.W.mapOf_K (prog := X.prog) (w := X.w) I1.kIn D.at_ D.lit
  refine ⟨hm1.typeIs, fun b e => by cases e; exact ⟨_, I1.kIn _ _ D.at_, rfl⟩, ?_⟩
  rw [m.trees]
  refine Calls.callWith_builtin rfl (Calls.evalArgs_plain (Calls.spliced_cons (thn (he.run pins s1 σ H1 _ I1 q1) fun iv s2 ⟨y, H2, I2, ry, q2⟩ =>
    Calls.spliced_cons (thn (hf.run pins s2 σ H2 _ I2 q2) fun fv s3 ⟨z, H3, I3, rz, q, r, ey, er, qn, qs⟩ => Calls.spliced_nil ?_))))
  subst ey
  obtain ⟨t, rfl⟩ := ry
  have hm := PySem.W.mapOf_K (prog := X.prog) (w := X.w) I3.kIn D.at_ D.lit
  refine call_meetsIn PySem.F.slot_dict_get hm.typeIs PySem.F.entry_dict_get (PySem.F.args_dict_get_3 _ _ _) (meets_dict_get_default (strKind X.prog X.w) d (strKind_is X.prog X.w q t) D.low fv) ⟨_, hm, ?_⟩
  rw [PySem.W.find_K D.at_ er]
  cases r with
  | none => exact ⟨z, H3, I3.tok _, rz, qn rfl⟩
  | some u =>
    obtain ⟨v, rv, qv⟩ := qs u rfl
    exact ⟨v, H3, I3.tok _, rv, qv⟩
end
/-- what d.get(x, dflt) gives for each x of the list -/
def getB (K : PySem.W.Frag) (a : Addr) (dflt : Int) (l : List (Str × Int)) : Bool := l.all fun q => match PySem.W.nsIn K a q.1 with
  | some none => q.2 == dflt
  | some (some (.int i _)) => i == q.2
  | _ => false
theorem getB_ok {K : PySem.W.Frag} {a : Addr} {dflt : Int} {l : List (Str × Int)} (h : getB K a dflt l = true) {x : Str} {v : Int} (hx : (x, v) ∈ l) : ∃ r, PySem.W.nsIn K a x = some r ∧ (r = none → v = dflt) ∧ (∀ u, r = some u → RelV (.int v) u) := by
  have q := List.all_eq_true.mp h _ hx
  dsimp only at q
  split at q
  · rename_i e
    exact ⟨none, e, fun _ => by simpa using q, fun u z => by cases z⟩
  · rename_i i t e
    refine ⟨_, e, fun z => (by cases z), fun u z => ?_⟩
    cases z
    have : i = v := by simpa using q
    subst this
    exact ⟨t, rfl⟩
  · cases q
/-- the values of a dict of texts -/
def strB (K : PySem.W.Frag) (a : Addr) (l : List (Str × Str)) : Bool := l.all fun q => match PySem.W.nsIn K a q.1 with
  | some (some (.str z _)) => decide (z = q.2)
  | _ => false
theorem strB_ok {K : PySem.W.Frag} {a : Addr} {l : List (Str × Str)} (h : strB K a l = true) {x z : Str} (hx : (x, z) ∈ l) : ∃ u, PySem.W.nsIn K a x = some (some u) ∧ RelV (.str z) u := by
  have q := List.all_eq_true.mp h _ hx
  dsimp only at q
  split at q
  · rename_i y t e
    have : y = z := by simpa using q
    subst this
    exact ⟨_, e, t, rfl⟩
  · cases q
/-- a tuple of texts of the module's top -/
def strOf : Value → Option Str
  | .str z _ => some z
  | _ => none
def tupB (K : PySem.W.Frag) (a : Addr) (l : List Str) : Bool := match K.lookup a with
  | some ⟨.type "tuple", _, .seq its _, _⟩ => decide (its.toList.map strOf = l.map some)
  | _ => false
theorem vals_strs : ∀ {us : List Value} {l : List Str}, us.map strOf = l.map some → Vals (l.map V.str) us
  | [], [], _ => .nil
  | [], _ :: _, h => by cases h
  | _ :: _, [], h => by cases h
  | u :: us, z :: l, h => by
    have h1 : strOf u :: us.map strOf = some z :: l.map some := h
    injection h1 with h2 h3
    refine .cons ?_ (vals_strs h3)
    cases u <;> simp only [strOf] at h2 <;> cases h2
    exact ⟨_, rfl⟩
theorem tupB_ok {K : PySem.W.Frag} {H : Hp} {a : Addr} {l : List Str} (h : tupB K a l = true) (hl : l.length ≤ 1000) : SqT K H a (l.map V.str) := by
  unfold tupB at h
  split at h
  · rename_i dd its n sl hk
    have e := of_decide_eq_true h
    have e2 := congrArg List.length e
    rw [List.length_map, List.length_map] at e2
    refine .inr ⟨_, its, n, hk, rfl, rfl, ?_, vals_strs e⟩
    have : its.size = its.toList.length := by simp
    rw [this, e2, sizeLine_eq]
    omega
  · cases h
def cycles25 : List (Str × Int) := [("set", 1), ("move", 1), ("add", 1), ("addc", 1), ("sub", 1), ("subc", 1), ("and", 1), ("or", 1), ("xor", 1), ("less", 1), ("down", 1), ("up", 1), ("carry", 1), ("clear", 1), ("load", 1), ("store", 1), ("below", 1), ("halt", 1),
  ("downby", 2), ("jump", 2), ("call", 2), ("ret", 2), ("div", 2), ("mul", 4), ("high", 4)]
end KDx

set_option Elab.async false
set_option linter.all false
set_option maxRecDepth 100000
set_option maxHeartbeats 2000000
/-! the heap of a law's text with one source and two tables of code objects; values that read as data -/
namespace WD
open PySem PySem.Spec PyProof.Rows L2 Lw GxR
theorem iteF' {b : Bool} {A B : Prop} (e : b = false) (h : B) : if b = true then A else B := by
  rw [e]
  exact h
theorem at0 (x : V) (xs : List V) : atI (x :: xs) 0 = some x := atI_nat (j := 0) rfl
theorem at_map {α : Type} (f : α → V) {l : List α} {i : Int} (h0 : 0 ≤ i) (h1 : i < l.length) : ∃ x ∈ l, atI (l.map f) i = some (f x) := by
  obtain ⟨j, rfl⟩ := Int.eq_ofNat_of_zero_le h0
  have hj : j < l.length := by omega
  refine ⟨l[j], List.getElem_mem _, atI_nat ?_⟩
  rw [List.getElem?_map, List.getElem?_eq_getElem hj]
  rfl
/-! ### pairs -/
section
variable {α β : Type} {R S : α → β → Prop}
theorem paired_imp (f : ∀ a b, R a b → S a b) : ∀ {xs : List α} {ys : List β}, Paired R xs ys → Paired S xs ys
  | _, _, .nil => .nil
  | _, _, .cons r t => .cons (f _ _ r) (paired_imp f t)
theorem pr_get : ∀ {xs : List α} {ys : List β} {i : Nat} {x : α}, Paired R xs ys → xs[i]? = some x → ∃ y, ys[i]? = some y ∧ R x y
  | _, _, _, _, .nil, e => by simp at e
  | _, _, 0, _, .cons r _, e => by simp at e; subst e; exact ⟨_, rfl, r⟩
  | _, _, i + 1, x, .cons _ t, e => by
    obtain ⟨y, h1, h2⟩ := pr_get (i := i) (x := x) t (by simpa using e)
    exact ⟨y, by simpa using h1, h2⟩
theorem paired_at : ∀ {xs : List α} {ys : List β} {i : Nat} {y : β}, Paired R xs ys → ys[i]? = some y → ∃ x, xs[i]? = some x ∧ R x y
  | _, _, _, _, .nil, e => by simp at e
  | _, _, 0, _, .cons r _, e => by simp at e; subst e; exact ⟨_, rfl, r⟩
  | _, _, i + 1, y, .cons _ t, e => by
    obtain ⟨x, h1, h2⟩ := paired_at (i := i) (y := y) t (by simpa using e)
    exact ⟨x, by simpa using h1, h2⟩
theorem paired_take : ∀ (n : Nat) {xs : List α} {ys : List β}, Paired R xs ys → Paired R (xs.take n) (ys.take n)
  | 0, _, _, _ => .nil
  | _ + 1, _, _, .nil => .nil
  | n + 1, _, _, .cons r t => .cons r (paired_take n t)
theorem paired_drop : ∀ (n : Nat) {xs : List α} {ys : List β}, Paired R xs ys → Paired R (xs.drop n) (ys.drop n)
  | 0, _, _, h => h
  | _ + 1, _, _, .nil => .nil
  | n + 1, _, _, .cons _ t => paired_drop n t
theorem paired_app : ∀ {xs : List α} {ys : List β} {xs' : List α} {ys' : List β}, Paired R xs ys → Paired R xs' ys' → Paired R (xs ++ xs') (ys ++ ys')
  | _, _, _, _, .nil, h => h
  | _, _, _, _, .cons r t, h => .cons r (paired_app t h)
theorem paired_set {x : α} {y : β} (r : R x y) : ∀ (n : Nat) {xs : List α} {ys : List β}, Paired R xs ys → Paired R (xs.set n x) (ys.set n y)
  | _, _, _, .nil => .nil
  | 0, _, _, .cons _ t => .cons r t
  | n + 1, _, _, .cons q t => .cons q (paired_set r n t)
theorem paired_rep {x : α} {y : β} (r : R x y) : ∀ n : Nat, Paired R (List.replicate n x) (List.replicate n y)
  | 0 => .nil
  | n + 1 => .cons r (paired_rep r n)
end
/-! ### the heap -/
theorem Objs.perm' {H0 H : Hp} {L L' : List (Addr × HO)} (h : Objs H0 H L) (p : List.Perm L L') : Objs H0 H L' :=
  ⟨h.same, fun q hq => h.at_ q (p.mem_iff.mpr hq), (p.map _).nodup_iff.mp h.nd, fun q hq => h.new q (p.mem_iff.mpr hq)⟩
theorem suf (M L : List (Addr × HO)) : L <:+ M ++ L := ⟨M, rfl⟩
/-- a source at p, the tables of two code objects, and what is new and known since H0 -/
def Wd (P1 P2 : Addr) (H0 H : Hp) (p : Addr) (L : List (Addr × HO)) : Prop := ∃ x y, ∃ t1 t2 : Array Value, (0 : Int) ≤ x ∧ TriplesOk t1.toList ∧ TriplesOk t2.toList ∧ Objs H0 H ((p, .lst [.int x, .int y]) :: L)
/-- the same, without a source -/
def Wt (P1 P2 : Addr) (H0 H : Hp) (L : List (Addr × HO)) : Prop := ∃ t1 t2 : Array Value, TriplesOk t1.toList ∧ TriplesOk t2.toList ∧ Objs H0 H (L)
section
variable {P1 P2 : Addr} {H0 H H' : Hp} {p a : Addr} {L L' M : List (Addr × HO)} {u u' : HO} {Q : VK} {E : XK} {m x y : Int}
theorem Wd.draw (h : Wd P1 P2 H0 H p L) (m0 : 0 < m) (m1 : m ≤ 100000) (q : ∀ v H', 0 ≤ v → v < m → Wd P1 P2 H0 H' p L → Q (.int v) H') : spDraw [.ref p, .int m] H Q E := by
  obtain ⟨x, y, t1, t2, hx, h1, h2, o⟩ := h
  exact ⟨p, x, y, m, rfl, o.get 0 rfl, hx, m0, m1, fun v x' y' v0 v1 x0 => q v _ v0 v1 ⟨x', y', t1, t2, x0, h1, h2, o.put 0 rfl⟩⟩
theorem Wd.push (h : Wd P1 P2 H0 H p L) (n : H a = none) (s : Same H H') (e : H' a = some u) : Wd P1 P2 H0 H' p ((a, u) :: L) := by
  obtain ⟨x, y, t1, t2, hx, h1, h2, o⟩ := h
  exact ⟨x, y, t1, t2, hx, h1, h2, Objs.perm' (o.push n s e) (.swap _ _ _)⟩
theorem Wd.add (h : Wd P1 P2 H0 H p L) (n : H a = none) : Wd P1 P2 H0 (upd H a u) p ((a, u) :: L) := h.push n (same_upd n) upd_same
theorem Wd.mem (h : Wd P1 P2 H0 H p L) {q : Addr × HO} (hm : q ∈ L) : H q.1 = some q.2 := by
  obtain ⟨x, y, t1, t2, hx, h1, h2, o⟩ := h
  exact o.at_ q (List.mem_cons_of_mem _ hm)
theorem Wd.skip (h : Wd P1 P2 H0 H p L) (n : H a = none) : Wd P1 P2 H0 (upd H a u) p L := by
  obtain ⟨x, y, t1, t2, hx, h1, h2, o⟩ := h
  exact ⟨x, y, t1, t2, hx, h1, h2, o.skip n⟩
theorem Wd.sub (h : Wd P1 P2 H0 H p L) (s : List.Sublist L' L) : Wd P1 P2 H0 H p L' := by
  obtain ⟨x, y, t1, t2, hx, h1, h2, o⟩ := h
  exact ⟨x, y, t1, t2, hx, h1, h2, o.sub (s.cons_cons _)⟩
theorem Wd.mono (h : Wd P1 P2 H0 H p L) (s : Same H H') : Wd P1 P2 H0 H' p L := by
  obtain ⟨x, y, t1, t2, hx, h1, h2, o⟩ := h
  exact ⟨x, y, t1, t2, hx, h1, h2, o.mono s⟩
theorem Wd.perm (h : Wd P1 P2 H0 H p L) (q : List.Perm L L') : Wd P1 P2 H0 H p L' := by
  obtain ⟨x, y, t1, t2, hx, h1, h2, o⟩ := h
  exact ⟨x, y, t1, t2, hx, h1, h2, Objs.perm' o (.cons _ q)⟩
theorem Wd.put (h : Wd P1 P2 H0 H p L) (i : Nat) (hi : L[i]? = some (a, u)) : Wd P1 P2 H0 (upd H a u') p (L.set i (a, u')) := by
  obtain ⟨x, y, t1, t2, hx, h1, h2, o⟩ := h
  exact ⟨x, y, t1, t2, hx, h1, h2, o.put (i + 1) hi⟩
theorem Wd.drop (h : Wd P1 P2 H0 H p L) : Wt P1 P2 H0 H L := by
  obtain ⟨x, y, t1, t2, hx, h1, h2, o⟩ := h
  exact ⟨t1, t2, h1, h2, o.sub (List.sublist_cons_self _ _)⟩
theorem Wd.lay (h : Wd P1 P2 H0 H p L) : ∃ x y : Int, 0 ≤ x ∧ Wt P1 P2 H0 H ((p, .lst [.int x, .int y]) :: L) := by
  obtain ⟨x, y, t1, t2, hx, h1, h2, o⟩ := h
  exact ⟨x, y, hx, t1, t2, h1, h2, o⟩
theorem Wt.take (h : Wt P1 P2 H0 H (M ++ (p, .lst [.int x, .int y]) :: L)) (hx : 0 ≤ x) : Wd P1 P2 H0 H p (M ++ L) := by
  obtain ⟨t1, t2, h1, h2, o⟩ := h
  refine ⟨x, y, t1, t2, hx, h1, h2, Objs.perm' o ?_⟩
  exact List.perm_middle (l₁ := M) (a := (p, HO.lst [.int x, .int y])) (l₂ := L)
theorem Wt.src (h : Wt P1 P2 H0 H L) (n : H a = none) (hx : 0 ≤ x) : Wd P1 P2 H0 (upd H a (.lst [.int x, .int y])) a L := by
  obtain ⟨t1, t2, h1, h2, o⟩ := h
  exact ⟨x, y, t1, t2, hx, h1, h2, o.add n⟩
theorem Wt.add (h : Wt P1 P2 H0 H L) (n : H a = none) : Wt P1 P2 H0 (upd H a u) ((a, u) :: L) := by
  obtain ⟨t1, t2, h1, h2, o⟩ := h
  exact ⟨t1, t2, h1, h2, o.add n⟩
theorem Wt.push (h : Wt P1 P2 H0 H L) (n : H a = none) (s : Same H H') (e : H' a = some u) : Wt P1 P2 H0 H' ((a, u) :: L) := by
  obtain ⟨t1, t2, h1, h2, o⟩ := h
  exact ⟨t1, t2, h1, h2, o.push n s e⟩
theorem Wt.skip (h : Wt P1 P2 H0 H L) (n : H a = none) : Wt P1 P2 H0 (upd H a u) L := by
  obtain ⟨t1, t2, h1, h2, o⟩ := h
  exact ⟨t1, t2, h1, h2, o.skip n⟩
theorem Wt.mono (h : Wt P1 P2 H0 H L) (s : Same H H') : Wt P1 P2 H0 H' L := by
  obtain ⟨t1, t2, h1, h2, o⟩ := h
  exact ⟨t1, t2, h1, h2, o.mono s⟩
theorem Wt.mem (h : Wt P1 P2 H0 H L) {q : Addr × HO} (hm : q ∈ L) : H q.1 = some q.2 := by
  obtain ⟨t1, t2, h1, h2, o⟩ := h
  exact o.at_ q hm
theorem Wt.same (h : Wt P1 P2 H0 H L) : Same H0 H := by
  obtain ⟨t1, t2, h1, h2, o⟩ := h
  exact o.same
theorem Wd.same (h : Wd P1 P2 H0 H p L) : Same H0 H := h.drop.same
theorem Wt.put (h : Wt P1 P2 H0 H L) (i : Nat) (hi : L[i]? = some (a, u)) : Wt P1 P2 H0 (upd H a u') (L.set i (a, u')) := by
  obtain ⟨t1, t2, h1, h2, o⟩ := h
  exact ⟨t1, t2, h1, h2, o.put i hi⟩
theorem Wt.perm (h : Wt P1 P2 H0 H L) (q : List.Perm L L') : Wt P1 P2 H0 H L' := by
  obtain ⟨t1, t2, h1, h2, o⟩ := h
  exact ⟨t1, t2, h1, h2, Objs.perm' o q⟩
theorem Wt.sub (h : Wt P1 P2 H0 H L) (s : List.Sublist L' L) : Wt P1 P2 H0 H L' := by
  obtain ⟨t1, t2, h1, h2, o⟩ := h
  exact ⟨t1, t2, h1, h2, o.sub s⟩
end
/-- at the law's start: the script's list -/
theorem Wt.start {K : PySem.W.Frag} {HH : Hp} {P1 P2 a : Addr} {xs : List V} (hS : SqL K HH a xs) : ∃ H0, Wt P1 P2 H0 HH [] ∧ SqL K H0 a xs := by
  have t0 : TriplesOk (#[] : Array Value).toList := by
    trivial
  exact ⟨HH, ⟨#[], #[], t0, t0, Same.refl HH, fun q hq => (by cases hq), (by simp), fun q hq => (by cases hq)⟩, hS⟩
/-! ### values that read as data -/
/-- a tuple, of the law's text or of the program's top -/
def TupAt (K : PySem.W.Frag) (L : List (Addr × HO)) (a : Addr) (xs : List V) : Prop := (a, HO.tup xs) ∈ L ∨ ∃ (o : Obj) (its : Array Value) (n : Nat), K.lookup a = some o ∧ o.cls = .type "tuple" ∧ o.data = .seq its n ∧ its.size ≤ sizeLine ∧ Vals xs its.toList
theorem TupAt.sq {K : PySem.W.Frag} {L : List (Addr × HO)} {H : Hp} {a : Addr} {xs : List V} (h : TupAt K L a xs) (hL : ∀ q ∈ L, H q.1 = some q.2) : SqT K H a xs := by
  rcases h with h | h
  · exact SqT.of (hL _ h)
  · exact .inr h
theorem TupAt.mono {K : PySem.W.Frag} {L M : List (Addr × HO)} {a : Addr} {xs : List V} (h : TupAt K L a xs) (s : ∀ q ∈ L, q ∈ M) : TupAt K M a xs := by
  rcases h with h | h
  · exact .inl (s _ h)
  · exact .inr h
theorem TupAt.ty {K : PySem.W.Frag} {L : List (Addr × HO)} {H : Hp} {a : Addr} {xs : List V} (h : TupAt K L a xs) (hL : ∀ q ∈ L, H q.1 = some q.2) : TyX K H (.ref a) (.type "tuple") := by
  rcases h with h | ⟨o, its, n, h1, h2, _⟩
  · exact .base (.tup (hL _ h))
  · exact .kTuple h1 h2
def Atom : V → PyData → Prop
  | .int i, .int j => i = j
  | .bl a, .bool b => a = b
  | .non, .none => True
  | .str x, .str y => x = y ∧ (PyData.str x).canLay0 = true
  | _, _ => False
def PL (K : PySem.W.Frag) : Nat → List (Addr × HO) → V → PyData → Prop
  | 0, _, v, d => Atom v d
  | n + 1, L, v, d => Atom v d ∨ ∃ a xs ds, v = .ref a ∧ Paired (PL K n L) xs ds ∧ ((TupAt K L a xs ∧ d = .tuple ds) ∨ ((a, HO.lst xs) ∈ L ∧ d = .list ds))
section
variable {K : PySem.W.Frag} {L M : List (Addr × HO)} {H : Hp}
theorem PL.mono (h : ∀ q ∈ L, q ∈ M) : ∀ (n : Nat) (v : V) (d : PyData), PL K n L v d → PL K n M v d
  | 0, _, _, q => q
  | n + 1, v, d, q => by
    rcases q with q | ⟨a, xs, ds, e, p, q⟩
    · exact .inl q
    · refine .inr ⟨a, xs, ds, e, paired_imp (PL.mono h n) p, ?_⟩
      rcases q with q | q
      · exact .inl ⟨q.1.mono h, q.2⟩
      · exact .inr ⟨h _ q.1, q.2⟩
theorem PL.up : ∀ (n : Nat) (v : V) (d : PyData), PL K n L v d → PL K (n + 1) L v d
  | 0, _, _, q => .inl q
  | n + 1, v, d, q => by
    rcases q with q | ⟨a, xs, ds, e, p, q⟩
    · exact .inl q
    · exact .inr ⟨a, xs, ds, e, paired_imp (PL.up n) p, q⟩
def isTup : PyData → Bool | .tuple _ => true | _ => false
def isLst : PyData → Bool | .list _ => true | _ => false
def isStr : PyData → Bool | .str _ => true | _ => false
def isBool : PyData → Bool | .bool _ => true | _ => false
def isInt : PyData → Bool | .int _ => true | _ => false
/-- what isinstance says of a value -/
structure TyD (K : PySem.W.Frag) (H : Hp) (v : V) (d : PyData) (t : Value) : Prop where
  ty : TyX K H v t
  tup : PySem.W.kitOne K t (.type "tuple") = some (isTup d)
  lst : PySem.W.kitOne K t (.type "list") = some (isLst d)
  str : PySem.W.kitOne K t (.type "str") = some (isStr d)
  int : PySem.W.kitOne K t (.type "int") = some (isInt d || isBool d)
  bl : PySem.W.kitOne K t (.type "bool") = some (isBool d)
  at_ : ∀ i, d = .int i → v = .int i
  at_s : ∀ z, d = .str z → v = .str z
theorem tyd_mk {v : V} {d : PyData} (z : String) (b : TyX K H v (.type z)) (a1 a2 a3 a4 a5 : Bool) (k : kitB z "tuple" = some a1 ∧ kitB z "list" = some a2 ∧ kitB z "str" = some a3 ∧ kitB z "int" = some a4 ∧ kitB z "bool" = some a5)
    (e : isTup d = a1 ∧ isLst d = a2 ∧ isStr d = a3 ∧ (isInt d || isBool d) = a4 ∧ isBool d = a5) (i : ∀ i, d = .int i → v = .int i) (s : ∀ z, d = .str z → v = .str z) : ∃ t, TyD K H v d t := by
  obtain ⟨e1, e2, e3, e4, e5⟩ := e
  obtain ⟨k1, k2, k3, k4, k5⟩ := k
  exact ⟨_, b, by rw [e1]; exact kit_ty k1, by rw [e2]; exact kit_ty k2, by rw [e3]; exact kit_ty k3, by rw [e4]; exact kit_ty k4, by rw [e5]; exact kit_ty k5, i, s⟩
theorem Atom.ty : ∀ {v : V} {d : PyData}, Atom v d → ∃ t, TyD K H v d t
  | .int i, .int j, h => tyd_mk "int" (.base (.int _)) false false false true false (by decide +kernel) ⟨rfl, rfl, rfl, rfl, rfl⟩ (fun k e => by cases e; cases (show i = j from h); rfl) (fun k e => by cases e)
  | .bl a, .bool b, _ => tyd_mk "bool" (.base (.bl _)) false false false true true (by decide +kernel) ⟨rfl, rfl, rfl, rfl, rfl⟩ (fun k e => by cases e) (fun k e => by cases e)
  | .non, .none, _ => tyd_mk "NoneType" (.base .non) false false false false false (by decide +kernel) ⟨rfl, rfl, rfl, rfl, rfl⟩ (fun k e => by cases e) (fun k e => by cases e)
  | .str x, .str y, h => tyd_mk "str" (.base (.str _)) false false true false false (by decide +kernel) ⟨rfl, rfl, rfl, rfl, rfl⟩ (fun k e => by cases e) (fun k e => by cases e; rw [h.1])
theorem PL.ty (hL : ∀ q ∈ L, H q.1 = some q.2) {n : Nat} {v : V} {d : PyData} (h : PL K n L v d) : ∃ t, TyD K H v d t := by
  cases n with
  | zero => exact Atom.ty h
  | succ n =>
    rcases h with h | ⟨a, xs, ds, rfl, _, ⟨m, rfl⟩ | ⟨m, rfl⟩⟩
    · exact Atom.ty h
    · exact tyd_mk "tuple" (m.ty hL) true false false false false (by decide +kernel) ⟨rfl, rfl, rfl, rfl, rfl⟩ (fun k e => by cases e) (fun k e => by cases e)
    · exact tyd_mk "list" (.base (.lst (hL _ m))) false true false false false (by decide +kernel) ⟨rfl, rfl, rfl, rfl, rfl⟩ (fun k e => by cases e) (fun k e => by cases e)
theorem Atom.dp : ∀ {v : V} {d : PyData}, Atom v d → Dp K H v d ∧ d.canLay0 = true ∧ d.depth ≤ 1
  | .int i, .int j, h => by cases (show i = j from h); exact ⟨.int _, rfl, by unfold PyData.depth; decide⟩
  | .bl a, .bool b, h => by cases (show a = b from h); exact ⟨.bl _, rfl, by unfold PyData.depth; decide⟩
  | .non, .none, _ => ⟨.non, rfl, by unfold PyData.depth; decide⟩
  | .str x, .str y, h => by
    obtain ⟨e, m⟩ := h
    cases e
    exact ⟨.str _, m, by unfold PyData.depth; decide⟩
theorem dps_of {R : V → PyData → Prop} {n : Nat} (f : ∀ v d, R v d → Dp K H v d ∧ d.canLay0 = true ∧ d.depth ≤ n) : ∀ {xs : List V} {ds : List PyData}, Paired R xs ds → DpAll K H xs ds ∧ PyData.canLayAll0 ds = true ∧ PyData.depthAll ds ≤ n
  | _, _, .nil => ⟨.nil, rfl, Nat.zero_le _⟩
  | _, _, .cons r t => by
    obtain ⟨a1, a2, a3⟩ := f _ _ r
    obtain ⟨b1, b2, b3⟩ := dps_of f t
    refine ⟨.cons a1 b1, ?_, ?_⟩
    · unfold PyData.canLayAll0
      rw [a2, b2]
      rfl
    · unfold PyData.depthAll
      omega
theorem PL.dp (hL : ∀ q ∈ L, H q.1 = some q.2) : ∀ (n : Nat) (v : V) (d : PyData), PL K n L v d → Dp K H v d ∧ d.canLay0 = true ∧ d.depth ≤ n + 1
  | 0, _, _, h => Atom.dp h
  | n + 1, v, d, h => by
    rcases h with h | ⟨a, xs, ds, rfl, p, ⟨m, rfl⟩ | ⟨m, rfl⟩⟩
    · obtain ⟨a1, a2, a3⟩ := Atom.dp (K := K) (H := H) h
      exact ⟨a1, a2, by omega⟩
    · obtain ⟨b1, b2, b3⟩ := dps_of (PL.dp hL n) p
      exact ⟨.tup (m.sq hL) b1, by unfold PyData.canLay0; exact b2, by unfold PyData.depth; omega⟩
    · obtain ⟨b1, b2, b3⟩ := dps_of (PL.dp hL n) p
      exact ⟨.lst (SqL.of (hL _ m)) b1, by unfold PyData.canLay0; exact b2, by unfold PyData.depth; omega⟩
theorem shaped_of {d : PyData} (l : d.canLay0 = true) (b : d.depth ≤ 60) : SeqAt.shaped d = true := by
  unfold SeqAt.shaped
  rw [l, decide_eq_true (by omega)]
  rfl
/-- equal data is told equal -/
theorem same_ne {x y : V} {d : PyData} {Q : VK} (h1 : Dp K H x d) (h2 : Dp K H y d) (l : d.canLay0 = true) (b : d.depth ≤ 60) (q : Q (.bl false) H) : rNeD K x y H Q := by
  refine ⟨d, d, h1, h2, shaped_of l b, shaped_of l b, ?_⟩
  rw [SeqAt.eqv_refl d l]
  exact q
theorem same_eq {x y : V} {d : PyData} {Q : VK} (h1 : Dp K H x d) (h2 : Dp K H y d) (l : d.canLay0 = true) (b : d.depth ≤ 60) (q : Q (.bl true) H) : rEqD K x y H Q := by
  refine ⟨d, d, h1, h2, shaped_of l b, shaped_of l b, ?_⟩
  rw [SeqAt.eqv_refl d l]
  exact q
end
/-- what is a whole number within bounds -/
def intB (lo hi : Int) : PyData → Bool
  | .int i => decide (lo ≤ i) && decide (i ≤ hi)
  | _ => false
/-! ### constants of the program's top -/
def atomB : Value → PyData → Bool
  | .int i _, .int j => decide (i = j)
  | .str x _, .str y => decide (x = y) && (PyData.str x).canLay0
  | .bool a, .bool b => decide (a = b)
  | .none, .none => true
  | _, _ => false
/-- each is what the rule says -/
def eachB (R : Value → PyData → Bool) : List Value → List PyData → Bool
  | [], [] => true
  | u :: us, d :: ds => R u d && eachB R us ds
  | _, _ => false
def datB (K : PySem.W.Frag) : Nat → Value → PyData → Bool
  | 0, u, d => atomB u d
  | n + 1, .ref a, .tuple ds => match K.lookup a with
    | some ⟨.type "tuple", _, .seq its _, _⟩ => decide (its.size ≤ 1000) && eachB (datB K n) its.toList ds
    | _ => false
  | _ + 1, u, d => atomB u d
theorem atomB_ok : ∀ {u : Value} {d : PyData}, atomB u d = true → ∃ v, RelV v u ∧ Atom v d
  | .int i t, .int j, h => ⟨.int i, ⟨t, rfl⟩, show i = j from of_decide_eq_true h⟩
  | .str x t, .str y, h => ⟨.str x, ⟨t, rfl⟩, by
    obtain ⟨h1, h2⟩ := Bool.and_eq_true_iff.mp (show (decide (x = y) && (PyData.str x).canLay0) = true from h)
    exact ⟨of_decide_eq_true h1, h2⟩⟩
  | .bool a, .bool b, h => ⟨.bl a, rfl, show a = b from of_decide_eq_true h⟩
  | .none, .none, _ => ⟨.non, rfl, trivial⟩
theorem eachB_ok {R : Value → PyData → Bool} {S : V → PyData → Prop} (f : ∀ u d, R u d = true → ∃ v, RelV v u ∧ S v d) : ∀ {us : List Value} {ds : List PyData}, eachB R us ds = true → ∃ xs, Vals xs us ∧ Paired S xs ds
  | [], [], _ => ⟨[], .nil, .nil⟩
  | u :: us, d :: ds, h => by
    obtain ⟨h1, h2⟩ := Bool.and_eq_true_iff.mp (show (R u d && eachB R us ds) = true from h)
    obtain ⟨v, r, s⟩ := f u d h1
    obtain ⟨xs, rs, ss⟩ := eachB_ok f h2
    exact ⟨v :: xs, .cons r rs, .cons s ss⟩
theorem datB_tup {K : PySem.W.Frag} {n : Nat} {a : Addr} {ds : List PyData} (L : List (Addr × HO)) (ih : ∀ u d, datB K n u d = true → ∃ v, RelV v u ∧ PL K n L v d) (h : datB K (n + 1) (.ref a) (.tuple ds) = true) : ∃ xs, TupAt K L a xs ∧ Paired (PL K n L) xs ds := by
  unfold datB at h
  split at h
  · rename_i dd its m sl hk
    obtain ⟨h1, h2⟩ := Bool.and_eq_true_iff.mp h
    obtain ⟨xs, rs, ss⟩ := eachB_ok ih h2
    exact ⟨xs, .inr ⟨_, its, m, hk, rfl, rfl, Nat.le_trans (of_decide_eq_true h1) (by rw [sizeLine_eq]; decide), rs⟩, ss⟩
  · cases h
theorem datB_ok {K : PySem.W.Frag} (L : List (Addr × HO)) : ∀ (n : Nat) (u : Value) (d : PyData), datB K n u d = true → ∃ v, RelV v u ∧ PL K n L v d
  | 0, _, _, h => atomB_ok h
  | n + 1, u, d, h => by
    by_cases hu : ∃ a ds, u = .ref a ∧ d = .tuple ds
    · obtain ⟨a, ds, rfl, rfl⟩ := hu
      obtain ⟨xs, t, p⟩ := datB_tup L (datB_ok L n) h
      exact ⟨.ref a, rfl, .inr ⟨a, xs, ds, rfl, p, .inl ⟨t, rfl⟩⟩⟩
    · have e : atomB u d = true := by
        unfold datB at h
        split at h <;> first
          | exact h
          | exact absurd ⟨_, _, rfl, rfl⟩ hu
          | (rename_i heq; cases heq)
          | (rename_i heq _; cases heq)
      obtain ⟨v, r, a⟩ := atomB_ok e
      exact ⟨v, r, .inl a⟩
/-- a tuple of the program's top, as data -/
theorem datB_at {K : PySem.W.Frag} {n : Nat} {a : Addr} {ds : List PyData} (L : List (Addr × HO)) (h : datB K (n + 1) (.ref a) (.tuple ds) = true) : ∃ xs, TupAt K L a xs ∧ Paired (PL K n L) xs ds := datB_tup L (datB_ok L n) h
end WD

set_option Elab.async false
set_option linter.all false
set_option maxRecDepth 100000
set_option maxHeartbeats 4000000
/-! An own error whose __init__ begins with super().__init__(text): its def, kept as a promise. -/
namespace QX
open PySem PySem.Spec PyProof.Rows L2
/-- the last of a row of names that differ -/
theorem last_of {ps : List Str} {us : List Value} (nd : ps.Nodup) : ∀ {i : Nat} {x : Str} {u : Value}, ps[i]? = some x → us[i]? = some u → ((ps.zip us).reverse).lookup x = some u := by
  induction ps generalizing us with
  | nil =>
    intro i x u h _
    cases i <;> cases h
  | cons p r ih =>
    intro i x u h g
    cases us with
    | nil => cases i <;> cases g
    | cons v t =>
      have n1 : p ∉ r := (List.nodup_cons.mp nd).1
      have n2 := (List.nodup_cons.mp nd).2
      rw [List.zip_cons_cons, List.reverse_cons, List.lookup_append]
      cases i with
      | zero =>
        obtain rfl : p = x := Option.some.inj h
        obtain rfl : v = u := Option.some.inj g
        have e : ((r.zip t).reverse).lookup p = none := by
          rw [List.lookup_eq_none_iff]
          intro q hq
          have h1 : q.1 ∈ r := (List.of_mem_zip (List.mem_reverse.mp hq)).1
          exact bne_iff_ne.mpr fun (z : p = q.1) => n1 (by rw [z]; exact h1)
        rw [e]
        simp [List.lookup]
      | succ i =>
        rw [ih n2 h g]
        rfl
/-- a def of a class's body that closes over __class__ -/
structure FunS (P : Program) (K : PySem.W.Frag) (x qual : Str) (st : Stmt) (D f : Addr) (fd : FuncData) : Prop where
  ex : ∃ (oc : Value) (od : Option Addr) (kV doc pm : Value) (an : Option Addr) (cda cc : Addr) (ct : Value) (osl : Array (Option Value)) (ccl : Value) (cdd : Option Addr) (vs : Array Value) (ccs : Array (Option Value)) (file : Str) (tf : Tok) (cl : Value) (cld : Option Addr) (csl : Array (Option Value)),
    fd = PySem.W.ksFn x qual (defArgs st) (defBody st) (defScope st) .none kV doc pm an (.ref cda) ct cc ∧ K.lookup f = some ⟨oc, od, .func fd, osl⟩ ∧ PySem.W.codeIn K (.ref cda) qual = true ∧
    K.lookup cda = some ⟨ccl, cdd, .fields vs, ccs⟩ ∧ vs[2]? = some (.str file tf) ∧ ((P.main.file : Str) == file) = true ∧ K.lookup cc = some ⟨cl, cld, .cell (some (.ref D)), csl⟩
/-- its scope: the parameters alone, and the two names of super() -/
structure ScS (ps : List Str) (sc : Scope) : Prop where
  kind : sc.kind = .function
  co : sc.isCoroutine = false
  gen : sc.isGenerator = false
  par : ∀ n ∈ ps, sc.names.lookup n = some .local
  nd : ps.Nodup
  cell : ∀ y ∈ sc.names, y.2 ≠ .cell
  free : ∀ y ∈ sc.names, y.2 = .free → y.1 = ("__class__" : Str)
  sup : sc.names.lookup ("super" : Str) = some .globalImplicit
  cls : sc.names.lookup ("__class__" : Str) = some .free
abbrev envS (qual : Str) (sc : Scope) (L f : Addr) (cd : Value) (cc : Addr) : Env := PySem.W.ksEnv qual sc L f cd cc
def cxS (CX : CXT) (P : Program) (w : World) (K : PySem.W.Frag) (mg : Str → Option Value) (base : Heap) (N : List Str) (qual : Str) (sc : Scope) (f : Addr) (cd : Value) (cc : Addr) (A : Around) (outer : List Env) (s : Shared) (H : Hp) (E : XK) : Cx where
  prog := P
  w := w
  K := K
  mg := mg
  base := base
  A := A.deeper (envS qual sc s.heap.objs.size f cd cc)
  N := N
  s_0 := s
  H_0 := H
  env := envS qual sc s.heap.objs.size f cd cc
  outer := outer
  stack := envS qual sc s.heap.objs.size f cd cc :: outer
  ex := []
  calm := true
  fn := fun _ => false
  pn := []
  xe := fun e s' => wpAny (model P w) (A.deeper (envS qual sc s.heap.objs.size f cd cc)) (leaving (envS qual sc s.heap.objs.size f cd cc) e) (fun _ s'' => CX outer H s E e s'') (fun e' s'' => CX outer H s E e' s'') s'
theorem kind_of {ps : List Str} {sc : Scope} (S : ScS ps sc) {y : Str} (h : sc.names.lookup y = some .free) : y = ("__class__" : Str) := S.free (y, .free) (PySem.mem_of_lookup h) rfl
theorem begin_S {CX : CXT} {P : Program} {w : World} {K : PySem.W.Frag} {mg : Str → Option Value} {base : Heap} {ps : List Str} {qual : Str} {sc : Scope} {f cc D : Addr} {cd : Value} {A : Around} {outer : List Env} {s : Shared} {h₀ : Heap} {tk : Nat} {H : Hp} {E : XK} {us : List Value} {vs : List V}
    {cl : Value} {cld : Option Addr} {csl : Array (Option Value)} (S : ScS ps sc) (hd : A.handled = none) (e0 : Env0 P w K mg base A outer s H) (hl : vs.length = ps.length) (r : Vals vs us) (lc : K.lookup cc = some ⟨cl, cld, .cell (some (.ref D)), csl⟩)
    (hns : h₀.Ns s.heap.objs.size (fun x => ((ps.zip us).reverse).lookup x)) (hk : ∀ b o, s.heap.get? b = some o → h₀.get? b = some o) :
    Inv (cxS CX P w K mg base ps qual sc f cd cc A outer s H E) [] (L2.start ps vs) H { s with heap := h₀, toks := tk } := by
  have noA : ∀ b : Addr, b ∉ (cxS CX P w K mg base ps qual sc f cd cc A outer s H E).ex := fun b z => absurd (show b ∈ ([] : List Addr) from z) (by simp)
  have one : ∀ {x : Str} {c : Addr}, (cxS CX P w K mg base ps qual sc f cd cc A outer s H E).env.cells.lookup x = some c → x = ("__class__" : Str) ∧ c = cc := by
    intro x c h
    have h2 : ([(("__class__" : Str), cc)] : List (Str × Addr)).lookup x = some c := h
    by_cases e : x = ("__class__" : Str)
    · subst e
      have h3 : some cc = some c := by simpa [List.lookup] using h2
      exact ⟨rfl, (Option.some.inj h3).symm⟩
    · have e2 : (x == ("__class__" : Str)) = false := by simpa using e
      have h3 : (none : Option Addr) = some c := by simpa [List.lookup, e2] using h2
      cases h3
  have b1 := e0.bs cc _ (e0.mod.kin _ _ lc)
  refine ⟨⟨e0.mod, S.kind, rfl, rfl, Nat.le_refl _, fun x y c h1 h2 => (one h1).1.trans (one h2).1.symm, fun y hy => ?_, (fun y c z _ => nomatch z), fun _ => hd, Around.frames_deeper e0.frames, .inr ⟨rfl, rfl⟩, fun b z => absurd z (noA b), e0.bs, e0.bsz, fun b _ _ => noA b, fun b z => absurd z (noA b), e0.funs, e0.frf⟩,
    rfl, e0.bare, Un.kept hk, ⟨_, hns, fun i y v h1 h2 h3 => ?_⟩, fun y c h => ?_, e0.hok.fresh (Nat.le_refl _), fun y c h => ?_, fun p hp => absurd (show p ∈ ([] : List (Addr × Obj)) from hp) (by simp), e0.hok.kept hk, ?_⟩
  · have hy : sc.names.lookup y = some .cell ∨ sc.names.lookup y = some .free := hy
    rcases hy with hy | hy
    · exact absurd rfl (S.cell _ (PySem.mem_of_lookup hy))
    · rw [kind_of S hy]
      exact ⟨cc, rfl⟩
  · have hi : i < vs.length := by
      have := (List.getElem?_eq_some_iff.mp h1).1
      rw [hl]
      exact this
    have ha : vs[i]? = some v := by
      unfold L2.start at h2
      rw [List.getElem?_append_left (by simpa using hi), List.getElem?_map] at h2
      cases e : vs[i]? with
      | none =>
        rw [e] at h2
        cases h2
      | some a =>
        rw [e] at h2
        cases h2
        rfl
    obtain ⟨u, hu, rv⟩ := r.get ha
    exact ⟨u, rv, .inl ⟨S.par y (List.mem_of_getElem? h1), last_of S.nd h1 hu⟩⟩
  · obtain ⟨_, rfl⟩ := one h
    exact ⟨_, ⟨_, hk _ _ b1.1, rfl⟩⟩
  · obtain ⟨_, rfl⟩ := one h
    exact b1.2
  · unfold L2.start
    show _ = ps.length
    rw [List.length_append, List.length_map, List.length_replicate]
    omega

/-- what super().__init__ wants of the class C of the error, whose __init__ stands in D -/
structure SupC (K : PySem.W.Frag) (C D : Addr) : Prop where
  ox : OexC K C
  dcl : ∃ cd, PySem.W.clsIn K D = some cd
  sub : PySem.W.mroIn K C (.ref D) = some true
  ini : PySem.W.ks_superIn K C D "__init__" = some (some (.builtin "ValueError.__init__"))
  ve : PySem.W.subIn K (.ref C) (.type "ValueError") = some true
  tp : PySem.W.nsIn K cStatics "thirdparty.any" = some none
section
variable {X : Cx} {pins : List (Addr × Obj)} {σ : L2.St} {H : Hp} {s : Shared} {a C D u : Addr} {E : Value → Shared → Prop} {A : Around}
/-- the bound __init__ called: nothing of it is told -/
theorem bound_ok {us : List Value} {Q : Value → Shared → Prop} (T : OexC X.K C) (I : Inv X pins σ H s) (e : H a = some (exo a C none)) (hu : s.heap.get? u = some (PySem.W.kxs_mw "ValueError.__init__" a)) (hl : us.length ≤ sizeLine) (h : ∀ s', Inv X pins σ H s' → Q .none s') :
    wpAny (model X.prog X.w) A (call (.ref u) us) Q E s := by
  obtain ⟨nm, q, N, bs, bm, sn, sub, ab, col, dd, k0, k1, k2, k3, k5, hC, hbm⟩ := T.cls
  obtain ⟨t1, ho⟩ := exo_at I.hok e
  have fin : ∀ h', (∀ b o, b ≠ a → s.heap.get? b = some o → h'.get? b = some o) → (∃ t2 : Addr, h'.get? a = some ({ cls := .ref C, dict := none, data := .fields #[.ref t2, .none, .none, .none, .bool false, .none] } : Obj)) → Q .none { s with heap := h' } := fun h' k hx => by
    obtain ⟨t2, hx⟩ := hx
    have J := I.write (t' := s.toks) (x := a) (e := a) (o := exo a C none) (by rw [e]; exact True.intro) (.inl rfl) k ⟨_, hx⟩ (exo_ok hx)
    have eu : upd H a (exo a C none) = H := by
      funext b
      by_cases hb : b = a
      · rw [hb, upd_same, e]
      · rw [upd_ne hb]
    rw [eu] at J
    exact h _ J
  obtain ⟨hh, g, d, tk, os⟩ := s
  refine wpAny_call (codeAny_of_tree ?_)
  show wpAny _ A.in1 (callAny (.ref u) ⟨us, []⟩) _ _ _
  simp only [callAny]
  refine wpAny_bind (wpAny_load hu ?_)
  dsimp only [PySem.W.kxs_mw]
  refine PySem.W.KFB.if_so (by decide) ?_
  refine wpAny_bind (PySem.W.check_bound_init F.excBase_ValueError.toExcCallFacts (I.kIn _ _ hC) ho rfl ?_)
  refine wpAny_bind (wpAny_pure (wpAny_pure ?_))
  refine ⟨plainId_quiet F.excBase_ValueError.init.plain _, codeAny_builtin F.excBase_ValueError.initEntry ?_⟩
  exact PySem.W.exc_init_tree ho hl fun h' k hx _ => fin h' k ⟨_, hx⟩
end

section
variable {CX : CXT} {P : Program} {w : World} {K : PySem.W.Frag} {mg : Str → Option Value} {base : Heap} {ps : List Str} {qual : Str} {sc : Scope} {f cda cc D C a : Addr} {A : Around} {outer : List Env} {s0 s : Shared} {H0 H : Hp} {E : XK} {σ : L2.St}
  {oc : Value} {od : Option Addr} {osl : Array (Option Value)} {fd : FuncData} {ccl : Value} {cdd : Option Addr} {vs : Array Value} {ccs : Array (Option Value)} {file : Str} {tf : Tok} {cl : Value} {cld : Option Addr} {csl : Array (Option Value)}
theorem sup_first {body : List Stmt} {p0 p1 p2 p3 p4 : Pos} {e : Expr} {es : List Expr} {ta : TA} {ar : Arg} {Qn : Hp → Prop} (S : ScS ps sc) (T : SupC K C D) (I : Inv (cxS CX P w K mg base ps qual sc f (.ref cda) cc A outer s0 H0 E) [] σ H s)
    (lf : K.lookup f = some ⟨oc, od, .func fd, osl⟩) (hp : (fd.params.posonlyargs ++ fd.params.args).head? = some ar) (h0 : ps[0]? = some ar.arg) (ha : σ[0]? = some (some (.ref a))) (hx : H a = some (exo a C none))
    (lcd : K.lookup cda = some ⟨ccl, cdd, .fields vs, ccs⟩) (hvs : vs[2]? = some (.str file tf)) (hfile : ((P.main.file : Str) == file) = true) (lc : K.lookup cc = some ⟨cl, cld, .cell (some (.ref D)), csl⟩)
    (hms : mg "super" = none) (htop : (P.main.scope.names.lookup ("super" : Str)).isSome = false)
    {pl : Sem Bool} (hc : eval (.Call (.Attribute (.Call (.Name "super" p0) [] [] p1) "__init__" p2) (e :: es) [] p3) (envS qual sc s0.heap.objs.size f (.ref cda) cc) = (do
      let ov ← attributeBase (.Call (.Name "super" p0) [] [] p1) "__init__" (envS qual sc s0.heap.objs.size f (.ref cda) cc) (eval (.Call (.Name "super" p0) [] [] p1) (envS qual sc s0.heap.objs.size f (.ref cda) cc))
      standAt p2.atName
      let (g, first) ← holding [ov] (getMethod ov "__init__" pl)
      callWith p3 g first (backTo p3 (starEach (e :: es) (envS qual sc s0.heap.objs.size f (.ref cda) cc))) []))
    (hA : PA (cxS CX P w K mg base ps qual sc f (.ref cda) cc A outer s0 H0 E) (e :: es) ta) (q : ta σ H fun ws H1 => ws.length ≤ 1000 ∧ H1 a = some (exo a C none) ∧ Qn H1)
    (he : starEach (e :: es) (envS qual sc s0.heap.objs.size f (.ref cda) cc) = (false, eval e (envS qual sc s0.heap.objs.size f (.ref cda) cc)) :: starEach es (envS qual sc s0.heap.objs.size f (.ref cda) cc))
    (hpl : (backTo p3 (starEach es (envS qual sc s0.heap.objs.size f (.ref cda) cc))).any (·.1) = false)
    (hsw : swapsWith (.Call (.Attribute (.Call (.Name "super" p0) [] [] p1) "__init__" p2) (e :: es) [] p3) none p4.line (envS qual sc s0.heap.objs.size f (.ref cda) cc) = pure false) :
    _root_.PySem.wpAt (model P w) (A.deeper (envS qual sc s0.heap.objs.size f (.ref cda) cc)) (.func body (envS qual sc s0.heap.objs.size f (.ref cda) cc))
      (exec (.Expr (.Call (.Attribute (.Call (.Name "super" p0) [] [] p1) "__init__" p2) (e :: es) [] p3) p4) (envS qual sc s0.heap.objs.size f (.ref cda) cc))
      (fun fl s' => match fl with
        | .next => ∃ H', Inv (cxS CX P w K mg base ps qual sc f (.ref cda) cc A outer s0 H0 E) [] σ H' s' ∧ Qn H'
        | _ => False) (cxS CX P w K mg base ps qual sc f (.ref cda) cc A outer s0 H0 E).xe s := by
  have hi : interactive (envS qual sc s0.heap.objs.size f (.ref cda) cc) = false := by
    unfold interactive
    show (sc.kind == .module && _) = false
    rw [S.kind]
    rfl
  have hkS : (envS qual sc s0.heap.objs.size f (.ref cda) cc).kindOf "super" = some .globalImplicit := S.sup
  have hkC : (envS qual sc s0.heap.objs.size f (.ref cda) cc).kindOf "__class__" = some .free := S.cls
  obtain ⟨m, hns, hm⟩ := I.loc
  obtain ⟨u0, ru, lk⟩ := hm 0 ar.arg (.ref a) h0 ha (.inl (S.par _ (List.mem_of_getElem? h0)))
  obtain rfl : u0 = Value.ref a := ru
  have ma : m ar.arg = some (.ref a) := by
    rcases lk with ⟨_, h⟩ | ⟨h, _⟩
    · exact h
    · have h2 : sc.names.lookup ar.arg = some .cell ∨ sc.names.lookup ar.arg = some .free := h
      rw [S.par _ (List.mem_of_getElem? h0)] at h2
      rcases h2 with h2 | h2 <;> cases h2
  obtain ⟨cd, hcd⟩ := T.dcl
  obtain ⟨oD, hD1, hD2⟩ : ∃ oD, s.heap.get? D = some oD ∧ oD.data = .cls cd := by
    unfold PySem.W.clsIn at hcd
    split at hcd
    · rename_i c d cd' sl ho
      cases hcd
      exact ⟨_, I.kIn _ _ ho, rfl⟩
    · cases hcd
  obtain ⟨t1, hox⟩ := exo_at I.hok hx
  obtain ⟨mb, b1, b2⟩ := I.mod.blt
  refine PySem.ks_wpAt_Expr_any ?_ hi hsw
  refine PySem.ks_wpAt_MethodCall (pl := pl) ?_ hc
  refine PySem.ks_wpAt_super_base hkS hkC (by decide) rfl (I.kIn _ _ lf) rfl hp rfl (I.kIn _ _ lcd) rfl hvs hfile htop ?_
  refine PySem.W.ks_loadName_global S.kind hkS (Calls.loadGlobal_builtin (I.mod.glob.keeps I.bk) hms (b1.keeps I.bk) ((b2 "super" (by decide)).trans (by decide +kernel)) ⟨rfl, ?_⟩)
  refine wpAny_loadName_free S.kind hkC rfl ⟨_, I.kIn _ _ lc, rfl⟩ ?_
  refine wpAny_loadName_local S.kind (S.par _ (List.mem_of_getElem? h0)) hns ma ?_
  refine PySem.ks_wpAny_isType_cls hD1 hD2 ⟨rfl, ?_⟩
  have nc : ∀ c, ({ cls := .ref C, dict := none, data := .fields #[.ref t1, .none, .none, .none, .bool false, .none] } : Obj).data ≠ .cls c := fun c z => by cases z
  obtain ⟨hh, g, d, tk, os⟩ := s
  refine PySem.ks_wpAny_call_super hD1 hD2 hox rfl nc (PySem.W.looks_mroIn I.kIn T.sub) fun h' hso k => ?_
  have I1 := I.kept (t' := tk) k
  obtain ⟨nm, qn, N, bs, bm, sn, sub, ab, col, dd, k0, k1, k2, k3, k5, hC, hbm⟩ := T.ox.cls
  have hcl : PySem.W.clsIn K C = some { name := nm, bases := bs, mro := .ref C :: bm, ns := N, qualname := qn, hasDict := true, slotNames := sn, subclasses := sub, abstract := ab, collection := col, hasDel := false } := by
    unfold PySem.W.clsIn
    rw [hC] <;> rfl
  have hini := T.ini
  unfold PySem.W.ks_superIn at hini
  rw [hcl] at hini
  have hox1 := k _ _ hox
  have J : PySem.W.InstAt h' a { cls := .ref C, dict := none, data := .fields #[.ref t1, .none, .none, .none, .bool false, .none] } C none := ⟨hox1, rfl, rfl, trivial⟩
  refine PySem.W.kxs_getMethod PySem.W.kxs_ValueError hso (PySem.W.looks_opaque I1.kIn T.tp) (l₀ := .ref C :: bm) (fun A Q E s k q => wpAny_bind ((PySem.W.looks_clsIn I1.kIn hcl) A _ E s k (wpAny_pure q))) rfl I1.kIn hini (J.type.andThen (PySem.W.looks_subIn I1.kIn T.ve)) (PySem.W.ks_ne I1.kIn J hcl) (by decide) ?_
  have kp : ∀ b o, h'.get? b = some o → (h'.push (PySem.W.kxs_mw "ValueError.__init__" a)).get? b = some o := fun b o z => Heap.get?_push_of_some _ z
  have I2 := I1.kept (t' := tk + 1) kp
  have hu : (h'.push (PySem.W.kxs_mw "ValueError.__init__" a)).get? h'.objs.size = some (PySem.W.kxs_mw "ValueError.__init__" a) := Heap.get?_push_at rfl rfl
  have I3 : Inv (cxS CX P w K mg base ps qual sc f (.ref cda) cc A outer s0 H0 E) [(h'.objs.size, PySem.W.kxs_mw "ValueError.__init__" a)] σ H ⟨h'.push (PySem.W.kxs_mw "ValueError.__init__" a), g, d, tk + 1, os⟩ :=
    ⟨I2.ok, I2.os, I2.bare, I2.base, I2.loc, I2.cell, I2.free, I2.freeC, fun p hp => by
      have hp2 : p = (h'.objs.size, PySem.W.kxs_mw "ValueError.__init__" a) := List.mem_singleton.mp hp
      subst hp2
      exact ⟨hu, I1.hok.fresh (Nat.le_refl _), Nat.ne_of_gt I1.lt, I1.nofs (Nat.le_refl _), fun v z => by cases z⟩, I2.hok, I2.len⟩
  have qa : wpAny (model P w) (A.deeper (envS qual sc s0.heap.objs.size f (.ref cda) cc)) (spliced (backTo p3 (starEach (e :: es) (envS qual sc s0.heap.objs.size f (.ref cda) cc)))) (AP (cxS CX P w K mg base ps qual sc f (.ref cda) cc A outer s0 H0 E) [(h'.objs.size, PySem.W.kxs_mw "ValueError.__init__" a)] σ fun ws H1 => ws.length ≤ 1000 ∧ H1 a = some (exo a C none) ∧ Qn H1) (cxS CX P w K mg base ps qual sc f (.ref cda) cc A outer s0 H0 E).xe ⟨h'.push (PySem.W.kxs_mw "ValueError.__init__" a), g, d, tk + 1, os⟩ := hA.run p3 _ _ σ H _ I3 q
  show wpAny _ _ (callWith p3 (.ref h'.objs.size) [] (backTo p3 (starEach (e :: es) (envS qual sc s0.heap.objs.size f (.ref cda) cc))) []) _ _ _
  rw [he] at qa ⊢
  refine PySem.W.kxs_callWith (i := "ValueError.__init__") (x := a) (by show (false || (backTo p3 (starEach es (envS qual sc s0.heap.objs.size f (.ref cda) cc))).any (·.1)) = false; rw [hpl]; rfl) ?_
  refine PySem.Calls.evalArgs_plain (thn qa fun us s1 ⟨ws, H1, J1, r1, hz, e1, q1⟩ => ?_)
  have pu := J1.pin (h'.objs.size, PySem.W.kxs_mw "ValueError.__init__" a) (List.mem_append_right _ (List.mem_singleton.mpr rfl))
  refine ⟨pu.1, ?_⟩
  have J2 : Inv (cxS CX P w K mg base ps qual sc f (.ref cda) cc A outer s0 H0 E) [] σ H1 s1 :=
    ⟨J1.ok, J1.os, J1.bare, J1.base, J1.loc, J1.cell, J1.free, J1.freeC, fun p hp => J1.pin p (List.mem_append_left _ (by rw [List.append_nil] at hp; exact hp)), J1.hok, J1.len⟩
  have hlen : us.length ≤ sizeLine := by
    rw [← Paired.length r1, sizeLine_eq]
    omega
  exact bound_ok (X := cxS CX P w K mg base ps qual sc f (.ref cda) cc A outer s0 H0 E) T.ox J2 e1 pu.1 hlen fun s' J' => ⟨H1, J', q1⟩
end
/-- how its arguments bind -/
theorem FunS.binds {P : Program} {K : PySem.W.Frag} {x qual : Str} {st : Stmt} {D f : Addr} {fd : FuncData} {ps : List Str} (F : FunS P K x qual st D f fd)
    (h : ∀ (kV doc pm : Value) (an : Option Addr) (cda cc : Addr) (ct : Value) (us : List Value), us.length = ps.length → bindArgs (PySem.W.ksFn x qual (defArgs st) (defBody st) (defScope st) .none kV doc pm an (.ref cda) ct cc) ⟨us, []⟩ = pure (ps.zip us)) : Binds K fd ps [] := by
  obtain ⟨oc, od, kV, doc, pm, an, cda, cc, ct, osl, ccl, cdd, vs, ccs, file, tf, cl, cld, csl, rfl, _⟩ := F.ex
  exact .all (h kV doc pm an cda cc ct)
/-- THE RULE: super().__init__(e), then the rest -/
theorem FunS.ok {P : Program} {w : World} {K : PySem.W.Frag} {mg : Str → Option Value} {base : Heap} {x qual : Str} {st : Stmt} {D C f : Addr} {fd : FuncData} {ps : List Str} {k : Nat} {sp : Sp} {ar : Arg} {p0 p1 p2 p3 p4 : Pos} {e : Expr} {es : List Expr} {rest : List Stmt}
    (F : FunS P K x qual st D f fd) (S : ScS ps (defScope st)) (T : SupC K C D) (hms : mg "super" = none) (htop : (P.main.scope.names.lookup ("super" : Str)).isSome = false)
    (hb : defBody st = .Expr (.Call (.Attribute (.Call (.Name "super" p0) [] [] p1) "__init__" p2) (e :: es) [] p3) p4 :: rest)
    (hp : ((defArgs st).posonlyargs ++ (defArgs st).args).head? = some ar) (h0 : ps[0]? = some ar.arg)
    (len : ∀ vs H Q E, sp vs H Q E → vs.length = ps.length) (self : ∀ vs H Q E, sp vs H Q E → ∃ a r, vs = .ref a :: r ∧ H a = some (exo a C none))
    {pl : Env → Sem Bool} (hc : ∀ env : Env, eval (.Call (.Attribute (.Call (.Name "super" p0) [] [] p1) "__init__" p2) (e :: es) [] p3) env = (do
      let ov ← attributeBase (.Call (.Name "super" p0) [] [] p1) "__init__" env (eval (.Call (.Name "super" p0) [] [] p1) env)
      standAt p2.atName
      let (g, first) ← holding [ov] (getMethod ov "__init__" (pl env))
      callWith p3 g first (backTo p3 (starEach (e :: es) env)) []))
    (he : ∀ env : Env, starEach (e :: es) env = (false, eval e env) :: starEach es env) (hpl : ∀ env : Env, (backTo p3 (starEach es env)).any (·.1) = false)
    (hsw : ∀ env : Env, swapsWith (.Call (.Attribute (.Call (.Name "super" p0) [] [] p1) "__init__" p2) (e :: es) [] p3) none p4.line env = pure false)
    (hbody : ∀ (cda cc : Addr) (A : Around) (outer : List Env) (s : Shared) (H : Hp) (a : Addr) (vr : List V) (Q : VK) (E : XK), Room k (A.deeper (envS qual (defScope st) s.heap.objs.size f (.ref cda) cc)) → sp (.ref a :: vr) H Q E →
      ∃ ta t, PA (cxS CX0 P w K mg base ps qual (defScope st) f (.ref cda) cc A outer s H E) (e :: es) ta ∧ PSs (cxS CX0 P w K mg base ps qual (defScope st) f (.ref cda) cc A outer s H E) rest t ∧
        ta (L2.start ps (.ref a :: vr)) H fun ws H1 => ws.length ≤ 1000 ∧ H1 a = some (exo a C none) ∧ t { nx := fun _ H' => Q .non H', rt := Q } (L2.start ps (.ref a :: vr)) H1) :
    FnOk P w K mg base CX0 (k + 1) f fd ps sp := by
  obtain ⟨oc, od, kV, doc, pm, an, cda, cc, ct, osl, ccl, cdd, cvs, ccs, file, tf, cl, cld, csl, rfl, lk, hcd, lcd, hvs, hfile, lc⟩ := F.ex
  refine ⟨len, fun A outer s H args us vs Q E hr e0 hbind r hsp => ?_⟩
  have hl := len _ _ _ _ hsp
  have KX : K.In s.heap := e0.mod.kin.keeps fun b o z => (e0.bs b o z).1
  have lim : s.heap.NoLimit := e0.mod.nolimit.keeps fun b o z => (e0.bs b o z).1
  obtain ⟨a, vr, rfl, hx⟩ := self _ _ _ _ hsp
  obtain ⟨ta, t, hA, hS, hq⟩ := hbody cda cc A outer s H a vr Q E (hr.deeper _) hsp
  refine PySem.ks_codeAny_call_defAt (fd := PySem.W.ksFn x qual (defArgs st) (defBody st) (defScope st) .none kV doc pm an (.ref cda) ct cc) (body := defBody st) (binds := ps.zip us) hr.depth (KX _ _ lk) rfl lim (PySem.W.codeRec_of KX hcd) rfl hbind S.cell
    (fun y hy => S.par _ (List.of_mem_zip hy).1) (fun h₀ hns hk => ?_) S.co S.gen S.kind
  have I := begin_S (CX := CX0) (A := A) (outer := outer) (E := E) (f := f) (cd := .ref cda) (tk := s.toks + (ps.zip us).length) (qual := qual) S hr.hd e0 hl r lc hns hk
  have s0 : (L2.start ps (V.ref a :: vr))[0]? = some (some (.ref a)) := rfl
  have first := sup_first (body := defBody st) S T I lk hp h0 s0 hx lcd hvs hfile lc hms htop (hc _) hA hq (he _) (hpl _) (hsw _)
  have eb : execs (defBody st) (envS qual (defScope st) s.heap.objs.size f (.ref cda) cc) = execs (.Expr (.Call (.Attribute (.Call (.Name "super" p0) [] [] p1) "__init__" p2) (e :: es) [] p3) p4 :: rest) (envS qual (defScope st) s.heap.objs.size f (.ref cda) cc) := by rw [hb]
  show _root_.PySem.wpAt _ _ _ (execs (defBody st) (envS qual (defScope st) s.heap.objs.size f (.ref cda) cc)) _ _ _
  rw [eb]
  refine PySem.ks_wpAt_execs_cons (PySem.ks_wpAt_mono first (fun fl s' h => ?_) fun _ _ h => h)
  cases fl with
  | next =>
    obtain ⟨H', J, q'⟩ := h
    refine PySem.wpAt_of_wpAny (wpAny_mono (hS.run [] s' _ H' _ J q') (fun fl2 s2 hs => ?_) fun _ _ h => h)
    have fin : ∀ {σ' : L2.St} {H2 : Hp} {v : V} {u : Value}, Inv (cxS CX0 P w K mg base ps qual (defScope st) f (.ref cda) cc A outer s H E) [] σ' H2 s2 → RelV v u → Q v H2 → CE outer P w H s Q u s2 :=
      fun {σ' H2 v u} J rv q => ⟨v, H2, J.os, J.bare, J.base, J.hok, rv, q⟩
    cases fl2 with
    | ret u =>
      obtain ⟨v, σ', H2, J2, rv, q2⟩ := hs
      exact fin J2 rv q2
    | next =>
      obtain ⟨σ', H2, J2, q2⟩ := hs
      exact fin (v := V.non) (u := Value.none) J2 rfl q2
    | brk =>
      obtain ⟨_, _, _, q2⟩ := hs
      exact q2.elim
    | cont =>
      obtain ⟨_, _, _, q2⟩ := hs
      exact q2.elim
  | ret u => exact h.elim
  | brk => exact h.elim
  | cont => exact h.elim
end QX

set_option Elab.async false
set_option linter.all false
set_option maxRecDepth 100000
set_option maxHeartbeats 4000000
namespace QX
open PySem PySem.Spec PyProof.Rows L2
/-! ### such an error as a value: made, asked for its class, read -/
section
variable {X : Cx} {pins : List (Addr × Obj)} {σ : L2.St} {H : Hp} {s : Shared} {a C D u : Addr} {Q : VK}
/-- an error that is held -/
def Held (H : Hp) (a C : Addr) : Prop := H a = some (exo a C none) ∨ ∃ dx fs, H a = some (exo a C (some dx)) ∧ H dx = some (exd dx fs)
theorem held_at (I : Inv X pins σ H s) (h : Held H a C) : ∃ ox od, PySem.W.InstAt s.heap a ox C od := by
  rcases h with h | ⟨dx, fs, h, hd⟩
  · obtain ⟨t1, e⟩ := exo_at I.hok h
    exact ⟨_, none, e, rfl, rfl, trivial⟩
  · obtain ⟨t1, e⟩ := exo_at I.hok h
    obtain ⟨mA, hns, _⟩ := exd_at I.hok hd
    obtain ⟨od, es, ep, ho, _⟩ := hns
    exact ⟨_, some od, e, rfl, rfl, ho⟩
theorem run_exo {CX : CXT} {fI : Addr} {k : Nat} {fd : FuncData} {ps : List Str} {sp : Sp} {vs : List V} {us : List Value} (T : OexC X.K C) (iC : PySem.W.findIn X.K (.ref C) "__init__" = some (some (.ref fI))) (tI : PySem.W.typeIn X.K (.ref fI) = some (.type "function"))
    (F1 : FnOk X.prog X.w X.K X.mg X.base CX k fI fd ps sp) (hr : Room (k + 1) X.A) (hb : Binds X.K fd ps []) (hx : Passes CX X (fun _ _ _ => False)) (I1 : Inv X pins σ H s) (r1 : Vals vs us) (hz : vs.length ≤ 1000)
    (q1 : ∀ a, H a = none → sp (.ref a :: vs) (upd H a (exo a C none)) (fun v H2 => v = .non ∧ Q (.ref a) H2) fun _ _ _ => False) :
    wpAny (model X.prog X.w) X.A (call (.ref C) us) (fun u s' => ∃ v H', Inv X pins σ H' s' ∧ RelV v u ∧ Q v H') X.xe s := by
  obtain ⟨nm, q, N, bs, bm, sn, sub, ab, col, dd, k0, k1, k2, k3, k5, hC, hbm⟩ := T.cls
  obtain ⟨hp, g, dr, tk, os⟩ := s
  have hn : H (hp.objs.size + 1) = none := I1.hok.fresh (Nat.le_succ _)
  have hq := q1 (hp.objs.size + 1) hn
  have kk : ∀ b o, hp.get? b = some o → ((hp.push (PySem.W.kdv_tup us)).push (PySem.HandSPX.excO C hp.objs.size)).get? b = some o := fun b o e => Heap.get?_push_of_some _ (Heap.get?_push_of_some _ e)
  have hget : ((hp.push (PySem.W.kdv_tup us)).push (PySem.HandSPX.excO C hp.objs.size)).get? (hp.objs.size + 1) = some (PySem.HandSPX.excO C hp.objs.size) := by heap_get
  have I2 : Inv X pins σ (upd H (hp.objs.size + 1) (exo (hp.objs.size + 1) C none)) ⟨(hp.push (PySem.W.kdv_tup us)).push (PySem.HandSPX.excO C hp.objs.size), g, dr, tk, os⟩ :=
    I1.laid (t' := tk) kk (Nat.le_succ _) (exo_ok hget)
  have r2 : Vals (V.ref (hp.objs.size + 1) :: vs) (Value.ref (hp.objs.size + 1) :: us) := .cons rfl r1
  have hl : (Value.ref (hp.objs.size + 1) :: us ++ []).length = ps.length := by
    have e := r2.length
    rw [F1.len _ _ _ _ hq] at e
    rw [List.append_nil]
    exact e.symm
  have hus : us.length ≤ sizeLine := by
    rw [← Paired.length r1, sizeLine_eq]
    omega
  have hbb := hb _ (Value.ref (hp.objs.size + 1) :: us) I2.kIn hl
  rw [List.append_nil] at hbb
  refine wpAny_call (PySem.HandSPX.call_own F.excBase_ValueError (fun Y => PySem.HandSPX.refsVE_contains Y bm hbm) (I1.kIn _ _ hC) (PySem.W.looks_findIn I1.kIn iC) (fun self => PySem.W.bind_fn I1.kIn self tI) hus
    (codeAny_mono (F1.run _ X.stack _ _ ⟨Value.ref (hp.objs.size + 1) :: us, []⟩ _ _ _ (fun _ _ _ => False) (hr.make C us []) (I2.env0.make C us []) hbb r2 hq) fun r s' hq' => ?_))
  cases r with
  | error er => exact hx pins σ _ _ er s' I2 hq'
  | ok fl =>
    cases fl with
    | ret u =>
      obtain ⟨v, H2, os2, bare2, un2, hok2, rv, ev, q2⟩ := hq'
      subst ev
      exact ⟨rv, .ref (hp.objs.size + 1), H2, I2.call' (ch := []) os2 un2 hok2 bare2 (fun b z => absurd z (by simp)), rfl, q2⟩
    | next => exact False.elim hq'
    | brk => exact False.elim hq'
    | cont => exact False.elim hq'
end
/-- C(e, ..) as a value -/
def tMkV (C : Addr) (sp : Sp) (ta : TA) : TE := fun σ H Q => ta σ H fun vs H1 => vs.length ≤ 1000 ∧ ∀ a, H1 a = none → sp (.ref a :: vs) (upd H1 a (exo a C none)) (fun v H2 => v = .non ∧ Q (.ref a) H2) fun _ _ _ => False
section
variable {X : Cx} {CX : CXT} {x : Str} {C fI : Addr} {k : Nat} {fd : FuncData} {ps : List Str} {sp : Sp} {e : Expr} {es : List Expr} {ta : TA} {p pos : Pos}
theorem pe_exo (T : OexC X.K C) (iC : PySem.W.findIn X.K (.ref C) "__init__" = some (some (.ref fI))) (tI : PySem.W.typeIn X.K (.ref fI) = some (.type "function"))
    (F1 : FnOk X.prog X.w X.K X.mg X.base CX k fI fd ps sp) (hr : Room (k + 1) X.A) (hb : Binds X.K fd ps []) (hx : Passes CX X (fun _ _ _ => False)) (hg : Gl X x) (hm : X.mg x = some (.ref C)) (ha : PA X (e :: es) ta)
    (hdb : (x == ("__debug__" : Str)) = false := by decide) (he : starEach (e :: es) X.env = (false, eval e X.env) :: starEach es X.env := by rfl) (hpl : (backTo pos (starEach es X.env)).any (·.1) = false := by rfl) :
    PE X (.Call (.Name x p) (e :: es) [] pos) (tMkV C sp ta) := by
  refine ⟨fun pins s σ H Q I h => ?_⟩
  refine wpAny_Call_Name_kw (ld_glob I hg hm ?_ hdb)
  refine PySem.W.callWith_K (h₀ := X.base) I.ok.mod.kin T.kC (thn (ha.run pos pins s σ H _ I h) fun us s1 ⟨vs, H1, I1, r1, hz, q1⟩ => ⟨I1.kIn, ?_⟩) he hpl
  exact run_exo T iC tI F1 hr hb hx I1 r1 hz q1
theorem pe_exo0 (T : OexC X.K C) (iC : PySem.W.findIn X.K (.ref C) "__init__" = some (some (.ref fI))) (tI : PySem.W.typeIn X.K (.ref fI) = some (.type "function"))
    (F1 : FnOk X.prog X.w X.K X.mg X.base CX k fI fd ps sp) (hr : Room (k + 1) X.A) (hb : Binds X.K fd ps []) (hx : Passes CX X (fun _ _ _ => False)) (hg : Gl X x) (hm : X.mg x = some (.ref C))
    (hdb : (x == ("__debug__" : Str)) = false := by decide) : PE X (.Call (.Name x p) [] [] pos) (tMkV C sp tNil) := by
  refine ⟨fun pins s σ H Q I h => ?_⟩
  refine wpAny_Call_Name_kw (ld_glob I hg hm ?_ hdb)
  obtain ⟨hz, q1⟩ := h
  exact PySem.W.callWith_K0 I.kIn T.kC (run_exo T iC tI F1 hr hb hx I .nil hz q1)
/-- what isinstance asks of the class -/
structure IsC (K : PySem.W.Frag) (C : Addr) : Prop where
  cl : (PySem.W.clsIn K C).isSome = true
  ga : PySem.W.findIn K (.ref C) "__getattribute__" = some (some (.builtin "BaseException.__getattribute__"))
  gg : PySem.W.findIn K (.ref C) "__getattr__" = some none
  sb : PySem.W.subIn K (.ref C) (.type "BaseException") = some true
  ca : PySem.W.findIn K (.ref C) "__class__" = some (some (.builtin "object.__class__"))
  cn : PySem.W.specialIn K (.builtin "object.__class__") "__get__" = some (some (.builtin "getset_descriptor.__get__"))
  ct : PySem.W.takesIn K (.builtin "object.__class__") = some true
  mo : PySem.W.mroIn K C (.type "object") = some true
  hd : PySem.W.hasDictIn K C = true
def rIsX (K : PySem.W.Frag) : List V → Hp → VK → Prop := fun xs H Q => ∃ (a C : Addr) (c : V) (t : Value) (b : Bool), xs = [.ref a, c] ∧ Held H a C ∧ IsC K C ∧ ClsV c t ∧ PySem.W.kitOne K (.ref C) t = some b ∧ Q (.bl b) H
theorem call_isX : CallR X (.builtin "isinstance") (rIsX X.K) := by
  intro pins s σ H xs us Q I r h
  obtain ⟨a, C, c, t, b, rfl, hh, T, hc, e, q⟩ := h
  cases r with
  | cons rx rr =>
    cases rr with
    | cons rt rr =>
      cases rr
      cases rx
      have ec := hc.eq rt
      subst ec
      obtain ⟨ox, od, J⟩ := held_at I hh
      exact PySem.W.kia_one (PySem.W.kitx_exc T.cl T.ga T.gg T.sb T.ca T.cn T.ct T.mo) I.kIn J e (fun z => nomatch z) fun tk => ⟨.bl b, H, I.kept (t' := tk) fun _ _ z => z, rfl, q⟩
/-- e.f of such an error -/
def tFx (K : PySem.W.Frag) (f : Str) (te : TE) : TE := fun σ H Q => te σ H fun x H1 => ∃ (a C dx : Addr) (fs : List (Str × V)) (v : V), x = .ref a ∧ IsC K C ∧ PySem.W.findIn K (.ref C) f = some none ∧ H1 a = some (exo a C (some dx)) ∧ H1 dx = some (exd dx fs) ∧ fs.lookup f = some v ∧ Q v H1
theorem pe_fx {o : Expr} {te : TE} {f : Str} (he : PE X o te) (hb : attributeBase o f X.env (eval o X.env) = eval o X.env := by rfl) : PE X (.Attribute o f pos) (tFx X.K f te) := by
  refine ⟨fun pins s σ H Q I h => ?_⟩
  refine attr_of hb (thn (he.run pins s σ H _ I h) fun u s1 hh => ?_)
  obtain ⟨y, H1, I1, ry, a, C, dx, fs, v, ey, T, hno, ha, hd, hl, q⟩ := hh
  subst ey
  obtain rfl : u = Value.ref a := ry
  obtain ⟨t1, ho⟩ := exo_at I1.hok ha
  obtain ⟨mA, hns, rel⟩ := exd_at I1.hok hd
  obtain ⟨od, hod, hlk⟩ := lookIn_ns hns
  obtain ⟨u, hu, ru⟩ := RelO.some_of (v := v) (o := mA f) (by rw [← hl]; exact rel f)
  have J : PySem.W.InstAt s1.heap a _ C (some od) := ⟨ho, rfl, rfl, hod⟩
  exact HandSPX.exc_get I1.kIn J T.ga T.gg T.sb (PySem.W.findObj_own T.hd hno rfl (by rw [hlk, hu])) (handed_of ru) ⟨v, H1, I1.tok _, ru, q⟩
end
/-- an error class of the text, as the top has made it -/
structure Err (P : Program) (K : PySem.W.Frag) (mg : Str → Option Value) (x qual : Str) (st : Stmt) (ps attrs : List Str) where
  C : Addr
  f : Addr
  fd : FuncData
  F : FunS P K "__init__" qual st C f fd
  b : Binds K fd ps []
  S : SupC K C C
  T : IsC K C
  g : mg x = some (.ref C)
  ini : PySem.W.findIn K (.ref C) "__init__" = some (some (.ref f))
  tI : PySem.W.typeIn K (.ref f) = some (.type "function")
  no : ∀ y ∈ attrs, PySem.W.findIn K (.ref C) y = some none
/-- what may be written into its text -/
def Say : V → Prop
  | .str y => y.length ≤ 1000
  | .int i => 0 ≤ i ∧ i < 10 ^ 10
  | _ => False
def spI0 (C : Addr) : Sp := fun vs H Q _ => ∃ a, vs = [.ref a] ∧ H a = some (exo a C none) ∧ Q .non H
def spI1 (C : Addr) (n : Str) : Sp := fun vs H Q _ => ∃ a v, vs = [.ref a, v] ∧ H a = some (exo a C none) ∧ Say v ∧
  ∀ dx H', H dx = none → (∀ b o, b ≠ a → H b = some o → H' b = some o) → H' a = some (exo a C (some dx)) → H' dx = some (exd dx [(n, v)]) → Q .non H'
def spI2 (C : Addr) (n m : Str) : Sp := fun vs H Q _ => ∃ a v u, vs = [.ref a, v, u] ∧ H a = some (exo a C none) ∧ Say v ∧ Say u ∧
  ∀ dx H', H dx = none → (∀ b o, b ≠ a → H b = some o → H' b = some o) → H' a = some (exo a C (some dx)) → H' dx = some (exd dx [(m, u), (n, v)]) → Q .non H'
theorem fin1 {H : Hp} {a dx C : Addr} {fs : List (Str × V)} (nd : H dx = none) (ne : dx ≠ a) {R : Hp → Prop}
    (q : ∀ H', H dx = none → (∀ b o, b ≠ a → H b = some o → H' b = some o) → H' a = some (exo a C (some dx)) → H' dx = some (exd dx fs) → R H') : R (upd (upd H dx (exd dx fs)) a (exo a C (some dx))) :=
  q _ nd (fun b o nb e => by rw [upd_ne nb, upd_ne (ne_of_none e nd)]; exact e) upd_same (by rw [upd_ne ne, upd_same])
theorem fin2 {H : Hp} {a dx C : Addr} {fs gs : List (Str × V)} (nd : H dx = none) (ne : dx ≠ a) {R : Hp → Prop}
    (q : ∀ H', H dx = none → (∀ b o, b ≠ a → H b = some o → H' b = some o) → H' a = some (exo a C (some dx)) → H' dx = some (exd dx gs) → R H') : R (upd (upd (upd H dx (exd dx fs)) a (exo a C (some dx))) dx (exd dx gs)) :=
  q _ nd (fun b o nb e => by rw [upd_ne (ne_of_none e nd), upd_ne nb, upd_ne (ne_of_none e nd)]; exact e) (by rw [upd_ne ne.symm, upd_same]) upd_same
theorem digits {i : Int} (h0 : 0 ≤ i) (h : i < 10 ^ 10) : (PySem.Str.ofString (toString i)).length ≤ 10 := toString_length_le h0 (by decide) h
theorem log_of {i : Int} (h0 : 0 ≤ i) (h : i < 10 ^ 10) : i.natAbs.log2 < 1920 := by
  have h1 : i.natAbs < 2 ^ 40 := by omega
  have := PySem.Flt.log2_lt_of (by decide : 0 < 40) h1
  omega
theorem app_len (x y : Str) : (x ++ y).length = x.length + y.length := by
  show (x.cps ++ y.cps).size = x.cps.size + y.cps.size
  exact Array.size_append
theorem Say.two {v : V} (h : Say v) : (∃ y : Str, v = .str y ∧ y.length ≤ 1000) ∨ ∃ i : Int, v = .int i ∧ i.natAbs.log2 < 1920 ∧ (toString i : Str).length ≤ 10 := by
  cases v with
  | str y => exact .inl ⟨y, rfl, h⟩
  | int i =>
    obtain ⟨h0, h1⟩ : 0 ≤ i ∧ i < 10 ^ 10 := h
    exact .inr ⟨i, rfl, log_of h0 h1, digits h0 h1⟩
  | non => exact h.elim
  | bl _ => exact h.elim
  | byt _ => exact h.elim
  | flt _ => exact h.elim
  | ref _ => exact h.elim
  | ty _ => exact h.elim
theorem big {n : Nat} (h : n ≤ 5000) : n ≤ sizeLine := Nat.le_trans h (by decide)
theorem len_app {x y : Str} {a b : Nat} (hx : x.length ≤ a) (hy : y.length ≤ b) : (x ++ y).length ≤ a + b := by
  rw [app_len]
  omega
/-- what is asked of an error's class, as one test -/
def errB (K : PySem.W.Frag) (C f : Addr) (attrs : List Str) : Bool :=
  decide (PySem.W.findIn K (.ref C) "__setattr__" = some (some (.builtin "object.__setattr__"))) && (decide (PySem.W.subIn K (.ref C) (.type "BaseException") = some true) &&
  (decide (PySem.W.typeIn K (.ref C) = some (.type "type")) && (PySem.W.keepIn K (.ref C) && ((PySem.W.clsIn K C).isSome && (decide (PySem.W.mroIn K C (.ref C) = some true) &&
  (decide (PySem.W.ks_superIn K C C "__init__" = some (some (.builtin "ValueError.__init__"))) && (decide (PySem.W.subIn K (.ref C) (.type "ValueError") = some true) && (decide (PySem.W.nsIn K cStatics "thirdparty.any" = some none) &&
  (decide (PySem.W.findIn K (.ref C) "__getattribute__" = some (some (.builtin "BaseException.__getattribute__"))) && (decide (PySem.W.findIn K (.ref C) "__getattr__" = some none) &&
  (decide (PySem.W.findIn K (.ref C) "__class__" = some (some (.builtin "object.__class__"))) && (decide (PySem.W.specialIn K (.builtin "object.__class__") "__get__" = some (some (.builtin "getset_descriptor.__get__"))) &&
  (decide (PySem.W.takesIn K (.builtin "object.__class__") = some true) && (decide (PySem.W.mroIn K C (.type "object") = some true) && (PySem.W.hasDictIn K C &&
  (decide (PySem.W.typeIn K (.ref f) = some (.type "function")) && attrs.all fun y => decide (PySem.W.findIn K (.ref C) y = some none)))))))))))))))))
theorem err_of {P : Program} {K : PySem.W.Frag} {mg : Str → Option Value} {x qual : Str} {st : Stmt} {ps attrs : List Str} {C f : Addr} {fd : FuncData} (F : FunS P K "__init__" qual st C f fd) (b : Binds K fd ps []) (g : mg x = some (.ref C))
    (cls : ∃ nm q N bs bm sn sub ab col dd k0 k1 k2 k3 k5, K.lookup C = some (excClassObj nm q C N bs bm true sn sub ab col dd k0 k1 k2 k3 k5 "ValueError.__new__") ∧ PySem.HandSPX.refsVE bm = true)
    (ini : PySem.W.findIn K (.ref C) "__init__" = some (some (.ref f))) (h : errB K C f attrs = true) : Nonempty { E : Err P K mg x qual st ps attrs // E.C = C } := by
  unfold errB at h
  simp only [Bool.and_eq_true, decide_eq_true_eq, List.all_eq_true] at h
  obtain ⟨h1, h2, h3, h4, h5, h6, h7, h8, h9, h10, h11, h12, h13, h14, h15, h16, h17, h18⟩ := h
  exact ⟨⟨⟨C, f, fd, F, b, ⟨⟨cls, h1, h2, h3, h4⟩, Option.isSome_iff_exists.mp h5, h6, h7, h8, h9⟩, ⟨h5, h10, h11, h2, h12, h13, h14, h15, h16⟩, g, ini, h17, h18⟩, rfl⟩⟩
/-- isinstance between errors of the text: each is of its own class alone, of the class q and a ValueError -/
def isB (K : PySem.W.Frag) (q : Addr) (cs : List Addr) : Bool := (List.range cs.length).all fun i => decide (PySem.W.kitOne K (.ref (cs.getD i 0)) (.type "ValueError") = some true) && (decide (PySem.W.kitOne K (.ref (cs.getD i 0)) (.ref q) = some true) &&
  (List.range cs.length).all fun j => decide (PySem.W.kitOne K (.ref (cs.getD i 0)) (.ref (cs.getD j 0)) = some (decide (i = j))))
theorem isB_of {K : PySem.W.Frag} {q : Addr} {cs : List Addr} (h : isB K q cs = true) {i : Nat} (hi : i < cs.length) : PySem.W.kitOne K (.ref (cs.getD i 0)) (.type "ValueError") = some true ∧ PySem.W.kitOne K (.ref (cs.getD i 0)) (.ref q) = some true ∧
    ∀ j, j < cs.length → PySem.W.kitOne K (.ref (cs.getD i 0)) (.ref (cs.getD j 0)) = some (decide (i = j)) := by
  unfold isB at h
  rw [List.all_eq_true] at h
  have h1 := h i (List.mem_range.mpr hi)
  simp only [Bool.and_eq_true, decide_eq_true_eq, List.all_eq_true] at h1
  exact ⟨h1.1, h1.2.1, fun j hj => h1.2.2 j (List.mem_range.mpr hj)⟩
end QX

set_option Elab.async false
set_option linter.all false
set_option maxRecDepth 100000
set_option maxHeartbeats 4000000
/-! An own error raised, caught, and its field read in the suite. -/
namespace QX
open PySem PySem.Spec PyProof.Rows L2
theorem Err.xf {P : Program} {K : PySem.W.Frag} {mg : Str → Option Value} {x qual : Str} {st : Stmt} {ps attrs : List Str} (R : Err P K mg x qual st ps attrs) : XfC K R.C := ⟨R.T.ga, R.T.gg, R.T.sb, R.T.hd⟩
/-- a callee that may raise, where it is shown that it doesn't -/
theorem passF {X : Cx} : Passes (L2.CX X.prog X.w) X (fun _ _ _ => False) := fun _ _ _ _ _ _ _ c => by
  obtain ⟨_, _, _, _, _, _, _, _, _, _, _, _, z⟩ := c
  exact z.elim
/-- a callee that may raise, in a def that lets it out -/
theorem passE {X : Cx} {E : XK} {E₁ : Value → Shared → Prop} (hs : X.stack = X.env :: X.outer := by rfl) (hf : X.env.frame = some X.env.locals := by rfl) (hex : X.ex = [] := by rfl)
    (hx : X.xe = (fun e s' => wpAny (model X.prog X.w) X.A (leaving X.env e) (fun _ s'' => CX X.prog X.w X.outer X.H_0 X.s_0 E e s'') E₁ s') := by rfl) : Passes (L2.CX X.prog X.w) X E :=
  passes_call (takes_of hs hf hex hx) fun _ _ _ _ h => h
/-- what raise X(v) asks, v its one part -/
theorem mkO1_of {C : Addr} {n : Str} {v : V} {H1 : Hp} {Q : XK} (sv : Say v) (q : ∀ d G, H1 d = none → (∀ b o, H1 b = some o → G b = some o) → G d = some (.xd [(n, v)]) → Q (.ref C) (some d) G) :
    ([v] : List V).length ≤ 1000 ∧ ∀ a, H1 a = none → spI1 C n (.ref a :: ([v] ++ [])) (upd H1 a (exo a C none)) (fun x H2 => x = .non ∧ ∃ (d : Addr) (fs : List (Str × V)), H2 a = some (exo a C (some d)) ∧ H2 d = some (exd d fs) ∧ H1 d = none ∧ Q (.ref C) (some d) (upd (del H2 a) d (.xd fs))) fun _ _ _ => False := by
  refine ⟨by show 1 ≤ 1000; decide, fun a na => ⟨a, v, rfl, upd_same, sv, fun dx H' nd kp ha hd => ⟨rfl, dx, _, ha, hd, ?_, ?_⟩⟩⟩
  · by_cases e : dx = a
    · rw [e, upd_same] at nd
      cases nd
    · rwa [upd_ne e] at nd
  · have n1 : H1 dx = none := by
      by_cases e : dx = a
      · rw [e, upd_same] at nd
        cases nd
      · rwa [upd_ne e] at nd
    refine q dx _ n1 (fun b o hb => ?_) upd_same
    rw [upd_ne (ne_of_none hb n1), del_ne (ne_of_none hb na)]
    exact kp b o (ne_of_none hb na) (by rw [upd_ne (ne_of_none hb na)]; exact hb)
/-- what raise X(v, u) asks -/
theorem mkO2_of {C : Addr} {n m : Str} {v u : V} {H1 : Hp} {Q : XK} (sv : Say v) (su : Say u) (q : ∀ d G, H1 d = none → (∀ b o, H1 b = some o → G b = some o) → G d = some (.xd [(m, u), (n, v)]) → Q (.ref C) (some d) G) :
    ([v, u] : List V).length ≤ 1000 ∧ ∀ a, H1 a = none → spI2 C n m (.ref a :: ([v, u] ++ [])) (upd H1 a (exo a C none)) (fun x H2 => x = .non ∧ ∃ (d : Addr) (fs : List (Str × V)), H2 a = some (exo a C (some d)) ∧ H2 d = some (exd d fs) ∧ H1 d = none ∧ Q (.ref C) (some d) (upd (del H2 a) d (.xd fs))) fun _ _ _ => False := by
  refine ⟨by show 2 ≤ 1000; decide, fun a na => ⟨a, v, u, rfl, upd_same, sv, su, fun dx H' nd kp ha hd => ⟨rfl, dx, _, ha, hd, ?_, ?_⟩⟩⟩
  · by_cases e : dx = a
    · rw [e, upd_same] at nd
      cases nd
    · rwa [upd_ne e] at nd
  · have n1 : H1 dx = none := by
      by_cases e : dx = a
      · rw [e, upd_same] at nd
        cases nd
      · rwa [upd_ne e] at nd
    refine q dx _ n1 (fun b o hb => ?_) upd_same
    rw [upd_ne (ne_of_none hb n1), del_ne (ne_of_none hb na)]
    exact kp b o (ne_of_none hb na) (by rw [upd_ne (ne_of_none hb na)]; exact hb)
end QX

set_option Elab.async false
set_option linter.all false
set_option maxRecDepth 100000
/-! x in t, x not in t, for a tuple t of data and data x -/
namespace IT
open PySem PySem.Spec PyProof.Rows L2
/-- both read as data -/
def Both (K : PySem.W.Frag) (H : Hp) (x y : V) (d : PyData) (ds : List PyData) : Prop := (Dp K H x d ∧ SeqAt.shaped d = true) ∧ Dp K H y (.tuple ds) ∧ SeqAt.shaped (.tuple ds) = true
def rInT (K : PySem.W.Frag) (neg : Bool) : R2 := fun x y H Q => ∃ d ds, Both K H x y d ds ∧ Q (.bl (neg.xor (ds.any fun z => PyData.eqv z d))) H
theorem op_inT {X : Cx} (room : X.A.units + 65 < cLine) : OpR X (compareOp .In) (rInT X.K false) := by
  rintro pins s σ H x y v u Q I rx ry ⟨d, ds, ⟨⟨h1, k1⟩, h2, k2⟩, q⟩
  obtain ⟨_, r1⟩ := Dp.reads I d x v h1 rx
  obtain ⟨_, r2⟩ := Dp.reads I (.tuple ds) y u h2 ry
  refine SeqAt.in_tuple_reads r2 r1 (by have := SeqAt.canLay_of_shaped k2; unfold PyData.canLay0 at this; exact this) (SeqAt.canLay_of_shaped k1) (room_in_shaped k1 room) ⟨.bl _, H, I, rfl, ?_⟩
  rw [Bool.false_xor] at q
  exact q
theorem op_notInT {X : Cx} (room : X.A.units + 65 < cLine) : OpR X (compareOp .NotIn) (rInT X.K true) := by
  rintro pins s σ H x y v u Q I rx ry ⟨d, ds, ⟨⟨h1, k1⟩, h2, k2⟩, q⟩
  obtain ⟨_, r1⟩ := Dp.reads I d x v h1 rx
  obtain ⟨_, r2⟩ := Dp.reads I (.tuple ds) y u h2 ry
  refine SeqAt.notIn_tuple_reads r2 r1 (by have := SeqAt.canLay_of_shaped k2; unfold PyData.canLay0 at this; exact this) (SeqAt.canLay_of_shaped k1) (room_in_shaped k1 room) ⟨.bl _, H, I, rfl, ?_⟩
  rw [Bool.true_xor] at q
  exact q
end IT
namespace IT
open PySem L2
theorem hu65 {A : Around} {k : Nat} (r : Room k A) : A.units + 65 < cLine := by
  have := r.un
  omega
end IT

set_option Elab.async false
set_option linter.all false
set_option maxRecDepth 100000
set_option maxHeartbeats 4000000
/-! tuple * int for every int from 0 on: once is the tuple itself, never is an empty one -/
namespace TR
open PySem PySem.Spec PyProof.Rows L2
theorem tuple_mul1 (l : Addr) (items : Array Value) (n : Nat) (dd : Option Addr) (sl : Array (Option Value)) (u : Tok) :
    Meets (Builtin.«tuple.__mul__» ⟨[.ref l, .int 1 u], []⟩) (fun _ R s => s.heap.get? l = some { cls := .type "tuple", dict := dd, data := .seq items n, slots := sl } ∧ R (.ok (.ret (Value.ref l))) s) :=
  .of_wp fun prog w A R s h => by
    obtain ⟨hp, g, d, tk, os⟩ := s
    obtain ⟨hl, h⟩ := h
    have f1 := AutoSeq1.idx_int
    have c1 : (items.isEmpty || (1 : Int) == 1) = true := by simp
    wp_walk using wpAny_loadPart' hl
    repeat (first
      | (refine wpAny_ite_true (decide_eq_true (by rw [c1])) ?_; wp_walk using wpAny_loadPart' hl)
      | (refine wpAny_ite_false (decide_eq_false (by decide)) ?_; wp_walk using wpAny_loadPart' hl))
    exact ⟨_, rfl, h⟩
theorem tuple_mul0 (l : Addr) (items : Array Value) (n : Nat) (dd : Option Addr) (sl : Array (Option Value)) (u : Tok) (hi : items.isEmpty = false) :
    Meets (Builtin.«tuple.__mul__» ⟨[.ref l, .int 0 u], []⟩) (fun _ R s => s.heap.get? l = some { cls := .type "tuple", dict := dd, data := .seq items n, slots := sl } ∧
      R (.ok (.ret (Value.ref s.heap.objs.size))) { s with heap := s.heap.push { cls := Value.type "tuple", data := Data.seq #[] }, toks := s.toks }) :=
  .of_wp fun prog w A R s h => by
    obtain ⟨hp, g, d, tk, os⟩ := s
    obtain ⟨hl, h⟩ := h
    have f1 := AutoSeq1.idx_int
    have c1 : (items.isEmpty || (0 : Int) == 1) = false := by rw [hi]; rfl
    have c2 : (decide ((0 : Int) ≤ 0) || items.isEmpty) = true := by simp
    wp_walk using wpAny_loadPart' hl
    exact ⟨_, rfl, h⟩
def rRepA (K : PySem.W.Frag) : R2 := fun x y H Q => ∃ l k xs, x = .ref l ∧ y = .int k ∧ SqT K H l xs ∧ xs ≠ [] ∧ 0 ≤ k ∧ k ≤ 1000 ∧ xs.length ≤ 1000 ∧
  (k = 1 → Q (.ref l) H) ∧ (k ≠ 1 → ∀ p, H p = none → Q (.ref p) (upd H p (.tup (List.replicate k.toNat xs).flatten)))
section
variable {X : Cx}
theorem op_repA : OpR X (binaryOp .Mult) (rRepA X.K) := by
  intro pins s σ H x y v u Q I rx ry h
  obtain ⟨l, k, xs, rfl, rfl, hT, hne, h1, h2, hz, q1, q2⟩ := h
  by_cases hk2 : 2 ≤ k
  · exact op_repT pins s σ H _ _ v u Q I rx ry ⟨l, k, xs, rfl, rfl, hT, hne, hk2, h2, hz, q2 (by omega)⟩
  cases rx
  obtain ⟨t, rfl⟩ := ry
  obtain ⟨its, r, ⟨⟨cls, dd, data, sl⟩, ho, hc, n, hd⟩, hs⟩ := I.tuple hT
  simp only at hc hd
  subst hc hd
  have hle : its.length = xs.length := r.length.symm
  have hi : its.toArray.isEmpty = false := by
    cases its with
    | nil => exact absurd (List.eq_nil_of_length_eq_zero hle.symm) hne
    | cons a b => rfl
  have hk : k = 0 ∨ k = 1 := by omega
  rcases hk with rfl | rfl
  · refine wpAny_binaryOp_repeat_ref (T := "tuple") (U := "int") (by decide) ⟨_, ho, rfl⟩ (fun s' => typeIs_int s' 0 t) noFill_tuple_mul F.fills_int_mul F.slot_int_rmul repeat_tuple F.slot_int_index.lookup
      (call_meets F.slot_int_rmul (typeIs_int s 0 t) F.entry_int_rmul (F.args_int_rmul_2 _ _) (int_rmul_tuple 0 t l its.toArray n dd sl)
        ⟨ho, rfl, ⟨_, ho, rfl⟩, call_meets F.slot_tuple_mul ⟨_, ho, rfl⟩ F.entry_tuple_mul (F.args_tuple_mul_2 _ _) (tuple_mul0 l its.toArray n dd sl t hi) ⟨ho, ?_⟩⟩)
    refine ⟨.ref s.heap.objs.size, _, I.laid (t' := s.toks) (o := .tup []) (fun b ob q => Heap.get?_push_of_some _ q) (Nat.le_refl _) ?_, rfl, q2 (by decide) _ (I.hok.fresh (Nat.le_refl _))⟩
    exact ⟨Nat.zero_le _, [], .nil, IsTup.new _ _⟩
  · refine wpAny_binaryOp_repeat_ref (T := "tuple") (U := "int") (by decide) ⟨_, ho, rfl⟩ (fun s' => typeIs_int s' 1 t) noFill_tuple_mul F.fills_int_mul F.slot_int_rmul repeat_tuple F.slot_int_index.lookup
      (call_meets F.slot_int_rmul (typeIs_int s 1 t) F.entry_int_rmul (F.args_int_rmul_2 _ _) (int_rmul_tuple 1 t l its.toArray n dd sl)
        ⟨ho, rfl, ⟨_, ho, rfl⟩, call_meets F.slot_tuple_mul ⟨_, ho, rfl⟩ F.entry_tuple_mul (F.args_tuple_mul_2 _ _) (tuple_mul1 l its.toArray n dd sl t) ⟨ho, ?_⟩⟩)
    exact ⟨.ref l, H, I, rfl, q1 rfl⟩
end
end TR

set_option Elab.async false
set_option linter.all false
set_option maxRecDepth 100000
/-! a field of an instance as one of several targets; a method that may raise, called in a try; an expression that is never come to -/
namespace Fl
open PySem PySem.Spec PyProof.Rows L2
section
variable {X : Cx} {pos : Pos}
/-- o.f = v -/
def gFld (K : PySem.W.Frag) (to : TE) (f : Str) : TG := fun v σ H Q => to σ H fun x H1 => ∃ a C dx fs, x = .ref a ∧ H1 a = some (.ins C dx fs) ∧ Cls K C ∧ NoAttr K C f ∧ fs.length < 1000 ∧ Q σ (upd H1 a (.ins C dx (putF f v fs)))
theorem pg_fld {o : Expr} {to : TE} {f : Str} (ho : PE X o to) : PG X (.Attribute o f pos) (gFld X.K to f) where
  run := by
    intro pins s σ H v u Q I r h
    rw [assign_Attribute]
    refine wpAny_bind (wpAny_holding (thn (ho.run pins s σ H _ I h) ?_))
    rintro ov s1 ⟨x, H1, I1, r1, a, C, dx, fs, rfl, ea, c, n, l, q⟩
    cases r1
    refine wpAny_bind (wpAny_standAt (wpAny_bind (wpAny_holding ?_)))
    exact setattr_ok I1 ea c n l r fun s2 I2 => wpAny_release ⟨σ, _, I2, q⟩
/-- an expression that is never come to -/
def tNo : TE := fun _ _ _ => False
theorem pe_no {e : Expr} : PE X e tNo where
  run := fun _ _ _ _ _ _ h => absurd h id
/-- o.m(..), with what it raises read at the slots -/
def tMethAt (C : Addr) (m : Str) (sp : Sp) (E : L2.St → XK) (ta : TE) (t : TA) : TE := fun σ H Q => tMeth C m sp [] (E σ) ta t σ H Q
section
variable {CX : CXT} {k : Nat} {f C : Addr} {fd : FuncData} {ps : List Str} {sp : Sp} {E : L2.St → XK} {m : Str} {apos : Pos} {e o : Expr} {es : List Expr} {ta : TE} {t : TA} {pl : Sem Bool}
theorem pe_methT (he : PE X o ta) (c : Cls X.K C) (hm : Meth X.K C m f) (F : FnOk X.prog X.w X.K X.mg X.base CX k f fd ps sp) (hr : Room k X.A) (hb : Binds X.K fd ps []) (hx : ∀ σ, PassesAt CX X σ (E σ)) (ha : PA X (e :: es) t)
    (hs : starEach (e :: es) X.env = (false, eval e X.env) :: starEach es X.env := by rfl) (hp : (backTo pos (starEach es X.env)).any (·.1) = false := by rfl)
    (ht : eval (.Call (.Attribute o m apos) (e :: es) [] pos) X.env = (do let ov ← eval o X.env; standAt apos.atName; let (f, first) ← holding [ov] (getMethod ov m pl); callWith pos f first (backTo pos (starEach (e :: es) X.env)) (backToKw pos (keywordEach [] X.env))) := by rfl) :
    PE X (.Call (.Attribute o m apos) (e :: es) [] pos) (tMethAt C m sp E ta t) where
  run := by
    intro pins s σ H Q I h
    refine PySem.W.methodCall_KW (pl := pl) (thn (he.run pins s σ H _ I h) ?_) ht
    rintro u s1 ⟨x, H1, I1, rx, a, dx, fs, rfl, ea, l, q⟩
    cases rx
    refine getmeth_ok I1 ea c hm l (PySem.W.callWith_K (first := [.ref a]) (h₀ := X.base) I.ok.mod.kin hm.kp (thn (ha.run pos pins s1 σ H1 _ I1 q) ?_) hs hp)
    rintro us s2 ⟨vs, H2, I2, r, q2⟩
    rw [List.append_nil] at q2
    exact ⟨I2.kIn, run_fnS (us := .ref a :: us) (vs := .ref a :: vs) F hr hb (hx σ) I2 (.cons rfl r) q2⟩
theorem pe_methT0 (he : PE X o ta) (c : Cls X.K C) (hm : Meth X.K C m f) (F : FnOk X.prog X.w X.K X.mg X.base CX k f fd ps sp) (hr : Room k X.A) (hb : Binds X.K fd ps []) (hx : ∀ σ, PassesAt CX X σ (E σ))
    (ht : eval (.Call (.Attribute o m apos) [] [] pos) X.env = (do let ov ← eval o X.env; standAt apos.atName; let (f, first) ← holding [ov] (getMethod ov m pl); callWith pos f first (backTo pos (starEach [] X.env)) (backToKw pos (keywordEach [] X.env))) := by rfl) :
    PE X (.Call (.Attribute o m apos) [] [] pos) (tMethAt C m sp E ta tNil) where
  run := by
    intro pins s σ H Q I h
    refine PySem.W.methodCall_KW (pl := pl) (thn (he.run pins s σ H _ I h) ?_) ht
    rintro u s1 ⟨x, H1, I1, rx, a, dx, fs, rfl, ea, l, q⟩
    cases rx
    exact getmeth_ok I1 ea c hm l (PySem.W.callWith_K0 (first := [.ref a]) I1.kIn hm.kp (run_fnS (us := [.ref a]) (vs := [.ref a]) F hr hb (hx σ) I1 (.cons rfl .nil) q))
end
end
end Fl

set_option Elab.async false
set_option linter.all false
set_option maxRecDepth 100000
set_option maxHeartbeats 400000
/-! zip(a, b), where each of a and b is a text, a tuple or a list. -/
namespace ZG
open PySem PySem.Spec PyProof.Rows L2

/-- what a zip goes over -/
inductive Src where
  | txt (x : Str) | tup (a : Addr) | lst (a : Addr)
def Src.v : Src → V
  | .txt x => .str x | .tup a => .ref a | .lst a => .ref a
/-- it stands, with these items -/
def Src.has (K : PySem.W.Frag) (H : Hp) : Src → List V → Prop
  | .txt x, ys => ys = x.cps.toList.map fun c => .str ⟨#[c]⟩
  | .tup a, ys => SqT K H a ys
  | .lst a, ys => SqL K H a ys
def Src.cells : Src → List Addr
  | .txt _ => [] | .tup a => [a] | .lst a => [a]
def Src.itAt : Src → Addr → Nat → Heap → Prop
  | .txt x, it, i, h => ∃ t, h.IsStrIter it (strIterType x) x t i
  | .tup a, it, i, h => h.IsTupleIter it a i
  | .lst a, it, i, h => h.IsListIter it a i
theorem Src.itAt_obj {S : Src} {it : Addr} {i : Nat} {h : Heap} (st : S.itAt it i h) : ∃ o, h.get? it = some o ∧ ∀ v, o.data ≠ .cell v := by
  cases S with
  | txt x => obtain ⟨t, o, ho, _, hd⟩ := st; exact ⟨o, ho, fun v q => by rw [hd] at q; cases q⟩
  | tup a => obtain ⟨o, ho, _, hd⟩ := st; exact ⟨o, ho, fun v q => by rw [hd] at q; cases q⟩
  | lst a => obtain ⟨o, ho, _, hd⟩ := st; exact ⟨o, ho, fun v q => by rw [hd] at q; cases q⟩
theorem Src.itAt_keep {S : Src} {it : Addr} {i : Nat} {h h' : Heap} (st : S.itAt it i h) (k : ∀ o, h.get? it = some o → h'.get? it = some o) : S.itAt it i h' := by
  cases S with
  | txt x => obtain ⟨t, o, ho, r⟩ := st; exact ⟨t, o, k o ho, r⟩
  | tup a => obtain ⟨o, ho, r⟩ := st; exact ⟨o, k o ho, r⟩
  | lst a => obtain ⟨o, ho, r⟩ := st; exact ⟨o, k o ho, r⟩
theorem Src.inj {X : Cx} {pins : List (Addr × Obj)} {σ : L2.St} {H : Hp} {s : Shared} (I : Inv X pins σ H s) {S : Src} {xs ys : List V} (h1 : S.has X.K H xs) (h2 : S.has X.K H ys) : xs = ys := by
  cases S with
  | txt x => exact h1.trans h2.symm
  | tup a => exact I.tuple_inj h1 h2
  | lst a => exact I.list_inj h1 h2

theorem Src.draws {X : Cx} {pins : List (Addr × Obj)} {σ : L2.St} {H : Hp} {s : Shared} (I : Inv X pins σ H s) (hh : X.A.in1.handled = none) {S : Src} {it : Addr} {i : Nat} {xs : List V} (hs : S.has X.K H xs) (st : S.itAt it i s.heap) (hne : ∀ c ∈ S.cells, c ≠ it) :
    ∃ (P : Nat → Value → Prop) (St : Nat → Heap → Prop), Draws X.prog X.w X.A.in1 it (it :: S.cells) xs.length P St ∧ St i s.heap ∧ (∀ j v, P j v → ∃ x, xs[j]? = some x ∧ RelV x v) ∧ ∀ j h, St j h → S.itAt it j h := by
  cases S with
  | txt x =>
    obtain ⟨t, st⟩ := st
    have hs : xs = x.cps.toList.map fun c => V.str ⟨#[c]⟩ := hs
    have hl : xs.length = x.cps.size := by rw [hs]; simp
    rw [hl]
    refine ⟨_, _, Draws.text hh it x t, st, fun j v hv => ?_, fun j h q => ⟨t, q⟩⟩
    obtain ⟨c, u, hc, rfl⟩ := hv
    refine ⟨.str ⟨#[c]⟩, ?_, u, rfl⟩
    rw [hs, List.getElem?_map, Array.getElem?_toList, hc]; rfl
  | tup a =>
    obtain ⟨its, rv, p, _⟩ := I.tuple (show SqT X.K H a xs from hs)
    have hl : xs.length = its.toArray.size := by rw [rv.length]; simp
    rw [hl]
    refine ⟨_, _, Draws.tuple hh it a (hne a (List.mem_cons_self ..)) its.toArray, ⟨st, p⟩, fun j v hv => ?_, fun j h q => q.1⟩
    have hv : its[j]? = some v := by simpa using hv
    have hj : j < xs.length := by
      rw [rv.length]
      rcases Nat.lt_or_ge j its.length with z | z
      · exact z
      · rw [List.getElem?_eq_none z] at hv; cases hv
    obtain ⟨u, hu, ru⟩ := rv.get (List.getElem?_eq_getElem hj)
    rw [hv] at hu
    cases hu
    exact ⟨_, List.getElem?_eq_getElem hj, ru⟩
  | lst a =>
    obtain ⟨its, rv, p, _⟩ := I.list (show SqL X.K H a xs from hs)
    have hl : xs.length = its.toArray.size := by rw [rv.length]; simp
    rw [hl]
    refine ⟨_, _, Draws.list hh it a (hne a (List.mem_cons_self ..)) its.toArray, ⟨st, p.isList⟩, fun j v hv => ?_, fun j h q => q.1⟩
    have hv : its[j]? = some v := by simpa using hv
    have hj : j < xs.length := by
      rw [rv.length]
      rcases Nat.lt_or_ge j its.length with z | z
      · exact z
      · rw [List.getElem?_eq_none z] at hv; cases hv
    obtain ⟨u, hu, ru⟩ := rv.get (List.getElem?_eq_getElem hj)
    rw [hv] at hu
    cases hu
    exact ⟨_, List.getElem?_eq_getElem hj, ru⟩

/-- both as they stand at each turn; the items in a new pair -/
def ItG (K : PySem.W.Frag) (S1 S2 : Src) : It where
  go i H := ∃ xs ys, S1.has K H xs ∧ S2.has K H ys ∧ i < xs.length ∧ i < ys.length
  yld i H v H' := ∃ T x y, v = .ref T ∧ H T = none ∧ H' = upd H T (.tup [x, y]) ∧ (∀ xs, S1.has K H xs → xs[i]? = some x) ∧ ∀ ys, S2.has K H ys → ys[i]? = some y
  stop i H := ∃ xs ys, S1.has K H xs ∧ S2.has K H ys ∧ i = min xs.length ys.length
structure Apart (z TI TO i1 i2 : Addr) (S1 S2 : Src) : Prop where
  sep : ZipSep2 z TI TO i1 i2 (i1 :: S1.cells) (i2 :: S2.cells)
  n1 : ∀ c ∈ S1.cells, c ≠ i1
  n2 : ∀ c ∈ S2.cells, c ≠ i2

theorem turnG {P : Program} {w : World} {K : PySem.W.Frag} {elts : List Expr} {kk : Nat} {tpos : Pos} {S1 S2 : Src} {z TI TO i1 i2 : Addr} (D : Apart z TI TO i1 i2 S1 S2) :
    Turn P w K (.Tuple elts kk tpos) (ItG K S1 S2) [z, TI, TO, i1, i2] z (fun i h => (IsZip h z TI TO .none ∧ IsTupOf2 h TI (.ref i1) (.ref i2) ∧ ∃ x y, IsTupOf2 h TO x y) ∧ S1.itAt i1 i h ∧ S2.itAt i2 i h) where
  mem := by simp
  obj := by
    rintro i h ⟨⟨hz, hI, x, y, hO⟩, h1, h2⟩ c hc
    simp only [List.mem_cons, List.not_mem_nil, or_false] at hc
    rcases hc with rfl | rfl | rfl | rfl | rfl
    · exact ⟨_, hz, nofun⟩
    · exact ⟨_, hI, nofun⟩
    · exact ⟨_, hO, nofun⟩
    · exact Src.itAt_obj h1
    · exact Src.itAt_obj h2
  keep := by
    rintro i h h' ⟨⟨hz, hI, x, y, hO⟩, h1, h2⟩ k
    exact ⟨⟨k z (by simp) _ hz, k TI (by simp) _ hI, x, y, k TO (by simp) _ hO⟩, Src.itAt_keep h1 (k i1 (by simp)), Src.itAt_keep h2 (k i2 (by simp))⟩
  item := by
    intro X hP hw hK hc i pins s σ H E I hf ⟨⟨hz, hI, x0, y0, hO⟩, h1, h2⟩ ⟨xs, ys, q1, q2, l1, l2⟩
    subst hP hw hK
    have hh : X.A.in1.handled = none := I.ok.hd hc
    obtain ⟨P1, St1, D1, st1, e1, k1⟩ := Src.draws I hh q1 h1 D.n1
    obtain ⟨P2, St2, D2, st2, e2, k2⟩ := Src.draws I hh q2 h2 D.n2
    have lz : z < s.heap.objs.size := Heap.lt_size hz
    refine wpAny_pyNext_zipD2_item D.sep D1 D2 hz hI hO st1 st2 l1 l2 fun u1 u2 h' tk p1 p2 z' o' n1 n2 hT hsz hk => ?_
    obtain ⟨x, hx, rx⟩ := e1 i u1 p1
    obtain ⟨y, hy, ry⟩ := e2 i u2 p2
    refine ⟨_, rfl, wpAny_letOwnedTupleGo_zip (s := { s with heap := h', toks := tk }) z' fun h'' z'' sb => ?_⟩
    have hT2 := (sb.2 _ (Nat.ne_of_gt lz)).trans hT
    have new : ObjOk X.prog X.w (upd H s.heap.objs.size (.tup [x, y])) h'' s.heap.objs.size (.tup [x, y]) :=
      ⟨by show 2 ≤ sizeLine; decide, [u1, u2], .cons rx (.cons ry .nil), _, hT2, rfl, _, rfl⟩
    have all : ∀ c o, c ∉ [z, TI, TO, i1, i2] → s.heap.get? c = some o → h''.get? c = some o := fun c o hb q => by
      simp only [List.mem_cons, List.not_mem_nil, or_false, not_or] at hb
      exact (sb.2 c hb.1).trans (hk c o hb.1 hb.2.2.1 hb.2.2.2.1 hb.2.2.2.2 q)
    have I1 : Inv X pins σ (upd H s.heap.objs.size (.tup [x, y])) { s with heap := h'', toks := tk } := I.turnedNew all hf (Nat.le_refl _) new
    have lt : ∀ {c o}, s.heap.get? c = some o → c < s.heap.objs.size := fun e => Heap.lt_size e
    obtain ⟨oa, ha, _⟩ := Src.itAt_obj h1
    obtain ⟨ob, hb, _⟩ := Src.itAt_obj h2
    refine ⟨.ref s.heap.objs.size, _, I1, rfl, ⟨_, x, y, rfl, I.hok.fresh (Nat.le_refl _), rfl, fun l hl => by rw [Src.inj I hl q1]; exact hx, fun l hl => by rw [Src.inj I hl q2]; exact hy⟩, ⟨⟨z'', ?_, u1, u2, ?_⟩, ?_, ?_⟩, fun c hcm => ?_⟩
    · exact (sb.2 _ D.sep.TIz).trans (hk _ _ D.sep.TIz D.sep.TITO D.sep.TIi1 D.sep.TIi2 hI)
    · exact (sb.2 _ D.sep.TOz).trans o'
    · exact Src.itAt_keep (k1 _ _ n1) fun o e => (sb.2 _ (Ne.symm D.sep.zi1)).trans e
    · exact Src.itAt_keep (k2 _ _ n2) fun o e => (sb.2 _ (Ne.symm D.sep.zi2)).trans e
    · have hlt : c < s.heap.objs.size := by
        simp only [List.mem_cons, List.not_mem_nil, or_false] at hcm
        rcases hcm with rfl | rfl | rfl | rfl | rfl
        · exact lz
        · exact lt hI
        · exact lt hO
        · exact lt ha
        · exact lt hb
      rw [upd_ne (Nat.ne_of_lt hlt)]
      exact (hf c hcm).1
  done := by
    intro X hP hw hK hc i pins s σ H E I hf ⟨⟨hz, hI, x0, y0, hO⟩, h1, h2⟩ ⟨xs, ys, q1, q2, hend⟩
    subst hP hw hK
    have hh : X.A.in1.handled = none := I.ok.hd hc
    obtain ⟨P1, St1, D1, st1, e1, k1⟩ := Src.draws I hh q1 h1 D.n1
    obtain ⟨P2, St2, D2, st2, e2, k2⟩ := Src.draws I hh q2 h2 D.n2
    refine wpAny_pyNext_zipD2_end D.sep D1 D2 hz hI hO st1 st2 (by omega) (by omega) (by omega) fun h' tk hk => ⟨rfl, I.turnedL (ch := [z, TI, TO, i1, i2]) (fun c o hb q => ?_) hf⟩
    simp only [List.mem_cons, List.not_mem_nil, or_false, not_or] at hb
    exact hk c o hb.1 hb.2.2.1 hb.2.2.2.1 hb.2.2.2.2 q
  self := fun A i s Q E st h => wpAny_pyIter_zip st.1.1 h

/-- the object of its iterator, at the start -/
def Src.o1 (S : Src) (u : Value) : Obj :=
  match S with
  | .txt x => { cls := .type (strIterType x), data := .fields #[u, .int 0 0] }
  | .tup _ => { cls := .type "tuple_iterator", data := .fields #[u, .int 0 0] }
  | .lst _ => { cls := .type "list_iterator", data := .fields #[u, .int 0 0] }
theorem Src.begins {X : Cx} {pins : List (Addr × Obj)} {σ : L2.St} {H : Hp} {s : Shared} (I : Inv X pins σ H s) {S : Src} {xs : List V} (hs : S.has X.K H xs) {u : Value} (hu : RelV S.v u) :
    ∃ G : Heap → Prop, Begins u (S.o1 u) G ∧ G s.heap ∧ (∀ h it, h.get? it = some (S.o1 u) → S.itAt it 0 h) ∧ ∀ c ∈ S.cells, c < s.heap.objs.size := by
  cases S with
  | txt x =>
    obtain ⟨t, rfl⟩ := hu
    exact ⟨_, begins_text x t, trivial, fun h it e => ⟨t, _, e, rfl, rfl⟩, nofun⟩
  | tup a =>
    cases hu
    obtain ⟨its, rv, p, _⟩ := I.tuple (show SqT X.K H a xs from hs)
    obtain ⟨o, ho, _⟩ := id p
    exact ⟨_, begins_tuple a its.toArray, p, fun h it e => ⟨_, e, rfl, rfl⟩, fun c hc => by rw [List.mem_singleton.mp hc]; exact Heap.lt_size ho⟩
  | lst a =>
    cases hu
    obtain ⟨its, rv, p, _⟩ := I.list (show SqL X.K H a xs from hs)
    exact ⟨_, begins_list a its.toArray, p.isList, fun h it e => ⟨_, e, rfl, rfl⟩, fun c hc => by rw [List.mem_singleton.mp hc]; exact p.lt⟩

def iZipG (K : PySem.W.Frag) (ta : TA) : TI := fun σ H R => ta σ H fun vs H1 => ∃ S1 S2 xs ys, vs = [Src.v S1, Src.v S2] ∧ S1.has K H1 xs ∧ S2.has K H1 ys ∧ R (ItG K S1 S2) H1
theorem pi_zipG {X : Cx} {e e2 : Expr} {ta : TA} {p pos tpos : Pos} {elts : List Expr} {kk : Nat} (hg : Gl X "zip") (hm : X.mg "zip" = none) (ha : PA X [e, e2] ta)
    (hs : starEach [e, e2] X.env = (false, eval e X.env) :: starEach [e2] X.env := by rfl) (hpl : (backTo pos (starEach [e2] X.env)).any (·.1) = false := by rfl) :
    PI X (.Tuple elts kk tpos) (.Call (.Name "zip" p) [e, e2] [] pos) (iZipG X.K ta) := by
  refine ⟨fun pins s σ H R I h => Call_ (ld_blt I hg hm PyProof.Rows.boot_zip (PyProof.Rows.callWith_type1 (thn (ha.run pos pins s σ H _ I h) fun us s1 ⟨vs, H1, I1, r1, q1⟩ => ?_) hs hpl))⟩
  obtain ⟨S1, S2, xs, ys, rfl, g1, g2, q⟩ := q1
  cases r1 with
  | cons r rr =>
    cases rr with
    | cons r' rr =>
      cases rr
      obtain ⟨G1, B1, b1, f1, c1⟩ := Src.begins I1 g1 r
      obtain ⟨G2, B2, b2, f2, c2⟩ := Src.begins I1 g2 r'
      refine zip_begins2 B1 B2 b1 b2 ?_
      intro h' hz hI hO o1 o2 hsz hk
      refine wpAny_pyIter_zip hz ?_
      have I2 : Inv X pins σ H1 { s1 with heap := h' } := I1.kept (t' := s1.toks) hk
      have D : Apart (s1.heap.objs.size + 4) (s1.heap.objs.size + 2) (s1.heap.objs.size + 3) s1.heap.objs.size (s1.heap.objs.size + 1) S1 S2 := ⟨zip_sep2 c1 c2, fun c hc => Nat.ne_of_lt (c1 c hc), fun c hc => Nat.ne_of_lt (Nat.lt_succ_of_lt (c2 c hc))⟩
      refine ⟨s1.heap.objs.size + 4, [s1.heap.objs.size + 4, s1.heap.objs.size + 2, s1.heap.objs.size + 3, s1.heap.objs.size, s1.heap.objs.size + 1], _, _, H1, rfl, I2, turnG D, ⟨⟨hz, hI, _, _, hO⟩, f1 _ _ o1, f2 _ _ o2⟩, fun c hc => ?_, q⟩
      have hle : s1.heap.objs.size ≤ c := by
        simp only [List.mem_cons, List.not_mem_nil, or_false] at hc
        rcases hc with rfl | rfl | rfl | rfl | rfl
        · exact Nat.le_add_right _ _
        · exact Nat.le_add_right _ _
        · exact Nat.le_add_right _ _
        · exact Nat.le_refl _
        · exact Nat.le_add_right _ _
      exact I1.fpOk hle (I1.hok.fresh hle)

theorem walkG {K : PySem.W.Frag} {S1 S2 : Src} {xs ys : List V} {n : Nat} (hn : n = min xs.length ys.length) : Walk (ItG K S1 S2) n (fun H => S1.has K H xs ∧ S2.has K H ys) (YPair (fun i => xs[i]?) (fun i => ys[i]?)) := by
  refine ⟨fun i _ hi q => ⟨xs, ys, q.1, q.2, by omega, by omega⟩, fun _ q => ⟨xs, ys, q.1, q.2, hn⟩, fun i H v H' _ q y => ?_⟩
  obtain ⟨T, x, w, e1, e2, e3, e4, e5⟩ := y
  exact ⟨T, x, w, e1, e2, e3, e4 xs q.1, e5 ys q.2⟩
end ZG

set_option Elab.async false
set_option linter.all false
set_option maxRecDepth 100000
set_option maxHeartbeats 1000000
/-! A second layer: values as data, objects by number, a law's defs as transformers over these.
A reading of the hand layer is had from the data's reading, once for each construct. -/
namespace DT
open PySem PySem.Spec PyProof.Rows L2 Lw WD GxR
/-- a value: tuples by what they hold; ro: a list that nobody writes; ref: the object of that number; con: any other thing -/
inductive D where
  | non
  | bl (b : Bool)
  | int (i : Int)
  | str (x : Str)
  | con (v : V)
  | tup (ds : List D)
  | ro (ds : List D)
  | ref (n : Nat)
/-- an object that may be written -/
inductive Ob where
  | lst (ds : List D)
  | ins (c : Str) (fs : List (Str × D))
  | dct (kvs : List (Key × D))
abbrev Sto := List Ob
structure Wl where
  ads : List Addr
  imm : List (Addr × HO)
structure Ext (w w' : Wl) : Prop where
  pre : ∃ l, w'.ads = w.ads ++ l
  sub : ∀ q ∈ w.imm, q ∈ w'.imm
theorem Ext.rfl {w : Wl} : Ext w w := ⟨⟨[], (List.append_nil _).symm⟩, fun _ h => h⟩
theorem Ext.trans {a b c : Wl} (h : Ext a b) (k : Ext b c) : Ext a c := by
  obtain ⟨⟨l, e⟩, s⟩ := h
  obtain ⟨⟨m, f⟩, t⟩ := k
  exact ⟨⟨l ++ m, by rw [f, e, List.append_assoc]⟩, fun q hq => t q (s q hq)⟩
theorem Ext.ads {w w' : Wl} (h : Ext w w') {n : Nat} {a : Addr} (e : w.ads[n]? = some a) : w'.ads[n]? = some a := by
  obtain ⟨⟨l, f⟩, _⟩ := h
  rw [f, List.getElem?_append_left (List.getElem?_eq_some_iff.mp e).1]
  exact e
/-- a list that stands, of the law's text or of the program's top -/
def LstAt (K : PySem.W.Frag) (L : List (Addr × HO)) (a : Addr) (xs : List V) : Prop :=
  (∃ u, (a, u) ∈ L ∧ (u = .lst xs ∨ ∃ o, u = .frz o (.lst xs))) ∨ ∀ H : Hp, SqL K H a xs
theorem LstAt.sq {K : PySem.W.Frag} {L : List (Addr × HO)} {H : Hp} {a : Addr} {xs : List V} (h : LstAt K L a xs) (hL : ∀ q ∈ L, H q.1 = some q.2) : SqL K H a xs := by
  rcases h with ⟨u, hm, rfl | ⟨o, rfl⟩⟩ | h
  · exact SqL.of (hL _ hm)
  · exact .inl (.inr ⟨o, hL _ hm⟩)
  · exact h H
theorem LstAt.mono {K : PySem.W.Frag} {L M : List (Addr × HO)} {a : Addr} {xs : List V} (h : LstAt K L a xs) (s : ∀ q ∈ L, q ∈ M) : LstAt K M a xs := by
  rcases h with ⟨u, hm, h⟩ | h
  · exact .inl ⟨u, s _ hm, h⟩
  · exact .inr h
inductive Rep (K : PySem.W.Frag) (w : Wl) : V → D → Prop
  | non : Rep K w .non .non
  | bl (b : Bool) : Rep K w (.bl b) (.bl b)
  | int (i : Int) : Rep K w (.int i) (.int i)
  | str (x : Str) : Rep K w (.str x) (.str x)
  | con (v : V) : Rep K w v (.con v)
  | tup {a : Addr} {xs : List V} {ds : List D} : TupAt K w.imm a xs → xs.length = ds.length → (∀ (i : Nat) (x : V) (d : D), xs[i]? = some x → ds[i]? = some d → Rep K w x d) → Rep K w (.ref a) (.tup ds)
  | ro {a : Addr} {xs : List V} {ds : List D} : LstAt K w.imm a xs → xs.length = ds.length → (∀ (i : Nat) (x : V) (d : D), xs[i]? = some x → ds[i]? = some d → Rep K w x d) → Rep K w (.ref a) (.ro ds)
  | ref {n : Nat} {a : Addr} : w.ads[n]? = some a → Rep K w (.ref a) (.ref n)
abbrev Reps (K : PySem.W.Frag) (w : Wl) : List V → List D → Prop := Paired (Rep K w)
theorem Rep.mono {K : PySem.W.Frag} {w w' : Wl} (s : Ext w w') {v : V} {d : D} (r : Rep K w v d) : Rep K w' v d := by
  induction r with
  | non => exact .non
  | bl b => exact .bl b
  | int i => exact .int i
  | str x => exact .str x
  | con v => exact .con v
  | tup t l _ ih => exact .tup (t.mono s.sub) l ih
  | ro t l _ ih => exact .ro (t.mono s.sub) l ih
  | ref e => exact .ref (s.ads e)
theorem Reps.mono {K : PySem.W.Frag} {w w' : Wl} (s : Ext w w') {vs : List V} {ds : List D} (r : Reps K w vs ds) : Reps K w' vs ds := paired_imp (fun _ _ z => z.mono s) r
theorem reps_of {R : V → D → Prop} : ∀ {xs : List V} {ds : List D}, xs.length = ds.length → (∀ (i : Nat) x d, xs[i]? = some x → ds[i]? = some d → R x d) → Paired R xs ds
  | [], [], _, _ => .nil
  | x :: xs, d :: ds, l, h => .cons (h 0 x d rfl rfl) (reps_of (by simpa using l) fun i y e h1 h2 => h (i + 1) y e (by simpa using h1) (by simpa using h2))
theorem pr_get2 {α β : Type} {R : α → β → Prop} {xs : List α} {ys : List β} (h : Paired R xs ys) {i : Nat} {x : α} {y : β} (a : xs[i]? = some x) (b : ys[i]? = some y) : R x y := by
  obtain ⟨z, hz, r⟩ := pr_get h a
  rw [b] at hz
  cases hz
  exact r
theorem Rep.tup_of {K : PySem.W.Frag} {w : Wl} {a : Addr} {xs : List V} {ds : List D} (t : TupAt K w.imm a xs) (p : Reps K w xs ds) : Rep K w (.ref a) (.tup ds) :=
  .tup t p.length fun _ _ _ h1 h2 => pr_get2 p h1 h2
theorem Rep.tup_at {K : PySem.W.Frag} {w : Wl} {v : V} {ds : List D} (r : Rep K w v (.tup ds)) : ∃ a xs, v = .ref a ∧ TupAt K w.imm a xs ∧ Reps K w xs ds := by
  cases r with
  | tup t l h => exact ⟨_, _, rfl, t, reps_of l h⟩
theorem Rep.ro_at {K : PySem.W.Frag} {w : Wl} {v : V} {ds : List D} (r : Rep K w v (.ro ds)) : ∃ a xs, v = .ref a ∧ LstAt K w.imm a xs ∧ Reps K w xs ds := by
  cases r with
  | ro t l h => exact ⟨_, _, rfl, t, reps_of l h⟩
theorem Rep.ref_at {K : PySem.W.Frag} {w : Wl} {v : V} {n : Nat} (r : Rep K w v (.ref n)) : ∃ a, v = .ref a ∧ w.ads[n]? = some a := by
  cases r with
  | ref e => exact ⟨_, rfl, e⟩
theorem Rep.int_at {K : PySem.W.Frag} {w : Wl} {v : V} {i : Int} (r : Rep K w v (.int i)) : v = .int i := by cases r; rfl
theorem Rep.str_at {K : PySem.W.Frag} {w : Wl} {v : V} {i : Str} (r : Rep K w v (.str i)) : v = .str i := by cases r; rfl
theorem Rep.bl_at {K : PySem.W.Frag} {w : Wl} {v : V} {i : Bool} (r : Rep K w v (.bl i)) : v = .bl i := by cases r; rfl
theorem Rep.non_at {K : PySem.W.Frag} {w : Wl} {v : V} (r : Rep K w v .non) : v = .non := by cases r; rfl
theorem Rep.con_at {K : PySem.W.Frag} {w : Wl} {v u : V} (r : Rep K w v (.con u)) : v = u := by cases r; rfl
/-- what stays as it is through the law -/
structure Ctx where
  K : PySem.W.Frag
  mg : Str → Option Value
  tb : List Addr
def RepO (C : Ctx) (w : Wl) : HO → Ob → Prop
  | .lst xs, .lst ds => Reps C.K w xs ds
  | .ins A _ fs, .ins c gs => C.mg c = some (.ref A) ∧ Paired (fun p q => p.1 = q.1 ∧ Rep C.K w p.2 q.2) fs gs
  | .dK ks, .dct gs => Paired (fun p q => p.1 = q.1 ∧ Rep C.K w p.2 q.2) ks gs
  | _, _ => False
theorem RepO.mono {C : Ctx} {w w' : Wl} (s : Ext w w') {u : HO} {o : Ob} (h : RepO C w u o) : RepO C w' u o := by
  cases u <;> cases o <;> first
    | exact False.elim h
    | exact Reps.mono s h
    | exact ⟨h.1, paired_imp (fun _ _ z => ⟨z.1, z.2.mono s⟩) h.2⟩
    | exact paired_imp (fun _ _ z => ⟨z.1, z.2.mono s⟩) (show Paired _ _ _ from h)
theorem RepO.not_tbl {C : Ctx} {w : Wl} {t : Array Value} {o : Ob} (h : RepO C w (.tbl t) o) : False := by cases o <;> exact h
structure Holds (C : Ctx) (H0 : Hp) (w : Wl) (S : Sto) (H : Hp) : Prop where
  imm : ∀ q ∈ w.imm, H q.1 = some q.2
  old : Same H0 H
  len : w.ads.length = S.length
  nd : w.ads.Nodup
  new : ∀ a ∈ w.ads, H0 a = none
  apart : ∀ q ∈ w.imm, q.1 ∉ w.ads
  plain : ∀ q ∈ w.imm, ∀ t, q.2 ≠ .tbl t
  ob : ∀ (n : Nat) (a : Addr) (o : Ob), w.ads[n]? = some a → S[n]? = some o → ∃ u, H a = some u ∧ RepO C w u o
  tab : ∀ p ∈ C.tb, H0 p = none ∧ ∃ t : Array Value, H p = some (.tbl t) ∧ TriplesOk t.toList
section
variable {C : Ctx} {H0 H H' : Hp} {w w' : Wl} {S : Sto} {a : Addr} {u : HO}
theorem Holds.fresh (h : Holds C H0 w S H) (n : H a = none) : a ∉ w.ads := fun z => by
  obtain ⟨i, hi⟩ := List.mem_iff_getElem?.mp z
  have hl := (List.getElem?_eq_some_iff.mp hi).1
  rw [h.len] at hl
  obtain ⟨u, e, _⟩ := h.ob i a _ hi (List.getElem?_eq_getElem hl)
  rw [n] at e
  cases e
/-- more stands -/
theorem Holds.same (h : Holds C H0 w S H) (s : Same H H') : Holds C H0 w S H' where
  imm q hq := s _ _ (h.imm q hq)
  old := h.old.trans s
  len := h.len
  nd := h.nd
  new := h.new
  apart := h.apart
  plain := h.plain
  ob n a o h1 h2 := by
    obtain ⟨u, e, r⟩ := h.ob n a o h1 h2
    exact ⟨u, s _ _ e, r⟩
  tab p hp := by
    obtain ⟨e, t, k, ok⟩ := h.tab p hp
    exact ⟨e, t, s _ _ k, ok⟩
theorem Holds.skip (h : Holds C H0 w S H) (n : H a = none) : Holds C H0 w S (upd H a u) := h.same (same_upd n)
/-- something that nobody writes is laid -/
theorem Holds.lay (h : Holds C H0 w S H) (n : H a = none) (s : Same H H') (e : H' a = some u) (hk : ∀ t, u ≠ .tbl t) : Holds C H0 ⟨w.ads, (a, u) :: w.imm⟩ S H' := by
  have hs := h.same s
  refine ⟨fun q hq => ?_, hs.old, hs.len, hs.nd, hs.new, fun q hq => ?_, fun q hq => (List.mem_cons.mp hq).elim (fun z => by rw [z]; exact hk) (hs.plain q), fun i b o h1 h2 => ?_, hs.tab⟩
  · rcases List.mem_cons.mp hq with z | z
    · rw [z]; exact e
    · exact hs.imm q z
  · rcases List.mem_cons.mp hq with z | z
    · rw [z]; exact h.fresh n
    · exact hs.apart q z
  · obtain ⟨x, e, r⟩ := hs.ob i b o h1 h2
    exact ⟨x, e, RepO.mono (w := w) (w' := ⟨w.ads, (a, u) :: w.imm⟩) ⟨⟨[], (List.append_nil _).symm⟩, fun _ z => List.mem_cons_of_mem _ z⟩ r⟩
theorem ext_lay {q : Addr × HO} : Ext w ⟨w.ads, q :: w.imm⟩ := ⟨⟨[], (List.append_nil _).symm⟩, fun _ z => List.mem_cons_of_mem _ z⟩
theorem ext_add : Ext w ⟨w.ads ++ [a], w.imm⟩ := ⟨⟨[a], rfl⟩, fun _ z => z⟩
/-- a new object -/
theorem Holds.add {o : Ob} (h : Holds C H0 w S H) (n : H a = none) (s : Same H H') (e : H' a = some u) (r : RepO C w u o) : Holds C H0 ⟨w.ads ++ [a], w.imm⟩ (S ++ [o]) H' := by
  have hs := h.same s
  have fr := h.fresh n
  refine ⟨hs.imm, hs.old, ?_, ?_, fun b hb => ?_, fun q hq hb => ?_, hs.plain, fun i b x h1 h2 => ?_, hs.tab⟩
  · rw [List.length_append, List.length_append, h.len]; rfl
  · refine List.nodup_append.mpr ⟨h.nd, List.nodup_cons.mpr ⟨List.not_mem_nil, List.nodup_nil⟩, fun x hx y hy => ?_⟩
    have : y = a := by simpa using hy
    subst this
    exact fun z => fr (z ▸ hx)
  · rcases List.mem_append.mp hb with z | z
    · exact h.new b z
    · have : b = a := by simpa using z
      subst this
      exact h.old.free n
  · rcases List.mem_append.mp hb with z | z
    · exact h.apart q hq z
    · have z : q.1 = a := by simpa using z
      have := h.imm q hq
      rw [z, n] at this
      cases this
  · by_cases hi : i < w.ads.length
    · rw [List.getElem?_append_left hi] at h1
      rw [List.getElem?_append_left (by rw [← h.len]; exact hi)] at h2
      obtain ⟨y, e, r⟩ := hs.ob i b x h1 h2
      exact ⟨y, e, r.mono ext_add⟩
    · have hi2 : i = w.ads.length := by
        have := (List.getElem?_eq_some_iff.mp h1).1
        rw [List.length_append] at this
        have : i < w.ads.length + 1 := this
        omega
      subst hi2
      rw [List.getElem?_append_right (Nat.le_refl _), Nat.sub_self] at h1
      rw [h.len, List.getElem?_append_right (Nat.le_refl _), Nat.sub_self] at h2
      cases h1
      cases h2
      exact ⟨u, e, r.mono ext_add⟩
/-- an object is written -/
theorem Holds.put {o o' : Ob} {i : Nat} {v : HO} (h : Holds C H0 w S H) (hi : w.ads[i]? = some a) (ho : S[i]? = some o) (r : RepO C w v o') : Holds C H0 w (S.set i o') (upd H a v) := by
  obtain ⟨u, e, ru⟩ := h.ob i a o hi ho
  have hm : a ∈ w.ads := List.mem_of_getElem? hi
  refine ⟨fun q hq => ?_, fun b x hb => ?_, by rw [List.length_set]; exact h.len, h.nd, h.new, h.apart, h.plain, fun j b x h1 h2 => ?_, fun p hp => ?_⟩
  · rw [upd_ne (fun z : q.1 = a => h.apart q hq (by rw [z]; exact hm))]
    exact h.imm q hq
  · rw [upd_ne (fun z => by rw [z, h.new a hm] at hb; cases hb)]
    exact h.old b x hb
  · by_cases hj : i = j
    · subst hj
      rw [hi] at h1
      cases h1
      rw [List.getElem?_set_self (List.getElem?_eq_some_iff.mp ho).1] at h2
      cases h2
      exact ⟨v, upd_same, r⟩
    · rw [List.getElem?_set_ne hj] at h2
      obtain ⟨y, e, ry⟩ := h.ob j b x h1 h2
      refine ⟨y, ?_, ry⟩
      rw [upd_ne (fun z => ?_)]
      · exact e
      · subst z
        obtain ⟨g1, f1⟩ := List.getElem?_eq_some_iff.mp hi
        obtain ⟨g2, f2⟩ := List.getElem?_eq_some_iff.mp h1
        exact hj ((List.getElem_inj h.nd).mp (f1.trans f2.symm))
  · obtain ⟨n, t, k, ok⟩ := h.tab p hp
    refine ⟨n, t, ?_, ok⟩
    rw [upd_ne (fun z => ?_)]
    · exact k
    · subst z
      rw [k] at e
      cases e
      exact ru.not_tbl
/-- a table has grown -/
theorem Holds.tabbed {p : Addr} (h : Holds C H0 w S H) (hp : p ∈ C.tb) (t : Tabbed p H H') : Holds C H0 w S H' := by
  obtain ⟨⟨t', e', ok'⟩, k⟩ := t
  obtain ⟨n0, t0, e0, _⟩ := h.tab p hp
  have kp : ∀ b o, H b = some o → (∀ q, o ≠ .tbl q) → H' b = some o := fun b o e nn => by
    refine (k b (fun z => ?_)).trans e
    rw [z, e0] at e
    cases e
    exact nn _ rfl
  refine ⟨fun q hq => ?_, fun b o e => ?_, h.len, h.nd, h.new, h.apart, h.plain, fun i b o h1 h2 => ?_, fun r hr => ?_⟩
  · by_cases z : q.1 = p
    · have := h.imm q hq
      rw [z, e0] at this
      exact absurd (Option.some.inj this).symm (h.plain q hq t0)
    · exact (k _ z).trans (h.imm q hq)
  · exact (k b (fun z => by rw [z, n0] at e; cases e)).trans (h.old b o e)
  · obtain ⟨u, e, r⟩ := h.ob i b o h1 h2
    exact ⟨u, kp b u e (fun q z => by subst z; exact r.not_tbl), r⟩
  · by_cases z : r = p
    · subst z
      exact ⟨n0, t', e', ok'⟩
    · obtain ⟨n, t, e, ok⟩ := h.tab r hr
      exact ⟨n, t, (k r z).trans e, ok⟩
end
/-! ### transformers over data, and when a reading is had from one -/
abbrev DE := List (Option D)
abbrev DK := D → Sto → Prop
abbrev XE := DE → Sto → DK → Prop
abbrev XT := DE → Sto → (Bool → Sto → Prop) → Prop
abbrev XA := DE → Sto → (List D → Sto → Prop) → Prop
abbrev XO := DE → Sto → (Option Int → Sto → Prop) → Prop
abbrev X2 := D → D → Sto → DK → Prop
abbrev XG := D → DE → Sto → (DE → Sto → Prop) → Prop
abbrev XGs := List D → DE → Sto → (DE → Sto → Prop) → Prop
abbrev XF := List D → Sto → DK → Prop
structure XD where
  nx : DE → Sto → Prop
  rt : DK
  bk : DE → Sto → Prop := fun _ _ => False
  ct : DE → Sto → Prop := fun _ _ => False
abbrev XS := XD → DE → Sto → Prop
structure EnvR (K : PySem.W.Frag) (w : Wl) (σ : L2.St) (ρ : DE) : Prop where
  len : σ.length = ρ.length
  at_ : ∀ (i : Nat) (d : D), ρ[i]? = some (some d) → ∃ v, σ[i]? = some (some v) ∧ Rep K w v d
theorem EnvR.mono {K : PySem.W.Frag} {w w' : Wl} {σ : L2.St} {ρ : DE} (e : EnvR K w σ ρ) (s : Ext w w') : EnvR K w' σ ρ :=
  ⟨e.len, fun i d h => by
    obtain ⟨v, h1, h2⟩ := e.at_ i d h
    exact ⟨v, h1, h2.mono s⟩⟩
theorem EnvR.set {K : PySem.W.Frag} {w : Wl} {σ : L2.St} {ρ : DE} {v : V} {d : D} (e : EnvR K w σ ρ) (i : Nat) (r : Rep K w v d) : EnvR K w (σ.set i (some v)) (ρ.set i (some d)) := by
  refine ⟨by rw [List.length_set, List.length_set, e.len], fun j x h => ?_⟩
  by_cases hj : i = j
  · subst hj
    by_cases hi : i < ρ.length
    · rw [List.getElem?_set_self hi] at h
      cases h
      exact ⟨v, List.getElem?_set_self (by rw [e.len]; exact hi), r⟩
    · rw [List.getElem?_eq_none (by rw [List.length_set]; omega)] at h
      cases h
  · rw [List.getElem?_set_ne hj] at h ⊢
    exact e.at_ j x h
theorem EnvR.none {K : PySem.W.Frag} {w : Wl} {σ : L2.St} {ρ : DE} (e : EnvR K w σ ρ) (i : Nat) : EnvR K w (σ.set i none) (ρ.set i none) := by
  refine ⟨by rw [List.length_set, List.length_set, e.len], fun j x h => ?_⟩
  by_cases hj : i = j
  · subst hj
    by_cases hi : i < ρ.length
    · rw [List.getElem?_set_self hi] at h
      cases h
    · rw [List.getElem?_eq_none (by rw [List.length_set]; omega)] at h
      cases h
  · rw [List.getElem?_set_ne hj] at h ⊢
    exact e.at_ j x h
def xwipe (ρ : DE) : List Nat → DE
  | [] => ρ
  | v :: vs => (xwipe ρ vs).set v none
theorem EnvR.wiped {K : PySem.W.Frag} {w : Wl} {σ : L2.St} {ρ : DE} (e : EnvR K w σ ρ) : ∀ vs : List Nat, EnvR K w (wipe σ vs) (xwipe ρ vs)
  | [] => e
  | v :: vs => by
    unfold wipe xwipe
    exact (EnvR.wiped e vs).none v
section
variable (C : Ctx)
def Kont (H0 : Hp) (w : Wl) (q : DK) (Q : VK) : Prop := ∀ w' S H v d, Ext w w' → Holds C H0 w' S H → Rep C.K w' v d → q d S → Q v H
theorem Kont.mono {C : Ctx} {H0 : Hp} {w w' : Wl} {q : DK} {Q : VK} (k : Kont C H0 w q Q) (s : Ext w w') : Kont C H0 w' q Q := fun _ _ _ _ _ t h r x => k _ _ _ _ _ (s.trans t) h r x
def SE (t : TE) (x : XE) : Prop := ∀ H0 w σ ρ S H Q q, Holds C H0 w S H → EnvR C.K w σ ρ → x ρ S q → Kont C H0 w q Q → t σ H Q
def ST (t : TT) (x : XT) : Prop := ∀ H0 w σ ρ S H (Q : Bool → Hp → Prop) (q : Bool → Sto → Prop), Holds C H0 w S H → EnvR C.K w σ ρ → x ρ S q → (∀ w' S' H' b, Ext w w' → Holds C H0 w' S' H' → q b S' → Q b H') → t σ H Q
/-- n: how many, where that is known from the text -/
def SA (n : Option Nat) (t : TA) (x : XA) : Prop := ∀ H0 w σ ρ S H (Q : List V → Hp → Prop) (q : List D → Sto → Prop), Holds C H0 w S H → EnvR C.K w σ ρ → x ρ S q →
  (∀ w' S' H' vs ds, Ext w w' → Holds C H0 w' S' H' → Reps C.K w' vs ds → (∀ m, n = some m → ds.length = m) → q ds S' → Q vs H') → t σ H Q
def SO (t : TO) (x : XO) : Prop := ∀ H0 w σ ρ S H (Q : Option Int → Hp → Prop) (q : Option Int → Sto → Prop), Holds C H0 w S H → EnvR C.K w σ ρ → x ρ S q → (∀ w' S' H' b, Ext w w' → Holds C H0 w' S' H' → q b S' → Q b H') → t σ H Q
def S2 (r : R2) (g : X2) : Prop := ∀ H0 w S H x y dx dy Q q, Holds C H0 w S H → Rep C.K w x dx → Rep C.K w y dy → g dx dy S q → Kont C H0 w q Q → r x y H Q
def S1 (r : V → Hp → VK → Prop) (g : D → Sto → DK → Prop) : Prop := ∀ H0 w S H x dx Q q, Holds C H0 w S H → Rep C.K w x dx → g dx S q → Kont C H0 w q Q → r x H Q
def SC (r : List V → Hp → VK → Prop) (g : XF) : Prop := ∀ H0 w S H xs dxs Q q, Holds C H0 w S H → Reps C.K w xs dxs → g dxs S q → Kont C H0 w q Q → r xs H Q
def SM (r : V → List V → Hp → VK → Prop) (g : D → XF) : Prop := ∀ H0 w S H x dx xs dxs Q q, Holds C H0 w S H → Rep C.K w x dx → Reps C.K w xs dxs → g dx dxs S q → Kont C H0 w q Q → r x xs H Q
def SSl (r : V → Option Int → Option Int → Hp → VK → Prop) (g : D → Option Int → Option Int → Sto → DK → Prop) : Prop := ∀ H0 w S H x dx lo hi Q q, Holds C H0 w S H → Rep C.K w x dx → g dx lo hi S q → Kont C H0 w q Q → r x lo hi H Q
def KontN (H0 : Hp) (w : Wl) (q : DE → Sto → Prop) (Q : L2.St → Hp → Prop) : Prop := ∀ w' σ ρ S H, Ext w w' → Holds C H0 w' S H → EnvR C.K w' σ ρ → q ρ S → Q σ H
theorem KontN.mono {C : Ctx} {H0 : Hp} {w w' : Wl} {q : DE → Sto → Prop} {Q : L2.St → Hp → Prop} (k : KontN C H0 w q Q) (s : Ext w w') : KontN C H0 w' q Q := fun _ _ _ _ _ t h r x => k _ _ _ _ _ (s.trans t) h r x
structure KontS (H0 : Hp) (w : Wl) (d : XD) (D : Ends) : Prop where
  nx : KontN C H0 w d.nx D.nx
  rt : Kont C H0 w d.rt D.rt
  bk : KontN C H0 w d.bk D.bk
  ct : KontN C H0 w d.ct D.ct
theorem KontS.mono {C : Ctx} {H0 : Hp} {w w' : Wl} {d : XD} {D : Ends} (k : KontS C H0 w d D) (s : Ext w w') : KontS C H0 w' d D := ⟨k.nx.mono s, k.rt.mono s, k.bk.mono s, k.ct.mono s⟩
def SS (t : TS) (x : XS) : Prop := ∀ H0 w σ ρ S H D d, Holds C H0 w S H → EnvR C.K w σ ρ → x d ρ S → KontS C H0 w d D → t D σ H
def SG (g : TG) (x : XG) : Prop := ∀ H0 w σ ρ S H v d Q q, Holds C H0 w S H → EnvR C.K w σ ρ → Rep C.K w v d → x d ρ S q → KontN C H0 w q Q → g v σ H Q
def SGs (g : TGs) (x : XGs) : Prop := ∀ H0 w σ ρ S H vs ds Q q, Holds C H0 w S H → EnvR C.K w σ ρ → Reps C.K w vs ds → x ds ρ S q → KontN C H0 w q Q → g vs σ H Q
end
/-- a list is told item by item before it is used (so that it is reckoned once) -/
def forceL {α : Type} : List α → (List α → Prop) → Prop
  | [], k => k []
  | x :: xs, k => forceL xs fun ys => k (x :: ys)
theorem forceL_eq {α : Type} : ∀ (l : List α) (k : List α → Prop), forceL l k = k l
  | [], _ => rfl
  | x :: xs, k => forceL_eq xs fun ys => k (x :: ys)
/-- with what is there -/
abbrev oEl {α : Type} (o : Option α) (k : α → Prop) : Prop := @Option.rec α (fun _ => Prop) False k o
theorem oEl_inv {α : Type} {o : Option α} {k : α → Prop} (h : oEl o k) : ∃ a, o = some a ∧ k a := by
  cases o with
  | none => exact False.elim h
  | some a => exact ⟨a, rfl, h⟩
theorem oEl_of {α : Type} {o : Option α} {k : α → Prop} {a : α} (e : o = some a) (h : k a) : @Option.rec α (fun _ => Prop) False k o := by
  rw [e]
  exact h
/-- a choice, ready to be told by cases -/
abbrev bIf (b : Bool) (A B : Prop) : Prop := @Bool.rec (fun _ => Prop) B A b
/-! ### names, constants, operations -/
section
variable {C : Ctx}
def xVar (i : Nat) : XE := fun ρ S q => match ρ[i]? with
  | some (some d) => q d S
  | _ => False
theorem se_var (i : Nat) : SE C (tVar i) (xVar i) := by
  intro H0 w σ ρ S H Q q h e x k
  unfold xVar at x
  split at x
  · rename_i d hd
    obtain ⟨v, hv, r⟩ := e.at_ i d hd
    exact ⟨v, hv, k _ _ _ _ _ .rfl h r x⟩
  · exact x.elim
def xC (d : D) : XE := fun _ S q => q d S
theorem se_c {v : V} {d : D} (r : ∀ w, Rep C.K w v d) : SE C (tC v) (xC d) := fun _ w _ _ _ _ _ _ h _ x k => k _ _ _ _ _ .rfl h (r w) x
theorem se_int {i : Int} : SE C (tC (.int i)) (xC (.int i)) := se_c fun _ => .int i
theorem se_str {i : Str} : SE C (tC (.str i)) (xC (.str i)) := se_c fun _ => .str i
theorem se_bl {i : Bool} : SE C (tC (.bl i)) (xC (.bl i)) := se_c fun _ => .bl i
theorem se_non : SE C (tC .non) (xC .non) := se_c fun _ => .non
theorem se_con {v : V} : SE C (tC v) (xC (.con v)) := se_c fun _ => .con v
def xOp (g : X2) (a b : XE) : XE := fun ρ S q => a ρ S fun x S1 => b ρ S1 fun y S2 => g x y S2 q
theorem se_op {r : R2} {g : X2} {ta tb : TE} {a b : XE} (hr : S2 C r g) (ha : SE C ta a) (hb : SE C tb b) : SE C (tOp r ta tb) (xOp g a b) :=
  fun H0 w σ ρ S H Q q h e x k => ha H0 w σ ρ S H _ _ h e x fun w1 S1 H1 v1 d1 s1 h1 r1 x1 => hb H0 w1 σ ρ S1 H1 _ _ h1 (e.mono s1) x1 fun w2 S2 H2 v2 d2 s2 h2 r2 x2 =>
    hr H0 w2 S2 H2 v1 v2 d1 d2 Q q h2 (r1.mono s2) r2 x2 (k.mono (s1.trans s2))
def xUn (g : D → Sto → DK → Prop) (a : XE) : XE := fun ρ S q => a ρ S fun x S1 => g x S1 q
theorem se_un {r : V → Hp → VK → Prop} {g : D → Sto → DK → Prop} {ta : TE} {a : XE} (hr : S1 C r g) (ha : SE C ta a) : SE C (tUn r ta) (xUn g a) :=
  fun H0 w σ ρ S H Q q h e x k => ha H0 w σ ρ S H _ _ h e x fun w1 S1 H1 v1 d1 s1 h1 r1 x1 => hr H0 w1 S1 H1 v1 d1 Q q h1 r1 x1 (k.mono s1)
/-- two rules for one construct -/
theorem s2_l {r r' : R2} {g : X2} (h : S2 C r g) : S2 C (fun x y H Q => r x y H Q ∨ r' x y H Q) g := fun _ _ _ _ _ _ _ _ _ _ a b c d e => .inl (h _ _ _ _ _ _ _ _ _ _ a b c d e)
theorem s2_or {r r' : R2} {g : X2} (h : ∀ H0 w S H x y dx dy Q q, Holds C H0 w S H → Rep C.K w x dx → Rep C.K w y dy → g dx dy S q → Kont C H0 w q Q → r x y H Q ∨ r' x y H Q) : S2 C (fun x y H Q => r x y H Q ∨ r' x y H Q) g := h
/-- the list that is an object -/
@[irreducible] def look (S : Sto) (n : Nat) : Option (List D) := match S[n]? with
  | some (.lst ds) => some ds
  | _ => none
theorem look_of {S : Sto} {n : Nat} {ds : List D} (h : S[n]? = some (.lst ds)) : look S n = some ds := by
  unfold look
  simp only [h]
theorem of_look {S : Sto} {n : Nat} {ds : List D} (h : look S n = some ds) : S[n]? = some (.lst ds) := by
  unfold look at h
  split at h
  · cases h
    assumption
  · cases h
/-- what a value holds, if it is a list or a tuple -/
def seqD (S : Sto) : D → Option (List D)
  | .tup ds => some ds
  | .ro ds => some ds
  | .ref n => look S n
  | _ => none
theorem Holds.lst {H0 : Hp} {w : Wl} {S : Sto} {H : Hp} {n : Nat} {ds : List D} {v : V} (h : Holds C H0 w S H) (r : Rep C.K w v (.ref n)) (e : look S n = some ds) : ∃ a xs, v = .ref a ∧ w.ads[n]? = some a ∧ H a = some (.lst xs) ∧ Reps C.K w xs ds := by
  obtain ⟨a, rfl, ha⟩ := r.ref_at
  obtain ⟨u, hu, ru⟩ := h.ob n a _ ha (of_look e)
  cases u <;> first
    | exact False.elim ru
    | exact ⟨a, _, rfl, ha, hu, ru⟩
theorem Holds.ins {H0 : Hp} {w : Wl} {S : Sto} {H : Hp} {n : Nat} {c : Str} {gs : List (Str × D)} {v : V} (h : Holds C H0 w S H) (r : Rep C.K w v (.ref n)) (e : S[n]? = some (.ins c gs)) :
    ∃ a A dx fs, v = .ref a ∧ w.ads[n]? = some a ∧ H a = some (.ins A dx fs) ∧ C.mg c = some (.ref A) ∧ Paired (fun p q => p.1 = q.1 ∧ Rep C.K w p.2 q.2) fs gs := by
  obtain ⟨a, rfl, ha⟩ := r.ref_at
  obtain ⟨u, hu, ru⟩ := h.ob n a _ ha e
  cases u <;> first
    | exact False.elim ru
    | exact ⟨a, _, _, _, rfl, ha, hu, ru.1, ru.2⟩
theorem seq_of {H0 : Hp} {w : Wl} {S : Sto} {H : Hp} {d : D} {ds : List D} {v : V} (h : Holds C H0 w S H) (r : Rep C.K w v d) (e : seqD S d = some ds) : ∃ a xs, v = .ref a ∧ Reps C.K w xs ds ∧ (SqL C.K H a xs ∨ SqT C.K H a xs) := by
  unfold seqD at e
  split at e
  · cases e
    obtain ⟨a, xs, rfl, t, p⟩ := r.tup_at
    exact ⟨a, xs, rfl, p, .inr (t.sq h.imm)⟩
  · cases e
    obtain ⟨a, xs, rfl, t, p⟩ := r.ro_at
    exact ⟨a, xs, rfl, p, .inl (t.sq h.imm)⟩
  · obtain ⟨a, xs, rfl, _, hl, p⟩ := h.lst r e
    exact ⟨a, xs, rfl, p, .inl (SqL.of hl)⟩
  · cases e
/-! arithmetic -/
def gI (C : Int → Int → Prop) (g : Int → Int → D) : X2 := fun x y S q => match x, y with
  | .int i, .int j => C i j ∧ q (g i j) S
  | _, _ => False
def gI0 (g : Int → Int → D) : X2 := fun x y S q => match x, y with
  | .int i, .int j => q (g i j) S
  | _, _ => False
theorem gI_inv {c : Int → Int → Prop} {g : Int → Int → D} {x y : D} {S : Sto} {q : DK} (h : gI c g x y S q) : ∃ i j, x = .int i ∧ y = .int j ∧ c i j ∧ q (g i j) S := by
  cases x <;> cases y <;> first
    | exact False.elim h
    | exact ⟨_, _, rfl, rfl, h⟩
theorem gI0_inv {g : Int → Int → D} {x y : D} {S : Sto} {q : DK} (h : gI0 g x y S q) : ∃ i j, x = .int i ∧ y = .int j ∧ q (g i j) S := by
  cases x <;> cases y <;> first
    | exact False.elim h
    | exact ⟨_, _, rfl, rfl, h⟩
theorem s2_I {c : Int → Int → Prop} {g : Int → Int → V} {g' : Int → Int → D} (hg : ∀ w i j, Rep C.K w (g i j) (g' i j)) : S2 C (rI c g) (gI c g') := by
  intro H0 w S H x y dx dy Q q h rx ry x1 k
  obtain ⟨i, j, rfl, rfl, hc, x1⟩ := gI_inv x1
  exact ⟨i, j, rx.int_at, ry.int_at, hc, k _ _ _ _ _ .rfl h (hg _ _ _) x1⟩
theorem s2_I0 {g : Int → Int → V} {g' : Int → Int → D} (hg : ∀ w i j, Rep C.K w (g i j) (g' i j)) : S2 C (rI0 g) (gI0 g') := by
  intro H0 w S H x y dx dy Q q h rx ry x1 k
  obtain ⟨i, j, rfl, rfl, x1⟩ := gI0_inv x1
  exact ⟨i, j, rx.int_at, ry.int_at, k _ _ _ _ _ .rfl h (hg _ _ _) x1⟩
theorem s2_sub : S2 C (rI0 fun i j => .int (i - j)) (gI0 fun i j => .int (i - j)) := s2_I0 fun _ _ _ => .int _
theorem s2_mul : S2 C (rI CMulX fun i j => .int (i * j)) (gI CMulX fun i j => .int (i * j)) := s2_I fun _ _ _ => .int _
theorem s2_fdiv : S2 C (rI CDivW fun i j => .int (i / j)) (gI CDivW fun i j => .int (i / j)) := s2_I fun _ _ _ => .int _
theorem s2_mod : S2 C (rI (fun _ j => 0 < j) fun i j => .int (i % j)) (gI (fun _ j => 0 < j) fun i j => .int (i % j)) := s2_I fun _ _ _ => .int _
theorem s2_pow : S2 C (rI CPow fun i j => .int (i ^ j.toNat)) (gI CPow fun i j => .int (i ^ j.toNat)) := s2_I fun _ _ _ => .int _
theorem s2_shl : S2 C (rI CShl fun i j => .int (i * 2 ^ j.toNat)) (gI CShl fun i j => .int (i * 2 ^ j.toNat)) := s2_I fun _ _ _ => .int _
theorem s2_shr : S2 C (rI (fun _ j => 0 ≤ j) fun i j => .int (i / 2 ^ j.toNat)) (gI (fun _ j => 0 ≤ j) fun i j => .int (i / 2 ^ j.toNat)) := s2_I fun _ _ _ => .int _
theorem s2_and : S2 C (rI0 fun i j => .int (Builtin.bitAnd i j)) (gI0 fun i j => .int (Builtin.bitAnd i j)) := s2_I0 fun _ _ _ => .int _
theorem s2_or' : S2 C (rI0 fun i j => .int (Builtin.bitOr i j)) (gI0 fun i j => .int (Builtin.bitOr i j)) := s2_I0 fun _ _ _ => .int _
theorem s2_xor : S2 C (rI0 fun i j => .int (Builtin.bitXor i j)) (gI0 fun i j => .int (Builtin.bitXor i j)) := s2_I0 fun _ _ _ => .int _
theorem s2_lt : S2 C (rI0 fun i j => .bl (decide (i < j))) (gI0 fun i j => .bl (decide (i < j))) := s2_I0 fun _ _ _ => .bl _
theorem s2_le : S2 C (rI0 fun i j => .bl (decide (i ≤ j))) (gI0 fun i j => .bl (decide (i ≤ j))) := s2_I0 fun _ _ _ => .bl _
theorem s2_gt : S2 C (rI0 fun i j => .bl (decide (j < i))) (gI0 fun i j => .bl (decide (j < i))) := s2_I0 fun _ _ _ => .bl _
theorem s2_ge : S2 C (rI0 fun i j => .bl (decide (j ≤ i))) (gI0 fun i j => .bl (decide (j ≤ i))) := s2_I0 fun _ _ _ => .bl _
end
end DT

set_option Elab.async false
set_option linter.all false
set_option maxRecDepth 100000
set_option maxHeartbeats 1000000
namespace DT
open PySem PySem.Spec PyProof.Rows L2 Lw WD GxR
/-! ### data that compares -/
mutual
/-- a value as data, where no object stands in it -/
def pd : D → Option PyData
  | .non => some .none
  | .bl b => some (.bool b)
  | .int i => some (.int i)
  | .str x => some (.str x)
  | .con _ => none
  | .tup ds => (pds ds).map .tuple
  | .ro ds => (pds ds).map .list
  | .ref _ => none
termination_by structural d => d
def pds : List D → Option (List PyData)
  | [] => some []
  | d :: ds => match pd d, pds ds with
    | some x, some xs => some (x :: xs)
    | _, _ => none
termination_by structural ds => ds
end
/-- .. or a list of such -/
def pdt (S : Sto) (d : D) : Option PyData := match d with
  | .ref m => match look S m with
    | some ds => (pds ds).map .list
    | none => none
  | d => pd d
section
variable {C : Ctx} {H0 H : Hp} {w : Wl} {S : Sto}
mutual
theorem dp_of (hL : ∀ q ∈ w.imm, H q.1 = some q.2) : ∀ (d : D) (v : V) (p : PyData), Rep C.K w v d → pd d = some p → Dp C.K H v p
  | .non, v, p, r, e => by rw [r.non_at]; cases e; exact .non
  | .bl b, v, p, r, e => by rw [r.bl_at]; cases e; exact .bl b
  | .int i, v, p, r, e => by rw [r.int_at]; cases e; exact .int i
  | .str x, v, p, r, e => by rw [r.str_at]; cases e; exact .str x
  | .con u, v, p, r, e => by cases e
  | .tup ds, v, p, r, e => by
    obtain ⟨a, xs, rfl, t, ps⟩ := r.tup_at
    obtain ⟨l, hl, rfl⟩ := Option.map_eq_some_iff.mp (show (pds ds).map .tuple = some p from e)
    exact .tup (t.sq hL) (dps_of2 hL ds xs l ps hl)
  | .ro ds, v, p, r, e => by
    obtain ⟨a, xs, rfl, t, ps⟩ := r.ro_at
    obtain ⟨l, hl, rfl⟩ := Option.map_eq_some_iff.mp (show (pds ds).map .list = some p from e)
    exact .lst (t.sq hL) (dps_of2 hL ds xs l ps hl)
  | .ref n, v, p, r, e => by cases e
theorem dps_of2 (hL : ∀ q ∈ w.imm, H q.1 = some q.2) : ∀ (ds : List D) (vs : List V) (ps : List PyData), Reps C.K w vs ds → pds ds = some ps → DpAll C.K H vs ps
  | [], _, ps, .nil, e => by cases e; exact .nil
  | d :: ds, _, ps, .cons r t, e => by
    unfold pds at e
    split at e
    · rename_i x xs h1 h2
      cases e
      exact .cons (dp_of hL d _ x r h1) (dps_of2 hL ds _ xs t h2)
    · cases e
end
theorem dp_top (h : Holds C H0 w S H) {d : D} {v : V} {p : PyData} (r : Rep C.K w v d) (e : pdt S d = some p) : Dp C.K H v p := by
  unfold pdt at e
  split at e
  · rename_i m
    split at e
    · rename_i ds hn
      obtain ⟨l, hl, rfl⟩ := Option.map_eq_some_iff.mp e
      obtain ⟨a, xs, rfl, _, hx, ps⟩ := h.lst r hn
      exact .lst (SqL.of hx) (dps_of2 h.imm ds xs l ps hl)
    · cases e
  · exact dp_of h.imm d v p r e
end
/-- equal, not equal -/
def gEq (neg : Bool) : X2 := fun x y S q => match x, y with
  | .int i, .int j => q (.bl (neg.xor (decide (i = j)))) S
  | .str i, .str j => q (.bl (neg.xor (decide (i = j)))) S
  | .bl i, .bl j => q (.bl (neg.xor (decide (i = j)))) S
  | .non, .non => q (.bl (neg.xor true)) S
  | x, y => ∃ a b, pdt S x = some a ∧ pdt S y = some b ∧ SeqAt.shaped a = true ∧ SeqAt.shaped b = true ∧ q (.bl (neg.xor (PyData.eqv a b))) S
theorem gEq_inv {neg : Bool} {x y : D} {S : Sto} {q : DK} (h : gEq neg x y S q) :
    (∃ i j, x = .int i ∧ y = .int j ∧ q (.bl (neg.xor (decide (i = j)))) S) ∨ (∃ i j, x = .str i ∧ y = .str j ∧ q (.bl (neg.xor (decide (i = j)))) S) ∨
    (∃ i j, x = .bl i ∧ y = .bl j ∧ q (.bl (neg.xor (decide (i = j)))) S) ∨ (x = .non ∧ y = .non ∧ q (.bl (neg.xor true)) S) ∨
    ∃ a b, pdt S x = some a ∧ pdt S y = some b ∧ SeqAt.shaped a = true ∧ SeqAt.shaped b = true ∧ q (.bl (neg.xor (PyData.eqv a b))) S := by
  unfold gEq at h
  split at h
  · exact .inl ⟨_, _, rfl, rfl, h⟩
  · exact .inr (.inl ⟨_, _, rfl, rfl, h⟩)
  · exact .inr (.inr (.inl ⟨_, _, rfl, rfl, h⟩))
  · exact .inr (.inr (.inr (.inl ⟨rfl, rfl, h⟩)))
  · exact .inr (.inr (.inr (.inr h)))
section
variable {C : Ctx}
theorem dv_int (i j : Int) : decide (V.int i = V.int j) = decide (i = j) := decide_eq_decide.mpr ⟨fun z => V.int.inj z, fun z => by rw [z]⟩
theorem dv_str (i j : Str) : decide (V.str i = V.str j) = decide (i = j) := decide_eq_decide.mpr ⟨fun z => V.str.inj z, fun z => by rw [z]⟩
theorem dv_bl (i j : Bool) : decide (V.bl i = V.bl j) = decide (i = j) := decide_eq_decide.mpr ⟨fun z => V.bl.inj z, fun z => by rw [z]⟩
theorem s2_eq : S2 C (fun x y H Q => rEq x y H Q ∨ rEqD C.K x y H Q) (gEq false) := by
  intro H0 w S H x y dx dy Q q h rx ry x1 k
  have fin : ∀ b, q (.bl b) S → Q (.bl b) H := fun b z => k _ _ _ _ _ .rfl h (.bl _) z
  rcases gEq_inv x1 with ⟨i, j, rfl, rfl, z⟩ | ⟨i, j, rfl, rfl, z⟩ | ⟨i, j, rfl, rfl, z⟩ | ⟨rfl, rfl, z⟩ | ⟨a, b, ha, hb, sa, sb, z⟩
  · rw [rx.int_at, ry.int_at]
    refine .inl ⟨rfl, ?_⟩
    rw [dv_int]
    rw [Bool.false_xor] at z
    exact fin _ z
  · rw [rx.str_at, ry.str_at]
    refine .inl ⟨rfl, ?_⟩
    rw [dv_str]
    rw [Bool.false_xor] at z
    exact fin _ z
  · rw [rx.bl_at, ry.bl_at]
    refine .inl ⟨rfl, ?_⟩
    rw [dv_bl]
    rw [Bool.false_xor] at z
    exact fin _ z
  · rw [rx.non_at, ry.non_at]
    exact .inl ⟨rfl, fin _ z⟩
  · rw [Bool.false_xor] at z
    exact .inr ⟨a, b, dp_top h rx ha, dp_top h ry hb, sa, sb, fin _ z⟩
theorem s2_ne : S2 C (fun x y H Q => rNe x y H Q ∨ rNeD C.K x y H Q) (gEq true) := by
  intro H0 w S H x y dx dy Q q h rx ry x1 k
  have fin : ∀ b, q (.bl b) S → Q (.bl b) H := fun b z => k _ _ _ _ _ .rfl h (.bl _) z
  rcases gEq_inv x1 with ⟨i, j, rfl, rfl, z⟩ | ⟨i, j, rfl, rfl, z⟩ | ⟨i, j, rfl, rfl, z⟩ | ⟨rfl, rfl, z⟩ | ⟨a, b, ha, hb, sa, sb, z⟩
  · rw [rx.int_at, ry.int_at]
    refine .inl ⟨rfl, ?_⟩
    rw [dv_int]
    rw [Bool.true_xor] at z
    exact fin _ z
  · rw [rx.str_at, ry.str_at]
    refine .inl ⟨rfl, ?_⟩
    rw [dv_str]
    rw [Bool.true_xor] at z
    exact fin _ z
  · rw [rx.bl_at, ry.bl_at]
    refine .inl ⟨rfl, ?_⟩
    rw [dv_bl]
    rw [Bool.true_xor] at z
    exact fin _ z
  · rw [rx.non_at, ry.non_at]
    exact .inl ⟨rfl, fin _ z⟩
  · rw [Bool.true_xor] at z
    exact .inr ⟨a, b, dp_top h rx ha, dp_top h ry hb, sa, sb, fin _ z⟩
/-- is None, is not None -/
def isNon : D → Option Bool
  | .non => some true
  | .con _ => none
  | _ => some false
def gIs (neg : Bool) : X2 := fun x y S q => match y, isNon x with
  | .non, some b => q (.bl (neg.xor b)) S
  | _, _ => False
theorem isNon_ok {K : PySem.W.Frag} {w : Wl} {v : V} {d : D} {b : Bool} (r : Rep K w v d) (e : isNon d = some b) : decide (v = .non) = b := by
  cases r <;> first
    | (cases e; done)
    | (cases e; rfl)
    | (cases e; exact decide_eq_false fun z => by cases z)
theorem gIs_inv {neg : Bool} {x y : D} {S : Sto} {q : DK} (h : gIs neg x y S q) : y = .non ∧ ∃ b, isNon x = some b ∧ q (.bl (neg.xor b)) S := by
  unfold gIs at h
  split at h
  · rename_i e
    exact ⟨rfl, _, e, h⟩
  · exact h.elim
theorem s2_is : S2 C (fun x y H Q => y = .non ∧ Q (.bl (decide (x = .non))) H) (gIs false) := by
  intro H0 w S H x y dx dy Q q h rx ry x1 k
  obtain ⟨rfl, b, e, z⟩ := gIs_inv x1
  refine ⟨ry.non_at, ?_⟩
  rw [isNon_ok rx e]
  rw [Bool.false_xor] at z
  exact k _ _ _ _ _ .rfl h (.bl _) z
theorem s2_isnot : S2 C (fun x y H Q => y = .non ∧ Q (.bl (!decide (x = .non))) H) (gIs true) := by
  intro H0 w S H x y dx dy Q q h rx ry x1 k
  obtain ⟨rfl, b, e, z⟩ := gIs_inv x1
  refine ⟨ry.non_at, ?_⟩
  rw [isNon_ok rx e]
  rw [Bool.true_xor] at z
  exact k _ _ _ _ _ .rfl h (.bl _) z
/-! ### x in a list or a tuple -/
def flatD : D → Option V
  | .non => some .non
  | .bl b => some (.bl b)
  | .int i => some (.int i)
  | .str x => some (.str x)
  | _ => none
theorem flatD_ok {K : PySem.W.Frag} {w : Wl} {v u : V} {d : D} (r : Rep K w v d) (e : flatD d = some u) : v = u ∧ flatV v = true := by
  cases r <;> first
    | (cases e; exact ⟨rfl, rfl⟩)
    | cases e
def flatDs : List D → Option (List V)
  | [] => some []
  | d :: ds => match flatD d, flatDs ds with
    | some v, some vs => some (v :: vs)
    | _, _ => none
theorem flatDs_ok {K : PySem.W.Frag} {w : Wl} : ∀ {ds : List D} {vs us : List V}, Reps K w vs ds → flatDs ds = some us → vs = us ∧ vs.all flatV = true
  | [], _, us, .nil, e => by cases e; exact ⟨rfl, rfl⟩
  | d :: ds, _, us, .cons r t, e => by
    unfold flatDs at e
    split at e
    · rename_i v vs h1 h2
      cases e
      obtain ⟨rfl, f1⟩ := flatD_ok r h1
      obtain ⟨rfl, f2⟩ := flatDs_ok t h2
      exact ⟨rfl, by rw [List.all_cons, f1, f2]; rfl⟩
    · cases e
/-- by plain things, or by data -/
def gIn (neg : Bool) : X2 := fun x y S q => match seqD S y with
  | some ds => match flatD x, flatDs ds with
    | some v, some vs => q (.bl (neg.xor (inV v vs))) S
    | _, _ => match y, pd x, pds ds with
      | .tup _, some a, some bs => SeqAt.shaped a = true ∧ SeqAt.shaped (.tuple bs) = true ∧ q (.bl (neg.xor (bs.any fun z => PyData.eqv z a))) S
      | _, _, _ => False
  | none => False
theorem gIn_inv {neg : Bool} {x y : D} {S : Sto} {q : DK} (h : gIn neg x y S q) : ∃ ds, seqD S y = some ds ∧ ((∃ v vs, flatD x = some v ∧ flatDs ds = some vs ∧ q (.bl (neg.xor (inV v vs))) S) ∨
    ∃ a bs, y = .tup ds ∧ pd x = some a ∧ pds ds = some bs ∧ SeqAt.shaped a = true ∧ SeqAt.shaped (.tuple bs) = true ∧ q (.bl (neg.xor (bs.any fun z => PyData.eqv z a))) S) := by
  unfold gIn at h
  split at h
  · rename_i ds e
    refine ⟨ds, e, ?_⟩
    split at h
    · exact .inl ⟨_, _, by assumption, by assumption, h⟩
    · split at h
      · cases e
        exact .inr ⟨_, _, rfl, by assumption, by assumption, h⟩
      · exact h.elim
  · exact h.elim
theorem s2_in : S2 C (fun x y H Q => rIn C.K false x y H Q ∨ IT.rInT C.K false x y H Q) (gIn false) := by
  intro H0 w S H x y dx dy Q q h rx ry x1 k
  obtain ⟨ds, e, ⟨v, vs, e1, e2, z⟩ | ⟨a, bs, rfl, e1, e2, s1, s2, z⟩⟩ := gIn_inv x1
  · obtain ⟨p, xs, rfl, ps, hq⟩ := seq_of h ry e
    obtain ⟨rfl, f1⟩ := flatD_ok rx e1
    obtain ⟨rfl, f2⟩ := flatDs_ok ps e2
    refine .inl ⟨p, xs, rfl, hq, f1, f2, ?_⟩
    rw [if_neg Bool.false_ne_true]
    rw [Bool.false_xor] at z
    exact k _ _ _ _ _ .rfl h (.bl _) z
  · refine .inr ⟨a, bs, ⟨⟨dp_of h.imm _ _ _ rx e1, s1⟩, dp_of h.imm _ _ _ ry ?_, s2⟩, k _ _ _ _ _ .rfl h (.bl _) z⟩
    show (pds ds).map PyData.tuple = _
    rw [e2]
    rfl
theorem s2_notin : S2 C (fun x y H Q => rIn C.K true x y H Q ∨ IT.rInT C.K true x y H Q) (gIn true) := by
  intro H0 w S H x y dx dy Q q h rx ry x1 k
  obtain ⟨ds, e, ⟨v, vs, e1, e2, z⟩ | ⟨a, bs, rfl, e1, e2, s1, s2, z⟩⟩ := gIn_inv x1
  · obtain ⟨p, xs, rfl, ps, hq⟩ := seq_of h ry e
    obtain ⟨rfl, f1⟩ := flatD_ok rx e1
    obtain ⟨rfl, f2⟩ := flatDs_ok ps e2
    refine .inl ⟨p, xs, rfl, hq, f1, f2, ?_⟩
    rw [if_pos rfl]
    rw [Bool.true_xor] at z
    exact k _ _ _ _ _ .rfl h (.bl _) z
  · refine .inr ⟨a, bs, ⟨⟨dp_of h.imm _ _ _ rx e1, s1⟩, dp_of h.imm _ _ _ ry ?_, s2⟩, k _ _ _ _ _ .rfl h (.bl _) z⟩
    show (pds ds).map PyData.tuple = _
    rw [e2]
    rfl
end
end DT

set_option Elab.async false
set_option linter.all false
set_option maxRecDepth 100000
set_option maxHeartbeats 1000000
namespace DT
open PySem PySem.Spec PyProof.Rows L2 Lw WD GxR
theorem big_line {n : Nat} (h : n ≤ 1000000) : n ≤ sizeLine := by rw [sizeLine_eq]; omega
theorem big_lt {n : Nat} (h : n < 1000000) : n < sizeLine := by rw [sizeLine_eq]; omega
theorem paired_atI {R : V → D → Prop} {xs : List V} {ds : List D} (p : Paired R xs ds) {i : Int} {d : D} (e : atI ds i = some d) : ∃ v, atI xs i = some v ∧ R v d := by
  unfold atI at e ⊢
  rw [p.length]
  cases h : ixN ds.length i with
  | none => rw [h] at e; cases e
  | some j =>
    rw [h] at e
    obtain ⟨v, hv, r⟩ := paired_at p (show ds[j]? = some d from e)
    exact ⟨v, hv, r⟩
section
variable {C : Ctx}
/-! ### x[i] -/
def gIx : X2 := fun x y S q => match y with
  | .int i => match x with
    | .str z => oEl (atI z.cps.toList i) fun c => z.length ≤ 1000000 ∧ q (.str ⟨#[c]⟩) S
    | x => oEl (seqD S x) fun ds => oEl (atI ds i) fun d => q d S
  | _ => False
theorem gIx_inv {x y : D} {S : Sto} {q : DK} (h : gIx x y S q) : ∃ i, y = .int i ∧ ((∃ z c, x = .str z ∧ atI z.cps.toList i = some c ∧ z.length ≤ 1000000 ∧ q (.str ⟨#[c]⟩) S) ∨ ∃ ds d, seqD S x = some ds ∧ atI ds i = some d ∧ q d S) := by
  unfold gIx at h
  split at h
  · rename_i i
    refine ⟨i, rfl, ?_⟩
    split at h
    · obtain ⟨c, e, h⟩ := oEl_inv h
      exact .inl ⟨_, c, rfl, e, h⟩
    · obtain ⟨ds, e, h⟩ := oEl_inv h
      obtain ⟨d, e2, h⟩ := oEl_inv h
      exact .inr ⟨ds, d, e, e2, h⟩
  · exact h.elim
theorem s2_ix : S2 C (rIx C.K) gIx := by
  intro H0 w S H x y dx dy Q q h rx ry x1 k
  obtain ⟨i, rfl, ⟨z, c, rfl, e, hz, x1⟩ | ⟨ds, d, e, ed, x1⟩⟩ := gIx_inv x1
  · exact .inr (.inr ⟨z, i, c, rx.str_at, ry.int_at, big_line hz, e, k _ _ _ _ _ .rfl h (.str _) x1⟩)
  · obtain ⟨a, xs, rfl, ps, hq⟩ := seq_of h rx e
    obtain ⟨v, hv, r⟩ := paired_atI ps ed
    have fin := k _ _ _ _ _ .rfl h r x1
    rcases hq with hq | hq
    · exact .inl ⟨a, xs, i, v, rfl, ry.int_at, hq, hv, fin⟩
    · exact .inr (.inl ⟨a, xs, i, v, rfl, ry.int_at, hq, hv, fin⟩)
theorem gIx_seq {x : D} {i : Int} {S : Sto} {q : DK} {ds : List D} {d : D} (e : seqD S x = some ds) (hd : atI ds i = some d) (hq : q d S) : gIx x (.int i) S q := by
  have key : oEl (seqD S x) fun ds => oEl (atI ds i) fun d => q d S := oEl_of e (oEl_of hd hq)
  cases x <;> first
    | exact key
    | exact False.elim key
/-! ### a + b, a * b -/
def gAdd : X2 := fun x y S q => match x, y with
  | .int i, .int j => q (.int (i + j)) S
  | .str i, .str j => i.length + j.length ≤ 1000000 ∧ q (.str (i ++ j)) S
  | .tup a, .tup b => a.length + b.length ≤ 1000000 ∧ q (.tup (a ++ b)) S
  | .ref n, .ref m => match look S n, look S m with
    | some a, some b => a.length + b.length ≤ 1000000 ∧ q (.ref S.length) (S ++ [.lst (a ++ b)])
    | _, _ => False
  | _, _ => False
theorem s2_add : S2 C (fun x y H Q => (∃ i j, x = .int i ∧ y = .int j ∧ Q (.int (i + j)) H) ∨ ((∃ i j, x = .str i ∧ y = .str j ∧ i.length + j.length ≤ sizeLine ∧ Q (.str (i ++ j)) H) ∨ (rCatA C.K x y H Q ∨ rCat x y H Q))) gAdd := by
  intro H0 w S H x y dx dy Q q h rx ry x1 k
  unfold gAdd at x1
  split at x1
  · exact .inl ⟨_, _, rx.int_at, ry.int_at, k _ _ _ _ _ .rfl h (.int _) x1⟩
  · exact .inr (.inl ⟨_, _, rx.str_at, ry.str_at, big_line x1.1, k _ _ _ _ _ .rfl h (.str _) x1.2⟩)
  · rename_i da db
    obtain ⟨a, xs, rfl, t1, p1⟩ := rx.tup_at
    obtain ⟨b, ys, rfl, t2, p2⟩ := ry.tup_at
    refine .inr (.inr (.inl ⟨a, b, xs, ys, rfl, rfl, t1.sq h.imm, t2.sq h.imm, ?_, fun e => ?_, fun _ e => ?_, fun _ _ p hp => ?_⟩))
    · rw [p1.length, p2.length]
      exact big_line x1.1
    · subst e
      cases p1
      exact k _ _ _ _ _ .rfl h ry x1.2
    · subst e
      cases p2
      refine k _ _ _ _ _ .rfl h rx ?_
      rw [List.append_nil] at x1
      exact x1.2
    · exact k _ _ _ _ _ ext_lay (h.lay hp (same_upd hp) upd_same fun _ z => by cases z) (.tup_of (.inl (List.mem_cons_self ..)) (Reps.mono ext_lay (paired_app p1 p2))) x1.2
  · split at x1
    · rename_i n m _ _ da db e1 e2
      obtain ⟨a, xs, rfl, _, h1, p1⟩ := h.lst rx e1
      obtain ⟨b, ys, rfl, _, h2, p2⟩ := h.lst ry e2
      refine .inr (.inr (.inr ⟨a, b, xs, ys, rfl, rfl, h1, h2, ?_, fun p hp => ?_⟩))
      · rw [p1.length, p2.length]
        exact big_line x1.1
      · exact k _ _ _ _ _ ext_add (h.add hp (same_upd hp) upd_same (o := .lst (da ++ db)) (paired_app p1 p2)) (.ref (by rw [← h.len]; exact List.getElem?_concat_length ..)) x1.2
    · exact x1.elim
  · exact x1.elim
/-- products of which one part is small, or both not too great -/
def CMulA (i j : Int) : Prop := CMul i j ∨ CMulX i j
def gMul : X2 := fun x y S q => match x, y with
  | .int i, .int j => CMulA i j ∧ q (.int (i * j)) S
  | .ref n, .int k => match look S n with
    | some a => (0 ≤ k ∧ k ≤ 1000000 ∧ a.length * k.toNat ≤ 1000000) ∧ q (.ref S.length) (S ++ [.lst (List.replicate k.toNat a).flatten])
    | _ => False
  | .tup a, .int k => (a ≠ [] ∧ 0 ≤ k ∧ k ≤ 1000 ∧ a.length ≤ 1000) ∧ q (.tup (List.replicate k.toNat a).flatten) S
  | _, _ => False
theorem paired_flat {R : V → D → Prop} {xs : List V} {ds : List D} (p : Paired R xs ds) : ∀ n : Nat, Paired R (List.replicate n xs).flatten (List.replicate n ds).flatten
  | 0 => .nil
  | n + 1 => by
    rw [List.replicate_succ, List.replicate_succ, List.flatten_cons, List.flatten_cons]
    exact paired_app p (paired_flat p n)
/-! ### slices -/
def cutL {α : Type} (xs : List α) (lo hi : Option Int) : List α := (xs.drop (HT.sIx xs.length 0 lo)).take (HT.sIx xs.length xs.length hi - HT.sIx xs.length 0 lo)
theorem cut_paired {R : V → D → Prop} {xs : List V} {ds : List D} (p : Paired R xs ds) (lo hi : Option Int) : Paired R (cutV xs lo hi) (cutL ds lo hi) := by
  unfold cutV cutL
  rw [p.length]
  exact paired_take _ (paired_drop _ p)
theorem cut_whole {ds : List D} {lo hi : Option Int} (h : HT.sIx ds.length 0 lo = 0 ∧ HT.sIx ds.length ds.length hi = ds.length) : cutL ds lo hi = ds := by
  unfold cutL
  rw [h.1, h.2, List.drop_zero, Nat.sub_zero, List.take_length]
def gSl : D → Option Int → Option Int → Sto → DK → Prop := fun x lo hi S q => match x with
  | .tup ds => q (.tup (cutL ds lo hi)) S
  | .str z => z.length ≤ 1000000 ∧ q (.str (cutS z lo hi)) S
  | .ro ds => q (.ref S.length) (S ++ [.lst (cutL ds lo hi)])
  | .ref n => match look S n with
    | some ds => q (.ref S.length) (S ++ [.lst (cutL ds lo hi)])
    | none => False
  | _ => False

theorem s2_mulA : S2 C (fun x y H Q => (rI CMul (fun i j => .int (i * j)) x y H Q ∨ rI CMulX (fun i j => .int (i * j)) x y H Q) ∨ (rRep x y H Q ∨ TR.rRepA C.K x y H Q)) gMul := by
  intro H0 w S H x y dx dy Q q h rx ry x1 k
  unfold gMul at x1
  split at x1
  · rcases x1 with ⟨c | c, x1⟩
    · exact .inl (.inl ⟨_, _, rx.int_at, ry.int_at, c, k _ _ _ _ _ .rfl h (.int _) x1⟩)
    · exact .inl (.inr ⟨_, _, rx.int_at, ry.int_at, c, k _ _ _ _ _ .rfl h (.int _) x1⟩)
  · split at x1
    · rename_i n kk _ da e1
      obtain ⟨a, xs, rfl, _, h1, p1⟩ := h.lst rx e1
      obtain ⟨⟨k0, k1, k2⟩, x1⟩ := x1
      refine .inr (.inl ⟨a, kk, xs, rfl, ry.int_at, h1, by omega, by omega, ?_, fun p hp => ?_⟩)
      · rw [p1.length]
        exact big_line k2
      · exact k _ _ _ _ _ ext_add (h.add hp (same_upd hp) upd_same (o := .lst (List.replicate kk.toNat da).flatten) (paired_flat p1 _)) (.ref (by rw [← h.len]; exact List.getElem?_concat_length ..)) x1
    · exact x1.elim
  · rename_i da kk
    obtain ⟨a, xs, rfl, t1, p1⟩ := rx.tup_at
    obtain ⟨⟨n0, k0, k1, k2⟩, x1⟩ := x1
    refine .inr (.inr ⟨a, kk, xs, rfl, ry.int_at, t1.sq h.imm, ?_, k0, k1, ?_, fun e => ?_, fun e p hp => ?_⟩)
    · intro e
      subst e
      cases p1
      exact n0 rfl
    · rw [p1.length]
      exact k2
    · subst e
      refine k _ _ _ _ _ .rfl h rx ?_
      rw [show (List.replicate (1 : Int).toNat da).flatten = da by simp] at x1
      exact x1
    · exact k _ _ _ _ _ ext_lay (h.lay hp (same_upd hp) upd_same fun _ z => by cases z) (.tup_of (.inl (List.mem_cons_self ..)) (Reps.mono ext_lay (paired_flat p1 _))) x1
  · exact x1.elim
theorem ssl_any : SSl C (fun x lo hi H Q => rSlL C.K x lo hi H Q ∨ (rSlA C.K x lo hi H Q ∨ rSlS x lo hi H Q)) gSl := by
  intro H0 w S H x dx lo hi Q q h rx x1 k
  unfold gSl at x1
  split at x1
  · rename_i ds
    obtain ⟨a, xs, rfl, t1, p1⟩ := rx.tup_at
    refine .inr (.inl ⟨a, xs, rfl, t1.sq h.imm, fun e => ?_, fun _ p hp => ?_⟩)
    · rw [p1.length] at e
      rw [cut_whole e] at x1
      exact k _ _ _ _ _ .rfl h rx x1
    · exact k _ _ _ _ _ ext_lay (h.lay hp (same_upd hp) upd_same fun _ z => by cases z) (.tup_of (.inl (List.mem_cons_self ..)) (Reps.mono ext_lay (cut_paired p1 _ _))) x1
  · exact .inr (.inr ⟨_, rx.str_at, big_line x1.1, k _ _ _ _ _ .rfl h (.str _) x1.2⟩)
  · rename_i ds
    obtain ⟨a, xs, rfl, t1, p1⟩ := rx.ro_at
    refine .inl ⟨a, xs, rfl, t1.sq h.imm, fun p hp => ?_⟩
    exact k _ _ _ _ _ ext_add (h.add hp (same_upd hp) upd_same (o := .lst (cutL ds lo hi)) (cut_paired p1 _ _)) (.ref (by rw [← h.len]; exact List.getElem?_concat_length ..)) x1
  · split at x1
    · rename_i n _ ds e1
      obtain ⟨a, xs, rfl, _, h1, p1⟩ := h.lst rx e1
      refine .inl ⟨a, xs, rfl, SqL.of h1, fun p hp => ?_⟩
      exact k _ _ _ _ _ ext_add (h.add hp (same_upd hp) upd_same (o := .lst (cutL ds lo hi)) (cut_paired p1 _ _)) (.ref (by rw [← h.len]; exact List.getElem?_concat_length ..)) x1
    · exact x1.elim
  · exact x1.elim
def xNoPart : XO := fun _ S q => q none S
def xPart (x : XE) : XO := fun ρ S q => x ρ S fun d S1 => match d with
  | .int i => q (some i) S1
  | _ => False
theorem so_none : SO C tNoPart xNoPart := fun _ _ _ _ _ _ _ _ h _ x k => k _ _ _ _ .rfl h x
theorem so_some {t : TE} {x : XE} (hx : SE C t x) : SO C (tPart t) (xPart x) := by
  intro H0 w σ ρ S H Q q h e x1 k
  refine hx H0 w σ ρ S H _ _ h e x1 fun w1 S1 H1 v1 d1 s1 h1 r1 x2 => ?_
  cases d1 <;> first
    | exact False.elim x2
    | exact ⟨_, r1.int_at, k _ _ _ _ s1 h1 x2⟩
def xSl (g : D → Option Int → Option Int → Sto → DK → Prop) (x : XE) (l h : XO) : XE := fun ρ S q => x ρ S fun d S1 => l ρ S1 fun lo S2 => h ρ S2 fun hi S3 => g d lo hi S3 q
theorem se_sl {r : V → Option Int → Option Int → Hp → VK → Prop} {g : D → Option Int → Option Int → Sto → DK → Prop} {te : TE} {tl th : TO} {x : XE} {l u : XO} (hr : SSl C r g) (hx : SE C te x) (hl : SO C tl l) (hu : SO C th u) : SE C (tSl r te tl th) (xSl g x l u) :=
  fun H0 w σ ρ S H Q q h e x1 k => hx H0 w σ ρ S H _ _ h e x1 fun w1 S1 H1 v1 d1 s1 h1 r1 x2 => hl H0 w1 σ ρ S1 H1 _ _ h1 (e.mono s1) x2 fun w2 S2 H2 lo s2 h2 x3 =>
    hu H0 w2 σ ρ S2 H2 _ _ h2 ((e.mono s1).mono s2) x3 fun w3 S3 H3 hi s3 h3 x4 => hr H0 w3 S3 H3 v1 d1 lo hi Q q h3 ((r1.mono s2).mono s3) x4 (k.mono ((s1.trans s2).trans s3))
/-! ### argument lists, displays -/
def xNil : XA := fun _ S q => q [] S
def xCons (a : XE) (r : XA) : XA := fun ρ S q => a ρ S fun d S1 => r ρ S1 fun ds S2 => q (d :: ds) S2
theorem sa_nil : SA C (some 0) tNil xNil := fun _ _ _ _ _ _ _ _ h _ x k => k _ _ _ _ _ .rfl h .nil (fun m e => by cases e; rfl) x
theorem sa_cons {n : Option Nat} {t : TE} {x : XE} {tr : TA} {xr : XA} (hx : SE C t x) (hr : SA C n tr xr) : SA C (n.map (· + 1)) (tCons t tr) (xCons x xr) :=
  fun H0 w σ ρ S H Q q h e x1 k => hx H0 w σ ρ S H _ _ h e x1 fun w1 S1 H1 v1 d1 s1 h1 r1 x2 => hr H0 w1 σ ρ S1 H1 _ _ h1 (e.mono s1) x2 fun w2 S2 H2 vs ds s2 h2 r2 hn x3 =>
    k _ _ _ _ _ (s1.trans s2) h2 (.cons (r1.mono s2) r2) (fun m em => by
      cases n with
      | none => cases em
      | some m' => cases em; rw [List.length_cons, hn m' rfl]) x3
def xStar (a : XE) (r : XA) : XA := fun ρ S q => a ρ S fun d S1 => match seqD S1 d with
  | some es => r ρ S1 fun ds S2 => q (es ++ ds) S2
  | none => False
theorem sa_star {n : Option Nat} {t : TE} {x : XE} {tr : TA} {xr : XA} (hx : SE C t x) (hr : SA C n tr xr) : SA C none (StX.tStar C.K t tr) (xStar x xr) := by
  intro H0 w σ ρ S H Q q h e x1 k
  refine hx H0 w σ ρ S H _ _ h e x1 fun w1 S1 H1 v1 d1 s1 h1 r1 x2 => ?_
  split at x2
  · rename_i es he
    obtain ⟨a, xs, rfl, ps, hq⟩ := seq_of h1 r1 he
    refine ⟨a, xs, rfl, hq.symm, hr H0 w1 σ ρ S1 H1 _ _ h1 (e.mono s1) x2 fun w2 S2 H2 vs ds s2 h2 r2 hn x3 => ?_⟩
    exact k _ _ _ _ _ (s1.trans s2) h2 (paired_app (Reps.mono s2 ps) r2) (fun m em => by cases em) x3
  · exact x2.elim
/-- a display of a known number of parts -/
def xTup (a : XA) : XE := fun ρ S q => a ρ S fun ds S1 => q (.tup ds) S1
theorem se_tup {n : Nat} {t : TA} {a : XA} (ha : SA C (some n) t a) (hn : n ≤ 1000000) : SE C (tTup t) (xTup a) :=
  fun H0 w σ ρ S H Q q h e x1 k => ha H0 w σ ρ S H _ _ h e x1 fun w1 S1 H1 vs ds s1 h1 r1 l x2 => ⟨by rw [r1.length, l n rfl]; exact big_line hn, fun p hp =>
    k _ _ _ _ _ (s1.trans ext_lay) (h1.lay hp (same_upd hp) upd_same fun _ z => by cases z) (.tup_of (.inl (List.mem_cons_self ..)) (Reps.mono ext_lay r1)) x2⟩
def xTupS (a : XA) : XE := fun ρ S q => a ρ S fun ds S1 => ds.length ≤ 1000000 ∧ q (.tup ds) S1
theorem se_tupS {n : Option Nat} {t : TA} {a : XA} (ha : SA C n t a) : SE C (tTup t) (xTupS a) :=
  fun H0 w σ ρ S H Q q h e x1 k => ha H0 w σ ρ S H _ _ h e x1 fun w1 S1 H1 vs ds s1 h1 r1 l x2 => ⟨by rw [r1.length]; exact big_line x2.1, fun p hp =>
    k _ _ _ _ _ (s1.trans ext_lay) (h1.lay hp (same_upd hp) upd_same fun _ z => by cases z) (.tup_of (.inl (List.mem_cons_self ..)) (Reps.mono ext_lay r1)) x2.2⟩
def xLst (a : XA) : XE := fun ρ S q => a ρ S fun ds S1 => q (.ref S1.length) (S1 ++ [.lst ds])
theorem se_lst {n : Nat} {t : TA} {a : XA} (ha : SA C (some n) t a) (hn : n ≤ 1000000) : SE C (tLst t) (xLst a) :=
  fun H0 w σ ρ S H Q q h e x1 k => ha H0 w σ ρ S H _ _ h e x1 fun w1 S1 H1 vs ds s1 h1 r1 l x2 => ⟨by rw [r1.length, l n rfl]; exact big_line hn, fun p hp =>
    k _ _ _ _ _ (s1.trans ext_add) (h1.add hp (same_upd hp) upd_same (o := .lst ds) r1) (.ref (by rw [← h1.len]; exact List.getElem?_concat_length ..)) x2⟩
def xLstS (a : XA) : XE := fun ρ S q => a ρ S fun ds S1 => ds.length ≤ 1000000 ∧ q (.ref S1.length) (S1 ++ [.lst ds])
theorem se_lstS {n : Option Nat} {t : TA} {a : XA} (ha : SA C n t a) : SE C (tLst t) (xLstS a) :=
  fun H0 w σ ρ S H Q q h e x1 k => ha H0 w σ ρ S H _ _ h e x1 fun w1 S1 H1 vs ds s1 h1 r1 l x2 => ⟨by rw [r1.length]; exact big_line x2.1, fun p hp =>
    k _ _ _ _ _ (s1.trans ext_add) (h1.add hp (same_upd hp) upd_same (o := .lst ds) r1) (.ref (by rw [← h1.len]; exact List.getElem?_concat_length ..)) x2.2⟩
/-- a list that is laid and then only read: nothing is kept of it -/
def xRo (a : XA) : XE := fun ρ S q => a ρ S fun ds S1 => q (.ro ds) S1
theorem se_ro {n : Nat} {t : TA} {a : XA} (ha : SA C (some n) t a) (hn : n ≤ 1000000) : SE C (tLst t) (xRo a) :=
  fun H0 w σ ρ S H Q q h e x1 k => ha H0 w σ ρ S H _ _ h e x1 fun w1 S1 H1 vs ds s1 h1 r1 l x2 => ⟨by rw [r1.length, l n rfl]; exact big_line hn, fun p hp =>
    k _ _ _ _ _ (s1.trans ext_lay) (h1.lay hp (same_upd hp) upd_same fun _ z => by cases z) ((Rep.ro (xs := vs) (.inl ⟨_, List.mem_cons_self .., .inl rfl⟩) r1.length fun _ _ _ e1 e2 => (pr_get2 r1 e1 e2).mono ext_lay)) x2⟩
/-! ### tests, boolean values -/
def xTest (x : XE) : XT := fun ρ S q => x ρ S fun d S1 => match d with
  | .bl b => q b S1
  | _ => False
theorem st_test {t : TE} {x : XE} (hx : SE C t x) : ST C (tTest t) (xTest x) := by
  intro H0 w σ ρ S H Q q h e x1 k
  refine hx H0 w σ ρ S H _ _ h e x1 fun w1 S1 H1 v1 d1 s1 h1 r1 x2 => ?_
  cases d1 <;> first
    | exact False.elim x2
    | exact ⟨_, r1.bl_at, k _ _ _ _ s1 h1 x2⟩
theorem st_b {t : TE} {x : XE} (hx : SE C t x) : ST C (tB t) (xTest x) := st_test hx
def truD (S : Sto) : D → Option Bool
  | .non => some false
  | .bl b => some b
  | .int i => some (i != 0)
  | .tup ds => some (!ds.isEmpty)
  | .ro ds => some (!ds.isEmpty)
  | .str z => if z.length ≤ 1000000 then some ((z.length : Int) != 0) else none
  | .ref n => match look S n with
    | some ds => some (!ds.isEmpty)
    | none => none
  | .con _ => none
theorem paired_empty {R : V → D → Prop} {xs : List V} {ds : List D} (p : Paired R xs ds) : xs.isEmpty = ds.isEmpty := by cases p <;> rfl
theorem tru_of {H0 : Hp} {w : Wl} {S : Sto} {H : Hp} {v : V} {d : D} {b : Bool} (h : Holds C H0 w S H) (r : Rep C.K w v d) (e : truD S d = some b) : TruV C.K v H b := by
  cases d with
  | non => cases e; rw [r.non_at]; exact rfl
  | bl b => cases e; rw [r.bl_at]; exact rfl
  | int i => cases e; rw [r.int_at]; exact rfl
  | str z =>
    rw [r.str_at]
    unfold truD at e
    dsimp only at e
    split at e
    · cases e
      exact ⟨big_line (by assumption), rfl⟩
    · cases e
  | con u => cases e
  | tup ds =>
    cases e
    obtain ⟨a, xs, rfl, t, ps⟩ := r.tup_at
    exact .inr (.inl ⟨xs, t.sq h.imm, by rw [paired_empty ps]⟩)
  | ro ds =>
    cases e
    obtain ⟨a, xs, rfl, t, ps⟩ := r.ro_at
    exact .inl ⟨xs, t.sq h.imm, by rw [paired_empty ps]⟩
  | ref n =>
    unfold truD at e
    dsimp only at e
    split at e
    · rename_i ds hn
      cases e
      obtain ⟨a, xs, rfl, _, hx, ps⟩ := h.lst r hn
      exact .inl ⟨xs, SqL.of hx, by rw [paired_empty ps]⟩
    · cases e
def xTru (x : XE) : XT := fun ρ S q => x ρ S fun d S1 => match truD S1 d with
  | some b => q b S1
  | none => False
theorem st_tru {t : TE} {x : XE} (hx : SE C t x) : ST C (fun σ H Q => t σ H fun x H' => ∃ k, TruV C.K x H' k ∧ Q k H') (xTru x) := by
  intro H0 w σ ρ S H Q q h e x1 k
  refine hx H0 w σ ρ S H _ _ h e x1 fun w1 S1 H1 v1 d1 s1 h1 r1 x2 => ?_
  split at x2
  · rename_i b hb
    exact ⟨b, tru_of h1 r1 hb, k _ _ _ _ s1 h1 x2⟩
  · exact x2.elim
def xAnd (a b : XT) : XT := fun ρ S q => a ρ S fun c S1 => bIf c (b ρ S1 q) (q false S1)
def xOr (a b : XT) : XT := fun ρ S q => a ρ S fun c S1 => bIf c (q true S1) (b ρ S1 q)
def xNot (a : XT) : XT := fun ρ S q => a ρ S fun c S1 => q (!c) S1
theorem st_and {ta tb : TT} {a b : XT} (ha : ST C ta a) (hb : ST C tb b) : ST C (tAnd ta tb) (xAnd a b) := by
  intro H0 w σ ρ S H Q q h e x1 k
  refine ha H0 w σ ρ S H _ _ h e x1 fun w1 S1 H1 c s1 h1 x2 => ?_
  cases c with
  | true => exact hb H0 w1 σ ρ S1 H1 Q q h1 (e.mono s1) x2 fun w2 S2 H2 b s2 h2 x3 => k _ _ _ _ (s1.trans s2) h2 x3
  | false => exact k _ _ _ _ s1 h1 x2
theorem st_or {ta tb : TT} {a b : XT} (ha : ST C ta a) (hb : ST C tb b) : ST C (tOr ta tb) (xOr a b) := by
  intro H0 w σ ρ S H Q q h e x1 k
  refine ha H0 w σ ρ S H _ _ h e x1 fun w1 S1 H1 c s1 h1 x2 => ?_
  cases c with
  | false => exact hb H0 w1 σ ρ S1 H1 Q q h1 (e.mono s1) x2 fun w2 S2 H2 b s2 h2 x3 => k _ _ _ _ (s1.trans s2) h2 x3
  | true => exact k _ _ _ _ s1 h1 x2
theorem st_not {ta : TT} {a : XT} (ha : ST C ta a) : ST C (tNot ta) (xNot a) :=
  fun H0 w σ ρ S H Q q h e x1 k => ha H0 w σ ρ S H _ _ h e x1 fun w1 S1 H1 c s1 h1 x2 => k _ _ _ _ s1 h1 x2
def xAndV (a b : XE) : XE := fun ρ S q => a ρ S fun d S1 => match d with
  | .bl true => b ρ S1 q
  | .bl false => q (.bl false) S1
  | _ => False
def xOrV (a b : XE) : XE := fun ρ S q => a ρ S fun d S1 => match d with
  | .bl true => q (.bl true) S1
  | .bl false => b ρ S1 q
  | _ => False
def xNotV (a : XE) : XE := fun ρ S q => a ρ S fun d S1 => match d with
  | .bl c => q (.bl (!c)) S1
  | _ => False
theorem se_and {ta tb : TE} {a b : XE} (ha : SE C ta a) (hb : SE C tb b) : SE C (tAndV ta tb) (xAndV a b) := by
  intro H0 w σ ρ S H Q q h e x1 k
  refine ha H0 w σ ρ S H _ _ h e x1 fun w1 S1 H1 v1 d1 s1 h1 r1 x2 => ?_
  split at x2
  · exact ⟨true, r1.bl_at, hb H0 w1 σ ρ S1 H1 Q q h1 (e.mono s1) x2 (k.mono s1)⟩
  · exact ⟨false, r1.bl_at, k _ _ _ _ _ s1 h1 (.bl _) x2⟩
  · exact x2.elim
theorem se_or {ta tb : TE} {a b : XE} (ha : SE C ta a) (hb : SE C tb b) : SE C (tOrV ta tb) (xOrV a b) := by
  intro H0 w σ ρ S H Q q h e x1 k
  refine ha H0 w σ ρ S H _ _ h e x1 fun w1 S1 H1 v1 d1 s1 h1 r1 x2 => ?_
  split at x2
  · exact ⟨true, r1.bl_at, k _ _ _ _ _ s1 h1 (.bl _) x2⟩
  · exact ⟨false, r1.bl_at, hb H0 w1 σ ρ S1 H1 Q q h1 (e.mono s1) x2 (k.mono s1)⟩
  · exact x2.elim
theorem se_not {ta : TE} {a : XE} (ha : SE C ta a) : SE C (tNotV ta) (xNotV a) := by
  intro H0 w σ ρ S H Q q h e x1 k
  refine ha H0 w σ ρ S H _ _ h e x1 fun w1 S1 H1 v1 d1 s1 h1 r1 x2 => ?_
  split at x2
  · exact ⟨_, r1.bl_at, k _ _ _ _ _ s1 h1 (.bl _) x2⟩
  · exact x2.elim
def xIf (c : XT) (a b : XE) : XE := fun ρ S q => c ρ S fun k S1 => bIf k (a ρ S1 q) (b ρ S1 q)
theorem se_if {tc : TT} {ta tb : TE} {c : XT} {a b : XE} (hc : ST C tc c) (ha : SE C ta a) (hb : SE C tb b) : SE C (tIf tc ta tb) (xIf c a b) := by
  intro H0 w σ ρ S H Q q h e x1 k
  refine hc H0 w σ ρ S H _ _ h e x1 fun w1 S1 H1 c s1 h1 x2 => ?_
  cases c with
  | true => exact ha H0 w1 σ ρ S1 H1 Q q h1 (e.mono s1) x2 (k.mono s1)
  | false => exact hb H0 w1 σ ρ S1 H1 Q q h1 (e.mono s1) x2 (k.mono s1)
/-- a < b < c -/
def xChain (g g' : X2) (a b c : XE) : XE := fun ρ S q => a ρ S fun x S1 => b ρ S1 fun y S2 => g x y S2 fun z S3 => match z with
  | .bl b => bIf b (c ρ S3 fun u S4 => g' y u S4 fun z' S5 => match z' with
    | .bl k => q (.bl k) S5
    | _ => False) (q (.bl false) S3)
  | _ => False
theorem se_chain {r r' : R2} {g g' : X2} {ta tb tc : TE} {a b c : XE} (hr : S2 C r g) (hr' : S2 C r' g') (ha : SE C ta a) (hb : SE C tb b) (hc : SE C tc c) : SE C (tChain r r' ta tb tc) (xChain g g' a b c) := by
  intro H0 w σ ρ S H Q q h e x k
  refine ha H0 w σ ρ S H _ _ h e x fun w1 S1 H1 v1 d1 s1 h1 r1 x1 => hb H0 w1 σ ρ S1 H1 _ _ h1 (e.mono s1) x1 fun w2 S2 H2 v2 d2 s2 h2 r2 x2 => ?_
  have e2 := (e.mono s1).mono s2
  refine hr H0 w2 S2 H2 v1 v2 d1 d2 _ _ h2 (r1.mono s2) r2 x2 fun w3 S3 H3 v3 d3 s3 h3 r3 x3 => ?_
  split at x3
  rename_i b
  cases b with
  | true =>
    refine ⟨true, r3.bl_at, ?_⟩
    rw [if_pos rfl]
    refine hc H0 w3 σ ρ S3 H3 _ _ h3 (e2.mono s3) x3 fun w4 S4 H4 v4 d4 s4 h4 r4 x4 => ?_
    refine hr' H0 w4 S4 H4 v2 v4 d2 d4 _ _ h4 ((r2.mono s3).mono s4) r4 x4 fun w5 S5 H5 v5 d5 s5 h5 r5 x5 => ?_
    split at x5
    · rename_i kk
      have fin : Q (.bl kk) H5 := k _ _ _ _ _ ((((s1.trans s2).trans s3).trans s4).trans s5) h5 (.bl _) x5
      first
        | exact ⟨kk, r5.bl_at, fin⟩
        | (rw [r5.bl_at]; exact fin)
        | (rw [r5.bl_at]; exact ⟨_, rfl, fin⟩)
    · exact x5.elim
  | false =>
    refine ⟨false, r3.bl_at, ?_⟩
    rw [if_neg Bool.false_ne_true]
    exact k _ _ _ _ _ ((s1.trans s2).trans s3) h3 (.bl _) x3
  exact x3.elim
end
end DT

set_option Elab.async false
set_option linter.all false
set_option maxRecDepth 100000
set_option maxHeartbeats 1000000
namespace DT
open PySem PySem.Spec PyProof.Rows L2 Lw WD GxR
/-! ### calls of the text's own defs -/
/-- the promise of a def whose reading over data is f, with m parameters -/
def spOf (C : Ctx) (m : Nat) (f : XF) : Sp := fun vs H Q _ => ∃ H0 w S ds q, Holds C H0 w S H ∧ Reps C.K w vs ds ∧ ds.length = m ∧ f ds S q ∧ Kont C H0 w q Q
theorem spOf_len {C : Ctx} {m : Nat} {f : XF} {vs : List V} {H : Hp} {Q : VK} {E : XK} (h : spOf C m f vs H Q E) : vs.length = m := by
  obtain ⟨H0, w, S, ds, q, _, r, l, _⟩ := h
  rw [r.length, l]
section
variable {C : Ctx}
def xCall (f : XF) (a : XA) : XE := fun ρ S q => a ρ S fun ds S1 => f ds S1 q
theorem se_call {m : Nat} {f : XF} {t : TA} {a : XA} {E : XK} (ha : SA C (some m) t a) : SE C (tCall (spOf C m f) [] E t) (xCall f a) :=
  fun H0 w σ ρ S H Q q h e x k => ha H0 w σ ρ S H _ _ h e x fun w1 S1 H1 vs ds s1 h1 r1 l x1 => ⟨H0, w1, S1, ds, q, h1, by rw [List.append_nil]; exact r1, l m rfl, x1, k.mono s1⟩
/-- a built-in's -/
theorem se_cb {n : Option Nat} {r : List V → Hp → VK → Prop} {f : XF} {t : TA} {a : XA} (hr : SC C r f) (ha : SA C n t a) : SE C (tCB r t) (xCall f a) :=
  fun H0 w σ ρ S H Q q h e x k => ha H0 w σ ρ S H _ _ h e x fun w1 S1 H1 vs ds s1 h1 r1 l x1 => hr H0 w1 S1 H1 vs ds Q q h1 r1 x1 (k.mono s1)
theorem reps1 {K : PySem.W.Frag} {w : Wl} {vs : List V} {d : D} (r : Reps K w vs [d]) : ∃ v, vs = [v] ∧ Rep K w v d := by
  cases r with
  | cons a b => cases b; exact ⟨_, rfl, a⟩
theorem reps2 {K : PySem.W.Frag} {w : Wl} {vs : List V} {d e : D} (r : Reps K w vs [d, e]) : ∃ v u, vs = [v, u] ∧ Rep K w v d ∧ Rep K w u e := by
  cases r with
  | cons a b =>
    obtain ⟨u, rfl, r2⟩ := reps1 b
    exact ⟨_, _, rfl, a, r2⟩
def fLen : XF := fun ds S q => match ds with
  | [.str z] => z.length ≤ 1000000 ∧ q (.int z.length) S
  | [d] => match seqD S d with
    | some es => q (.int es.length) S
    | none => False
  | _ => False
theorem sc_len : SC C (fun xs H Q => ∃ x n, xs = [x] ∧ LenV C.K x H n ∧ Q (.int n) H) fLen := by
  intro H0 w S H xs dxs Q q h r x k
  unfold fLen at x
  split at x
  · obtain ⟨v, rfl, rv⟩ := reps1 r
    rw [rv.str_at]
    exact ⟨_, _, rfl, ⟨big_line x.1, rfl⟩, k _ _ _ _ _ .rfl h (.int _) x.2⟩
  · split at x
    · rename_i es e
      obtain ⟨v, rfl, rv⟩ := reps1 r
      obtain ⟨a, ys, rfl, ps, hq⟩ := seq_of h rv e
      refine ⟨_, ys.length, rfl, ?_, k _ _ _ _ _ .rfl h (by rw [ps.length]; exact .int _) x⟩
      rcases hq with hq | hq
      · exact .inl ⟨ys, hq, rfl⟩
      · exact .inr ⟨ys, hq, rfl⟩
    · exact x.elim
  · exact x.elim
def fAbs : XF := fun ds S q => match ds with
  | [.int i] => q (.int (if i < 0 then -i else i)) S
  | _ => False
theorem sc_abs : SC C (fun xs H Q => ∃ i, xs = [.int i] ∧ Q (.int (if i < 0 then -i else i)) H) fAbs := by
  intro H0 w S H xs dxs Q q h r x k
  unfold fAbs at x
  split at x
  · obtain ⟨v, rfl, rv⟩ := reps1 r
    rw [rv.int_at]
    exact ⟨_, rfl, k _ _ _ _ _ .rfl h (.int _) x⟩
  · exact x.elim
def fMax : XF := fun ds S q => match ds with
  | [.int i, .int j] => q (.int (if j > i then j else i)) S
  | _ => False
theorem sc_max : SC C (fun xs H Q => ∃ i j, xs = [.int i, .int j] ∧ Q (.int (if j > i then j else i)) H) fMax := by
  intro H0 w S H xs dxs Q q h r x k
  unfold fMax at x
  split at x
  · obtain ⟨v, u, rfl, rv, ru⟩ := reps2 r
    rw [rv.int_at, ru.int_at]
    exact ⟨_, _, rfl, k _ _ _ _ _ .rfl h (.int _) x⟩
  · exact x.elim
def fMin : XF := fun ds S q => match ds with
  | [.int i, .int j] => q (.int (if j < i then j else i)) S
  | _ => False
theorem sc_min : SC C (fun xs H Q => ∃ i j, xs = [.int i, .int j] ∧ Q (.int (if j < i then j else i)) H) fMin := by
  intro H0 w S H xs dxs Q q h r x k
  unfold fMin at x
  split at x
  · obtain ⟨v, u, rfl, rv, ru⟩ := reps2 r
    rw [rv.int_at, ru.int_at]
    exact ⟨_, _, rfl, k _ _ _ _ _ .rfl h (.int _) x⟩
  · exact x.elim
def fInt : XF := fun ds S q => match ds with
  | [.int i] => q (.int i) S
  | [.bl b] => q (.int (if b then 1 else 0)) S
  | _ => False
theorem sc_int : SC C (fun xs H Q => (∃ i, xs = [.int i] ∧ Q (.int i) H) ∨ ∃ k, xs = [.bl k] ∧ Q (.int (if k then 1 else 0)) H) fInt := by
  intro H0 w S H xs dxs Q q h r x k
  unfold fInt at x
  split at x
  · obtain ⟨v, rfl, rv⟩ := reps1 r
    rw [rv.int_at]
    exact .inl ⟨_, rfl, k _ _ _ _ _ .rfl h (.int _) x⟩
  · obtain ⟨v, rfl, rv⟩ := reps1 r
    rw [rv.bl_at]
    exact .inr ⟨_, rfl, k _ _ _ _ _ .rfl h (.int _) x⟩
  · exact x.elim
def fBool : XF := fun ds S q => match ds with
  | [.int i] => q (.bl (i != 0)) S
  | [.bl b] => q (.bl b) S
  | _ => False
theorem sc_bool : SC C (fun xs H Q => (∃ i, xs = [.int i] ∧ Q (.bl (i != 0)) H) ∨ ∃ k, xs = [.bl k] ∧ Q (.bl k) H) fBool := by
  intro H0 w S H xs dxs Q q h r x k
  unfold fBool at x
  split at x
  · obtain ⟨v, rfl, rv⟩ := reps1 r
    rw [rv.int_at]
    exact .inl ⟨_, rfl, k _ _ _ _ _ .rfl h (.bl _) x⟩
  · obtain ⟨v, rfl, rv⟩ := reps1 r
    rw [rv.bl_at]
    exact .inr ⟨_, rfl, k _ _ _ _ _ .rfl h (.bl _) x⟩
  · exact x.elim
def fList : XF := fun ds S q => match ds with
  | [d] => match seqD S d with
    | some es => q (.ref S.length) (S ++ [.lst es])
    | none => False
  | _ => False
theorem sc_list : SC C (fun xs H Q => ∃ p ys, xs = [.ref p] ∧ (SqL C.K H p ys ∨ SqT C.K H p ys) ∧ ∀ l, H l = none → Q (.ref l) (upd H l (.lst ys))) fList := by
  intro H0 w S H xs dxs Q q h r x k
  unfold fList at x
  split at x
  · split at x
    · rename_i es e
      obtain ⟨v, rfl, rv⟩ := reps1 r
      obtain ⟨a, ys, rfl, ps, hq⟩ := seq_of h rv e
      exact ⟨a, ys, rfl, hq, fun p hp => k _ _ _ _ _ ext_add (h.add hp (same_upd hp) upd_same (o := .lst es) ps) (.ref (by rw [← h.len]; exact List.getElem?_concat_length ..)) x⟩
    · exact x.elim
  · exact x.elim
def fTuple : XF := fun ds S q => match ds with
  | [d] => match seqD S d with
    | some es => q (.tup es) S
    | none => False
  | _ => False
theorem sc_tuple : SC C (fun xs H Q => ∃ p ys, xs = [.ref p] ∧ ((SqL C.K H p ys ∧ ∀ l, H l = none → Q (.ref l) (upd H l (.tup ys))) ∨ (SqT C.K H p ys ∧ Q (.ref p) H))) fTuple := by
  intro H0 w S H xs dxs Q q h r x k
  unfold fTuple at x
  split at x
  · rename_i d
    split at x
    · rename_i es e
      obtain ⟨v, rfl, rv⟩ := reps1 r
      cases d with
      | tup ds =>
        cases e
        obtain ⟨a, ys, rfl, t, ps⟩ := rv.tup_at
        exact ⟨a, ys, rfl, .inr ⟨t.sq h.imm, k _ _ _ _ _ .rfl h rv x⟩⟩
      | ro ds =>
        cases e
        obtain ⟨a, ys, rfl, t, ps⟩ := rv.ro_at
        exact ⟨a, ys, rfl, .inl ⟨t.sq h.imm, fun p hp => k _ _ _ _ _ ext_lay (h.lay hp (same_upd hp) upd_same fun _ z => by cases z) (.tup_of (.inl (List.mem_cons_self ..)) (Reps.mono ext_lay ps)) x⟩⟩
      | ref n =>
        obtain ⟨a, ys, rfl, _, hx, ps⟩ := h.lst rv (show look S n = some es from e)
        exact ⟨a, ys, rfl, .inl ⟨SqL.of hx, fun p hp => k _ _ _ _ _ ext_lay (h.lay hp (same_upd hp) upd_same fun _ z => by cases z) (.tup_of (.inl (List.mem_cons_self ..)) (Reps.mono ext_lay ps)) x⟩⟩
      | non => cases e
      | bl b => cases e
      | int i => cases e
      | str z => cases e
      | con u => cases e
    · exact x.elim
  · exact x.elim
/-- the kind of a value -/
def kindD (S : Sto) : D → Option String
  | .non => some "NoneType"
  | .bl _ => some "bool"
  | .int _ => some "int"
  | .str _ => some "str"
  | .tup _ => some "tuple"
  | .ref n => match look S n with
    | some _ => some "list"
    | none => match S[n]? with
      | some (.dct _) => some "dict"
      | _ => none
  | _ => none
theorem kind_ty {H0 : Hp} {w : Wl} {S : Sto} {H : Hp} {v : V} {d : D} {z : String} (h : Holds C H0 w S H) (r : Rep C.K w v d) (e : kindD S d = some z) : TyX C.K H v (.type z) := by
  cases d with
  | non => cases e; rw [r.non_at]; exact .base .non
  | bl b => cases e; rw [r.bl_at]; exact .base (.bl _)
  | int i => cases e; rw [r.int_at]; exact .base (.int _)
  | str x => cases e; rw [r.str_at]; exact .base (.str _)
  | con u => cases e
  | tup ds =>
    cases e
    obtain ⟨a, xs, rfl, t, _⟩ := r.tup_at
    exact t.ty h.imm
  | ro ds => cases e
  | ref n =>
    unfold kindD at e
    dsimp only at e
    obtain ⟨a, rfl, ha⟩ := r.ref_at
    split at e
    · rename_i ds hn
      cases e
      obtain ⟨u, hu, ru⟩ := h.ob n a _ ha (of_look hn)
      cases u <;> first
        | exact False.elim ru
        | exact .base (.lst hu)
    · split at e
      · rename_i ds hn
        cases e
        obtain ⟨u, hu, ru⟩ := h.ob n a _ ha hn
        cases u <;> first
          | exact False.elim ru
          | exact .base (.dK hu)
      · cases e
def fIsi : XF := fun ds S q => match ds with
  | [d, .con (.ty n)] => match kindD S d with
    | some z => match kitB z n with
      | some b => q (.bl b) S
      | none => False
    | none => False
  | _ => False
theorem sc_isi : SC C (rIsi C.K) fIsi := by
  intro H0 w S H xs dxs Q q h r x k
  unfold fIsi at x
  split at x
  · split at x
    · rename_i n _ z e
      split at x
      · rename_i b eb
        obtain ⟨v, u, rfl, rv, ru⟩ := reps2 r
        rw [ru.con_at]
        exact ⟨v, _, _, _, b, rfl, .ty n, kind_ty h rv e, kit_ty eb, k _ _ _ _ _ .rfl h (.bl _) x⟩
      · exact x.elim
    · exact x.elim
  · exact x.elim
def xBits (a : XE) : XE := fun ρ S q => a ρ S fun d S1 => match d with
  | .int i => q (.int (Builtin.Int.intBits i : Nat)) S1
  | _ => False
theorem se_bits {t : TE} {a : XE} (ha : SE C t a) : SE C (tBits t) (xBits a) := by
  intro H0 w σ ρ S H Q q h e x1 k
  refine ha H0 w σ ρ S H _ _ h e x1 fun w1 S1 H1 v1 d1 s1 h1 r1 x2 => ?_
  split at x2
  · exact ⟨_, r1.int_at, k _ _ _ _ _ s1 h1 (.int _) x2⟩
  · exact x2.elim
def gNeg : D → Sto → DK → Prop := fun d S q => match d with
  | .int i => q (.int (-i)) S
  | _ => False
theorem s1_neg : S1 C (rU fun i => .int (-i)) gNeg := by
  intro H0 w S H x dx Q q h r x1 k
  cases dx <;> first
    | exact False.elim x1
    | exact ⟨_, r.int_at, k _ _ _ _ _ .rfl h (.int _) x1⟩
/-! ### methods of lists -/
def xBM (g : D → XF) (o : XE) (a : XA) : XE := fun ρ S q => o ρ S fun d S1 => a ρ S1 fun ds S2 => g d ds S2 q
/-- the object itself is a list that may be written, and is still one when its arguments are known -/
def xBL (g : Nat → List D → XF) (o : XE) (a : XA) : XE := fun ρ S q => o ρ S fun d S1 => match d with
  | .ref n => match look S1 n with
    | some _ => a ρ S1 fun ds S2 => match look S2 n with
      | some es => g n es ds S2 q
      | none => False
    | none => False
  | _ => False
/-- what a method of a list does: its items, the arguments, the list behind it, the answer -/
def SL (r : V → List V → Hp → VK → Prop) (g : Nat → List D → XF) : Prop := ∀ H0 w S H n a xs ds vs es Q q, Holds C H0 w S H → w.ads[n]? = some a → H a = some (.lst xs) → look S n = some ds → Reps C.K w xs ds → Reps C.K w vs es → g n ds es S q → Kont C H0 w q Q → r (.ref a) vs H Q
theorem se_bl' {n : Option Nat} {r : V → List V → Hp → VK → Prop} {g : Nat → List D → XF} {t : TE} {o : XE} {ta : TA} {a : XA} (hr : SL (C := C) r g) (ho : SE C t o) (ha : SA C n ta a) : SE C (tBM C.K "list" r t ta) (xBL g o a) := by
  intro H0 w σ ρ S H Q q h e x1 k
  refine ho H0 w σ ρ S H _ _ h e x1 fun w1 S1 H1 v1 d1 s1 h1 r1 x2 => ?_
  split at x2
  · rename_i n
    split at x2
    · rename_i ds hn
      obtain ⟨p, xs, rfl, hp, hH, ps⟩ := h1.lst r1 hn
      refine ⟨.inl ⟨rfl, xs, SqL.of hH⟩, ha H0 w1 σ ρ S1 H1 _ _ h1 (e.mono s1) x2 fun w2 S2 H2 vs es s2 h2 r2 _ x3 => ?_⟩
      split at x3
      · rename_i fs hn2
        obtain ⟨p2, ys, e2, hp2, hH2, ps2⟩ := h2.lst (r1.mono s2) hn2
        cases e2
        exact hr H0 w2 S2 H2 n p ys fs vs es Q q h2 hp2 hH2 hn2 ps2 r2 x3 (k.mono (s1.trans s2))
      · exact x3.elim
    · exact x2.elim
  · exact x2.elim
def gAppend : Nat → List D → XF := fun n ds es S q => match es with
  | [d] => ds.length < 1000000 ∧ q .non (S.set n (.lst (ds ++ [d])))
  | _ => False
theorem sl_append : SL (C := C) rAppend gAppend := by
  intro H0 w S H n a xs ds vs es Q q h ha hH hS ps pv x k
  unfold gAppend at x
  split at x
  · obtain ⟨v, rfl, rv⟩ := reps1 pv
    exact ⟨a, xs, v, rfl, rfl, hH, by rw [ps.length]; exact big_lt x.1, k _ _ _ _ _ .rfl (h.put ha (of_look hS) (v := .lst (xs ++ [v])) (o' := .lst (ds ++ [_])) (paired_app ps (.cons rv .nil))) .non x.2⟩
  · exact x.elim
def gExtend : Nat → List D → XF := fun n ds es S q => match es with
  | [.ref m] => match look S m with
    | some fs => ds.length + fs.length ≤ 1000000 ∧ q .non (S.set n (.lst (ds ++ fs)))
    | _ => False
  | _ => False
theorem sl_extend : SL (C := C) rExtend gExtend := by
  intro H0 w S H n a xs ds vs es Q q h ha hH hS ps pv x k
  unfold gExtend at x
  split at x
  · rename_i m
    split at x
    · rename_i fs hm
      obtain ⟨v, rfl, rv⟩ := reps1 pv
      obtain ⟨b, ys, rfl, _, hb, p2⟩ := h.lst rv hm
      exact ⟨a, b, xs, ys, rfl, rfl, hH, hb, by rw [ps.length, p2.length]; exact big_line x.1, k _ _ _ _ _ .rfl (h.put ha (of_look hS) (v := .lst (xs ++ ys)) (o' := .lst (ds ++ fs)) (paired_app ps p2)) .non x.2⟩
    · exact x.elim
  · exact x.elim
/-! ### o[i] = v -/
def gSetL (n : Nat) (i : Int) (v : D) (S : Sto) (q : Sto → Prop) : Prop := match look S n with
  | some ds => match ixN ds.length i with
    | some j => q (S.set n (.lst (ds.set j v)))
    | none => False
  | _ => False
def xSub (o i : XE) : XG := fun v ρ S q => o ρ S fun d S1 => i ρ S1 fun k S2 => match d, k with
  | .ref n, .int k => gSetL n k v S2 fun S3 => q ρ S3
  | _, _ => False
theorem sg_sub {to ti : TE} {o i : XE} (ho : SE C to o) (hi : SE C ti i) : SG C (gSub to ti rSetL) (xSub o i) := by
  intro H0 w σ ρ S H v d Q q h e r x k
  refine ho H0 w σ ρ S H _ _ h e x fun w1 S1 H1 v1 d1 s1 h1 r1 x1 => hi H0 w1 σ ρ S1 H1 _ _ h1 (e.mono s1) x1 fun w2 S2 H2 v2 d2 s2 h2 r2 x2 => ?_
  split at x2
  · rename_i n kk
    unfold gSetL at x2
    split at x2
    · rename_i ds hn
      split at x2
      · rename_i j hj
        obtain ⟨p, xs, rfl, hp, hH, ps⟩ := h2.lst (r1.mono s2) hn
        have s12 := s1.trans s2
        refine ⟨p, xs, kk, j, rfl, r2.int_at, hH, by rw [ps.length]; exact hj, ?_⟩
        exact k _ _ _ _ _ s12 (h2.put hp (of_look hn) (v := .lst (xs.set j v)) (o' := .lst (ds.set j d)) (paired_set (r.mono s12) j ps)) (e.mono s12) x2
      · exact x2.elim
    · exact x2.elim
  · exact x2.elim
/-! ### statements -/
def xNext : XS := fun d ρ S => d.nx ρ S
theorem ss_next : SS C tNext xNext := fun _ w σ ρ S H D d h e x k => k.nx _ _ _ _ _ .rfl h e x
def xSeq (a b : XS) : XS := fun d ρ S => a { d with nx := b d } ρ S
theorem ss_seq {ta tb : TS} {a b : XS} (ha : SS C ta a) (hb : SS C tb b) : SS C (tSeq ta tb) (xSeq a b) :=
  fun H0 w σ ρ S H D d h e x k => ha H0 w σ ρ S H _ _ h e x ⟨fun w1 σ1 ρ1 S1 H1 s1 h1 e1 x1 => hb H0 w1 σ1 ρ1 S1 H1 D d h1 e1 x1 (k.mono s1), k.rt, k.bk, k.ct⟩
def xBreak : XS := fun d ρ S => d.bk ρ S
theorem ss_break : SS C tBreak xBreak := fun _ w σ ρ S H D d h e x k => k.bk _ _ _ _ _ .rfl h e x
def xCont : XS := fun d ρ S => d.ct ρ S
theorem ss_cont : SS C tCont xCont := fun _ w σ ρ S H D d h e x k => k.ct _ _ _ _ _ .rfl h e x
def xDrop (a : XE) : XS := fun d ρ S => a ρ S fun _ S1 => d.nx ρ S1
theorem ss_drop {t : TE} {a : XE} (ha : SE C t a) : SS C (tDrop t) (xDrop a) :=
  fun H0 w σ ρ S H D d h e x k => ha H0 w σ ρ S H _ _ h e x fun w1 S1 H1 v1 d1 s1 h1 r1 x1 => k.nx _ _ _ _ _ s1 h1 (e.mono s1) x1
def xRet (a : XE) : XS := fun d ρ S => a ρ S d.rt
theorem ss_ret {t : TE} {a : XE} (ha : SE C t a) : SS C (tRet t) (xRet a) :=
  fun H0 w σ ρ S H D d h e x k => ha H0 w σ ρ S H _ _ h e x k.rt
def xRetN : XS := fun d ρ S => d.rt .non S
theorem ss_retN : SS C tRetN xRetN := fun _ w σ ρ S H D d h e x k => k.rt _ _ _ _ _ .rfl h .non x
def xIfS (c : XT) (a b : XS) : XS := fun d ρ S => c ρ S fun k S1 => bIf k (a d ρ S1) (b d ρ S1)
theorem ss_if {tc : TT} {ta tb : TS} {c : XT} {a b : XS} (hc : ST C tc c) (ha : SS C ta a) (hb : SS C tb b) : SS C (tIfS tc ta tb) (xIfS c a b) := by
  intro H0 w σ ρ S H D d h e x k
  refine hc H0 w σ ρ S H _ _ h e x fun w1 S1 H1 c s1 h1 x1 => ?_
  cases c with
  | true => exact ha H0 w1 σ ρ S1 H1 D d h1 (e.mono s1) x1 (k.mono s1)
  | false => exact hb H0 w1 σ ρ S1 H1 D d h1 (e.mono s1) x1 (k.mono s1)
def xNever : XS := fun _ _ _ => False
theorem ss_never : SS C tNever xNever := fun _ _ _ _ _ _ _ _ _ _ x _ => x.elim
def xName (i : Nat) : XG := fun d ρ S q => forceL (ρ.set i (some d)) fun ρ' => q ρ' S
theorem sg_name {i : Nat} : SG C (gName i) (xName i) := fun H0 w σ ρ S H v d Q q h e r x k => k _ _ _ _ _ .rfl h (e.set i r) (by unfold xName at x; rw [forceL_eq] at x; exact x)
def xGNil : XGs := fun ds ρ S q => match ds with
  | [] => q ρ S
  | _ => False
def xGCons (g : XG) (gs : XGs) : XGs := fun ds ρ S q => match ds with
  | d :: ds => g d ρ S fun ρ1 S1 => gs ds ρ1 S1 q
  | [] => False
theorem sgs_nil : SGs C gNil xGNil := by
  intro H0 w σ ρ S H vs ds Q q h e r x k
  cases r with
  | nil => exact ⟨rfl, k _ _ _ _ _ .rfl h e x⟩
  | cons _ _ => exact x.elim
theorem sgs_cons {g : TG} {gs : TGs} {x : XG} {xs : XGs} (hg : SG C g x) (hs : SGs C gs xs) : SGs C (gCons g gs) (xGCons x xs) := by
  intro H0 w σ ρ S H vs ds Q q h e r x k
  cases r with
  | nil => exact x.elim
  | cons r t => exact ⟨_, _, rfl, hg H0 w σ ρ S H _ _ _ _ h e r x fun w1 σ1 ρ1 S1 H1 s1 h1 e1 x1 => hs H0 w1 σ1 ρ1 S1 H1 _ _ Q q h1 e1 (Reps.mono s1 t) x1 (k.mono s1)⟩
def xGTup (n : Nat) (gs : XGs) : XG := fun d ρ S q => match d with
  | .tup ds => match Nat.beq ds.length n with
    | true => gs ds ρ S q
    | false => False
  | _ => False
theorem sg_tup {n : Nat} {gs : TGs} {xs : XGs} (hs : SGs C gs xs) : SG C (gTup C.K n gs) (xGTup n xs) := by
  intro H0 w σ ρ S H v d Q q h e r x k
  unfold xGTup at x
  split at x
  · rename_i ds
    split at x
    · rename_i hl
      obtain ⟨a, ys, rfl, t, ps⟩ := r.tup_at
      exact ⟨a, ys, rfl, t.sq h.imm, by rw [ps.length]; exact Nat.eq_of_beq_eq_true hl, hs H0 w σ ρ S H ys ds Q q h e ps x k⟩
    · exact x.elim
  · exact x.elim
def xAsg (a : XE) (g : XG) : XS := fun d ρ S => a ρ S fun v S1 => g v ρ S1 d.nx
theorem ss_asg {t : TE} {g : TG} {a : XE} {x : XG} (ha : SE C t a) (hg : SG C g x) : SS C (tAsg t g) (xAsg a x) :=
  fun H0 w σ ρ S H D d h e x1 k => ha H0 w σ ρ S H _ _ h e x1 fun w1 S1 H1 v1 d1 s1 h1 r1 x2 => hg H0 w1 σ ρ S1 H1 v1 d1 _ _ h1 (e.mono s1) r1 x2 (k.nx.mono s1)
def xAug (i : Nat) (f : Int → Int → Int) (a : XE) : XS := fun d ρ S => match ρ[i]? with
  | some (some (.int x)) => a ρ S fun y S1 => match y with
    | .int y => forceL (ρ.set i (some (.int (f x y)))) fun ρ' => d.nx ρ' S1
    | _ => False
  | _ => False
theorem ss_aug {i : Nat} {f : Int → Int → Int} {t : TE} {a : XE} (ha : SE C t a) : SS C (tAug i t (ipI f)) (xAug i f a) := by
  intro H0 w σ ρ S H D d h e x k
  unfold xAug at x
  split at x
  · rename_i i0 hi
    obtain ⟨v, hv, rv⟩ := e.at_ i _ hi
    refine ⟨v, hv, ha H0 w σ ρ S H _ _ h e x fun w1 S1 H1 v1 d1 s1 h1 r1 x1 => ?_⟩
    split at x1
    · rw [forceL_eq] at x1
      exact ⟨_, _, rv.int_at, r1.int_at, k.nx _ _ _ _ _ s1 h1 ((e.mono s1).set i (.int _)) x1⟩
    · exact x1.elim
  · exact x.elim
def xWhile (c : XT) (b : XS) : XS := fun d ρ S => ∃ P : Nat → DE → Sto → Prop, (∃ m, P m ρ S) ∧ ∀ m ρ S, P m ρ S → c ρ S fun k S1 => bIf k (b { d with nx := fun ρ' S' => ∃ m', m' < m ∧ P m' ρ' S', ct := fun ρ' S' => ∃ m', m' < m ∧ P m' ρ' S', bk := d.nx } ρ S1) (d.nx ρ S1)
theorem ss_while {tc : TT} {tb : TS} {c : XT} {b : XS} (hc : ST C tc c) (hb : SS C tb b) : SS C (tWhile tc tb) (xWhile c b) := by
  intro H0 w σ ρ S H D d h e ⟨P, ⟨m0, p0⟩, turn⟩ k
  refine ⟨fun m σ' H' => ∃ w' ρ' S', Ext w w' ∧ Holds C H0 w' S' H' ∧ EnvR C.K w' σ' ρ' ∧ P m ρ' S', ⟨m0, w, ρ, S, .rfl, h, e, p0⟩, ?_⟩
  rintro m σ1 H1 ⟨w1, ρ1, S1, s1, h1, e1, p1⟩
  refine hc H0 w1 σ1 ρ1 S1 H1 _ _ h1 e1 (turn m ρ1 S1 p1) fun w2 S2 H2 c s2 h2 x2 => ?_
  have s12 := s1.trans s2
  cases c with
  | true =>
    rw [if_pos rfl]
    refine ⟨fun σ' H' => ∃ m', m' < m ∧ ∃ w' ρ' S', Ext w w' ∧ Holds C H0 w' S' H' ∧ EnvR C.K w' σ' ρ' ∧ P m' ρ' S', fun _ _ z => z, ?_⟩
    refine hb H0 w2 σ1 ρ1 S2 H2 _ _ h2 (e1.mono s2) x2 ⟨?_, k.rt.mono s12, k.nx.mono s12, ?_⟩
    · rintro w3 σ3 ρ3 S3 H3 s3 h3 e3 ⟨m', hm, p3⟩
      exact ⟨m', hm, w3, ρ3, S3, s12.trans s3, h3, e3, p3⟩
    · rintro w3 σ3 ρ3 S3 H3 s3 h3 e3 ⟨m', hm, p3⟩
      exact ⟨m', hm, w3, ρ3, S3, s12.trans s3, h3, e3, p3⟩
  | false =>
    rw [if_neg Bool.false_ne_true]
    exact k.nx _ _ _ _ _ s12 h2 (e1.mono s2) x2
/-! ### a def -/
/-- a thing that is never looked into -/
noncomputable def lock {α : Type} (a : α) : α := Classical.choose (⟨a, rfl⟩ : ∃ x, x = a)
theorem lock_eq {α : Type} (a : α) : lock a = a := Classical.choose_spec (⟨a, rfl⟩ : ∃ x, x = a)
theorem ss_cut {t : TS} {a b : XS} (e : a = b) (h : SS C t b) : SS C t a := e ▸ h
/-- k: how many names beside the parameters -/
def xFn (k : Nat) (b : XS) : XF := fun ds S q => forceL (ds.map some ++ List.replicate k none) fun ρ => b { nx := fun _ S' => q .non S', rt := q } ρ S
theorem env_start {K : PySem.W.Frag} {w : Wl} {N : List Str} {vs : List V} {ds : List D} (r : Reps K w vs ds) : EnvR K w (L2.start N vs) (ds.map some ++ List.replicate (N.length - ds.length) none) := by
  unfold L2.start
  rw [← r.length]
  refine ⟨by simp [r.length], fun i d h => ?_⟩
  by_cases hi : i < ds.length
  · rw [List.getElem?_append_left (by simpa using hi), List.getElem?_map] at h
    obtain ⟨d', hd, e⟩ := Option.map_eq_some_iff.mp h
    cases e
    obtain ⟨v, hv, rv⟩ := paired_at r hd
    refine ⟨v, ?_, rv⟩
    rw [List.getElem?_append_left (by rw [List.length_map, r.length]; exact hi), List.getElem?_map, hv]
    rfl
  · rw [List.getElem?_append_right (by simpa using hi), List.getElem?_replicate] at h
    split at h <;> cases h
theorem fn_body {m j : Nat} {N : List Str} {t : TS} {b : XS} {vs : List V} {H : Hp} {Q : VK} {E : XK} (hs : SS C t b) (h : spOf C m (xFn j b) vs H Q E) (hN : N.length = m + j) : t { nx := fun _ H' => Q .non H', rt := Q } (L2.start N vs) H := by
  obtain ⟨H0, w, S, ds, q, hh, r, l, x, k⟩ := h
  unfold xFn at x
  rw [forceL_eq] at x
  have e := env_start (N := N) r
  rw [hN, l, Nat.add_sub_cancel_left] at e
  exact hs H0 w _ _ S H _ _ hh e x ⟨fun w1 σ1 ρ1 S1 H1 s1 h1 e1 x1 => k _ _ _ _ _ s1 h1 .non x1, k, fun _ _ _ _ _ _ _ _ z => z, fun _ _ _ _ _ _ _ _ z => z⟩
end
end DT

set_option Elab.async false
set_option linter.all false
set_option maxRecDepth 100000
set_option maxHeartbeats 1000000
namespace DT
open PySem PySem.Spec PyProof.Rows L2 Lw WD GxR
/-! ### what a loop walks: its items, and what must stand of the objects meanwhile -/
abbrev XI := DE → Sto → (List D → (Sto → Prop) → Sto → Prop) → Prop
structure ItOk (C : Ctx) (H0 : Hp) (w : Wl) (J : It) (ds : List D) (chk : Sto → Prop) : Prop where
  stop : ∀ w' S H, Ext w w' → Holds C H0 w' S H → chk S → J.stop ds.length H
  go : ∀ (i : Nat) (d : D) w' S H, Ext w w' → Holds C H0 w' S H → chk S → ds[i]? = some d → J.go i H ∧ ∀ x H', J.yld i H x H' → ∃ w'', Ext w' w'' ∧ Holds C H0 w'' S H' ∧ Rep C.K w'' x d
def SI (C : Ctx) (wi : TI) (x : XI) : Prop := ∀ H0 w σ ρ S H (R : It → Hp → Prop) (r : List D → (Sto → Prop) → Sto → Prop), Holds C H0 w S H → EnvR C.K w σ ρ → x ρ S r →
  (∀ w' S' H' J ds chk, Ext w w' → Holds C H0 w' S' H' → ItOk C H0 w' J ds chk → r ds chk S' → R J H') → wi σ H R
section
variable {C : Ctx}
theorem sqL_at {K : PySem.W.Frag} {H : Hp} {a : Addr} {xs : List V} (h : SqL K H a xs) (i : Nat) (x : V) (e : xs[i]? = some x) : (Itl K a).go i H := ⟨xs, x, h, e⟩
/-- a list or a tuple -/
def xSeqIt (a : XE) : XI := fun ρ S r => a ρ S fun d S1 => match d with
  | .tup ds => r ds (fun _ => True) S1
  | .ro ds => r ds (fun _ => True) S1
  | .ref n => match look S1 n with
    | some ds => r ds (fun S => look S n = some ds) S1
    | none => False
  | _ => False
theorem si_seq {t : TE} {a : XE} (ha : SE C t a) : SI C (fun σ H R => t σ H fun x H1 => (∃ a, x = .ref a ∧ (∃ xs, SqL C.K H1 a xs) ∧ R (Itl C.K a) H1) ∨ (∃ a, x = .ref a ∧ (∃ xs, SqT C.K H1 a xs) ∧ R (Itt C.K a) H1)) (xSeqIt a) := by
  intro H0 w σ ρ S H R r h e x k
  refine ha H0 w σ ρ S H _ _ h e x fun w1 S1 H1 v1 d1 s1 h1 r1 x1 => ?_
  split at x1
  · rename_i ds
    obtain ⟨a, xs, rfl, t, ps⟩ := r1.tup_at
    refine .inr ⟨a, rfl, ⟨xs, t.sq h1.imm⟩, k _ _ _ _ _ _ s1 h1 ⟨fun w' S H s hh _ => ⟨xs, (t.mono s.sub).sq hh.imm, by rw [ps.length]; exact Nat.le_refl _⟩, fun i d w' S H s hh _ hd => ?_⟩ x1⟩
    obtain ⟨v, hv, rv⟩ := paired_at ps hd
    have sq := (t.mono s.sub).sq hh.imm
    exact ⟨⟨xs, v, sq, hv⟩, fun x H' y => by
      obtain ⟨rfl, y⟩ := y
      have := y xs sq
      rw [hv] at this
      cases this
      exact ⟨w', .rfl, hh, rv.mono s⟩⟩
  · rename_i ds
    obtain ⟨a, xs, rfl, t, ps⟩ := r1.ro_at
    refine .inl ⟨a, rfl, ⟨xs, t.sq h1.imm⟩, k _ _ _ _ _ _ s1 h1 ⟨fun w' S H s hh _ => ⟨xs, (t.mono s.sub).sq hh.imm, by rw [ps.length]; exact Nat.le_refl _⟩, fun i d w' S H s hh _ hd => ?_⟩ x1⟩
    obtain ⟨v, hv, rv⟩ := paired_at ps hd
    have sq := (t.mono s.sub).sq hh.imm
    exact ⟨⟨xs, v, sq, hv⟩, fun x H' y => by
      obtain ⟨rfl, y⟩ := y
      have := y xs sq
      rw [hv] at this
      cases this
      exact ⟨w', .rfl, hh, rv.mono s⟩⟩
  · split at x1
    · rename_i n _ ds hn
      obtain ⟨a, xs, rfl, ha, hl, ps⟩ := h1.lst r1 hn
      have lk : ∀ w' S H, Ext w1 w' → Holds C H0 w' S H → look S n = some ds → ∃ ys, SqL C.K H a ys ∧ Reps C.K w' ys ds := fun w' S H s hh hs => by
        obtain ⟨b, ys, e2, hb, hl2, p2⟩ := hh.lst (r1.mono s) hs
        cases e2
        exact ⟨ys, SqL.of hl2, p2⟩
      refine .inl ⟨a, rfl, ⟨xs, SqL.of hl⟩, k _ _ _ _ _ _ s1 h1 ⟨fun w' S H s hh hs => ?_, fun i d w' S H s hh hs hd => ?_⟩ x1⟩
      · obtain ⟨ys, sq, p2⟩ := lk w' S H s hh hs
        exact ⟨ys, sq, by rw [p2.length]; exact Nat.le_refl _⟩
      · obtain ⟨ys, sq, p2⟩ := lk w' S H s hh hs
        obtain ⟨v, hv, rv⟩ := paired_at p2 hd
        exact ⟨⟨ys, v, sq, hv⟩, fun x H' y => by
          obtain ⟨rfl, y⟩ := y
          have := y ys sq
          rw [hv] at this
          cases this
          exact ⟨w', .rfl, hh, rv⟩⟩
    · exact x1.elim
  · exact x1.elim
/-- whole numbers from lo on -/
def rngD (lo : Int) (n : Nat) : List D := (List.range n).map fun i => .int (lo + (i : Nat))
theorem rngD_len {lo : Int} {n : Nat} : (rngD lo n).length = n := by unfold rngD; simp
theorem rngD_at {lo : Int} {n i : Nat} (h : i < n) : (rngD lo n)[i]? = some (.int (lo + (i : Nat))) := by
  unfold rngD
  rw [List.getElem?_map, List.getElem?_range h]
  rfl
theorem it_rng {H0 : Hp} {w : Wl} {lo : Int} {n : Nat} : ItOk C H0 w (Itr lo n) (rngD lo n) (fun _ => True) :=
  ⟨fun _ _ _ _ _ _ => by show n ≤ (rngD lo n).length; rw [rngD_len]; exact Nat.le_refl _, fun i d w' S H s hh _ hd => by
    have hi : i < n := by
      have := (List.getElem?_eq_some_iff.mp hd).1
      rw [rngD_len] at this
      exact this
    rw [rngD_at hi] at hd
    cases hd
    exact ⟨hi, fun x H' y => by
      obtain ⟨rfl, rfl⟩ := y
      exact ⟨w', .rfl, hh, .int _⟩⟩⟩
def xRng1 (a : XA) : XI := fun ρ S r => a ρ S fun ds S1 => match ds with
  | [.int j] => (-(2 ^ 62) ≤ j ∧ j < 2 ^ 62) ∧ r (rngD 0 j.toNat) (fun _ => True) S1
  | _ => False
theorem si_rng1 {n : Option Nat} {t : TA} {a : XA} (ha : SA C n t a) : SI C (iRng1 t) (xRng1 a) := by
  intro H0 w σ ρ S H R r h e x k
  refine ha H0 w σ ρ S H _ _ h e x fun w1 S1 H1 vs ds s1 h1 r1 _ x1 => ?_
  split at x1
  · obtain ⟨v, rfl, rv⟩ := reps1 r1
    rw [rv.int_at]
    exact ⟨_, rfl, x1.1.1, x1.1.2, k _ _ _ _ _ _ s1 h1 it_rng x1.2⟩
  · exact x1.elim
def xRng2 (a : XA) : XI := fun ρ S r => a ρ S fun ds S1 => match ds with
  | [.int i, .int j] => (-(2 ^ 62) ≤ i ∧ i < 2 ^ 62 ∧ -(2 ^ 62) ≤ j ∧ j < 2 ^ 62) ∧ r (rngD i (j - i).toNat) (fun _ => True) S1
  | _ => False
theorem si_rng2 {n : Option Nat} {t : TA} {a : XA} (ha : SA C n t a) : SI C (iRng2 t) (xRng2 a) := by
  intro H0 w σ ρ S H R r h e x k
  refine ha H0 w σ ρ S H _ _ h e x fun w1 S1 H1 vs ds s1 h1 r1 _ x1 => ?_
  split at x1
  · obtain ⟨v, u, rfl, rv, ru⟩ := reps2 r1
    rw [rv.int_at, ru.int_at]
    exact ⟨_, _, rfl, x1.1, k _ _ _ _ _ _ s1 h1 it_rng x1.2⟩
  · exact x1.elim
/-! ### for -/
def xFor (xi : XI) (g : XG) (b : XS) : XS := fun d ρ S => xi ρ S fun ds chk S1 => ∃ P : Nat → DE → Sto → Prop, P 0 ρ S1 ∧ (∀ i ρ S, i ≤ ds.length → P i ρ S → chk S) ∧
  (∀ (i : Nat) x ρ S, ds[i]? = some x → P i ρ S → g x ρ S fun ρ' S' => b { d with nx := P (i + 1), ct := P (i + 1), bk := d.nx } ρ' S') ∧ ∀ ρ S, P ds.length ρ S → d.nx ρ S
theorem ss_for {wi : TI} {g : TG} {tb : TS} {xi : XI} {x : XG} {b : XS} (hi : SI C wi xi) (hg : SG C g x) (hb : SS C tb b) : SS C (tFor wi g tb) (xFor xi x b) := by
  intro H0 w σ ρ S H D d h e x1 k
  refine hi H0 w σ ρ S H _ _ h e x1 fun w1 S1 H1 J ds chk s1 h1 ok ⟨P, p0, pc, ps, pd⟩ => ?_
  refine ⟨fun i m σ' H' => m = ds.length - i ∧ i ≤ ds.length ∧ ∃ w' ρ' S', Ext w1 w' ∧ Holds C H0 w' S' H' ∧ EnvR C.K w' σ' ρ' ∧ P i ρ' S', ⟨_, rfl, Nat.zero_le _, w1, ρ, S1, .rfl, h1, e.mono s1, p0⟩, ?_⟩
  rintro i m σ2 H2 ⟨rfl, hle, w2, ρ2, S2, s2, h2, e2, p2⟩
  have s12 := s1.trans s2
  by_cases hlt : i < ds.length
  · have hd := List.getElem?_eq_getElem hlt
    obtain ⟨g1, g2⟩ := ok.go i _ w2 S2 H2 s2 h2 (pc i _ _ hle p2) hd
    refine .inr ⟨g1, fun σ' H' => ∃ w' ρ' S', Ext w1 w' ∧ Holds C H0 w' S' H' ∧ EnvR C.K w' σ' ρ' ∧ P (i + 1) ρ' S', fun σ' H' z => ⟨_, by omega, rfl, hlt, z⟩, fun v H3 y => ?_⟩
    obtain ⟨w3, s3, h3, rv⟩ := g2 v H3 y
    refine hg H0 w3 σ2 ρ2 S2 H3 v _ _ _ h3 (e2.mono s3) rv (ps i _ ρ2 S2 hd p2) fun w4 σ4 ρ4 S4 H4 s4 h4 e4 x4 => ?_
    have s14 := (s12.trans s3).trans s4
    refine hb H0 w4 σ4 ρ4 S4 H4 _ _ h4 e4 x4 ⟨?_, k.rt.mono s14, k.nx.mono s14, ?_⟩
    · exact fun w5 σ5 ρ5 S5 H5 s5 h5 e5 p5 => ⟨w5, ρ5, S5, ((s2.trans s3).trans s4).trans s5, h5, e5, p5⟩
    · exact fun w5 σ5 ρ5 S5 H5 s5 h5 e5 p5 => ⟨w5, ρ5, S5, ((s2.trans s3).trans s4).trans s5, h5, e5, p5⟩
  · have : i = ds.length := by omega
    subst this
    exact .inl ⟨ok.stop w2 S2 H2 s2 h2 (pc _ _ _ hle p2), k.nx _ _ _ _ _ s12 h2 e2 (pd _ _ p2)⟩
/-! ### list comprehensions -/
/-- a target that sets places of vs only -/
def KeepsW (g : TG) (vs : List Nat) : Prop := ∀ v σ H Q, g v σ H Q → g v σ H fun σ' H' => wipe σ' vs = wipe σ vs ∧ Q σ' H'
def KeepsWs (g : TGs) (vs : List Nat) : Prop := ∀ v σ H Q, g v σ H Q → g v σ H fun σ' H' => wipe σ' vs = wipe σ vs ∧ Q σ' H'
theorem wipe_set : ∀ (vs : List Nat) (σ : L2.St) (i : Nat) (x : Option V), i ∈ vs → wipe (σ.set i x) vs = wipe σ vs
  | v :: vs, σ, i, x, h => by
    unfold wipe
    by_cases hi : i ∈ vs
    · rw [wipe_set vs σ i x hi]
    · have : i = v := (List.mem_cons.mp h).resolve_right hi
      subst this
      have key : ∀ (us : List Nat) (τ : L2.St), i ∉ us → wipe (τ.set i x) us = (wipe τ us).set i x := by
        intro us
        induction us with
        | nil => intro τ _; rfl
        | cons u us ih =>
          intro τ hn
          unfold wipe
          rw [ih τ (fun z => hn (List.mem_cons_of_mem _ z)), List.set_comm _ _ (fun z => hn (by rw [z]; exact List.mem_cons_self ..))]
      rw [key vs σ hi, List.set_set]
theorem wipe_in (σ : L2.St) (vs : List Nat) : ∀ us : List Nat, (∀ i ∈ us, i ∈ vs) → wipe (wipe σ us) vs = wipe σ vs
  | [], _ => rfl
  | u :: us, h => by
    show wipe ((wipe σ us).set u none) vs = _
    rw [wipe_set vs _ u _ (h u (List.mem_cons_self ..))]
    exact wipe_in σ vs us fun i hi => h i (List.mem_cons_of_mem _ hi)
theorem kw_name {i : Nat} {vs : List Nat} (h : i ∈ vs) : KeepsW (gName i) vs := fun v σ H Q q => ⟨wipe_set vs σ i _ h, q⟩
theorem kws_nil {vs : List Nat} : KeepsWs gNil vs := fun v σ H Q q => ⟨q.1, rfl, q.2⟩
theorem kws_cons {g : TG} {gs : TGs} {vs : List Nat} (hg : KeepsW g vs) (hs : KeepsWs gs vs) (mono : ∀ v σ H Q Q', g v σ H Q → (∀ σ' H', Q σ' H' → Q' σ' H') → g v σ H Q') (monos : ∀ v σ H Q Q', gs v σ H Q → (∀ σ' H', Q σ' H' → Q' σ' H') → gs v σ H Q') : KeepsWs (gCons g gs) vs := by
  rintro v σ H Q ⟨x, r, rfl, q⟩
  refine ⟨x, r, rfl, mono _ _ _ _ _ (hg x σ H _ q) fun σ1 H1 z => ?_⟩
  exact monos _ _ _ _ _ (hs r σ1 H1 _ z.2) fun σ2 H2 y => ⟨y.1.trans z.1, y.2⟩
theorem kw_tup {K : PySem.W.Frag} {n : Nat} {gs : TGs} {vs : List Nat} (hs : KeepsWs gs vs) : KeepsW (gTup K n gs) vs := by
  rintro v σ H Q ⟨a, xs, rfl, h1, h2, q⟩
  exact ⟨a, xs, rfl, h1, h2, hs _ _ _ _ q⟩
theorem mono_name {i : Nat} : ∀ v σ H Q Q', gName i v σ H Q → (∀ σ' H', Q σ' H' → Q' σ' H') → gName i v σ H Q' := fun _ _ _ _ _ q k => k _ _ q
theorem monos_nil : ∀ v σ H Q Q', gNil v σ H Q → (∀ σ' H', Q σ' H' → Q' σ' H') → gNil v σ H Q' := fun _ _ _ _ _ q k => ⟨q.1, k _ _ q.2⟩
theorem monos_cons {g : TG} {gs : TGs} (mono : ∀ v σ H Q Q', g v σ H Q → (∀ σ' H', Q σ' H' → Q' σ' H') → g v σ H Q') (monos : ∀ v σ H Q Q', gs v σ H Q → (∀ σ' H', Q σ' H' → Q' σ' H') → gs v σ H Q') :
    ∀ v σ H Q Q', gCons g gs v σ H Q → (∀ σ' H', Q σ' H' → Q' σ' H') → gCons g gs v σ H Q' := by
  rintro v σ H Q Q' ⟨x, r, rfl, q⟩ k
  exact ⟨x, r, rfl, mono _ _ _ _ _ q fun σ1 H1 z => monos _ _ _ _ _ z k⟩
def xYes : XT := fun _ S q => q true S
theorem st_yes : ST C tYes xYes := fun _ _ _ _ _ _ _ _ h _ x k => k _ _ _ _ .rfl h x
def xLc (xi : XI) (g : XG) (tt : XT) (b : XE) (vs : List Nat) : XE := fun ρ S q => xi ρ S fun ds chk S1 => ∃ P : Nat → Sto → Prop, P 0 (S1 ++ [.lst []]) ∧ (∀ i S, i ≤ ds.length → P i S → chk S) ∧
  (∀ (i : Nat) x S, ds[i]? = some x → P i S → forceL (xwipe ρ vs) fun ρ0 => g x ρ0 S fun ρ' S' => tt ρ' S' fun c S2 => bIf c (b ρ' S2 fun y S3 => match look S3 S1.length with
      | some acc => acc.length < 1000000 ∧ P (i + 1) (S3.set S1.length (.lst (acc ++ [y])))
      | none => False) (P (i + 1) S2)) ∧ ∀ S, P ds.length S → q (.ref S1.length) S
theorem se_lc {wi : TI} {g : TG} {tt : TT} {te : TE} {vs : List Nat} {xi : XI} {x : XG} {xt : XT} {b : XE} (hi : SI C wi xi) (hg : SG C g x) (kg : KeepsW g vs) (ht : ST C tt xt) (hb : SE C te b) : SE C (tLc wi g tt te vs) (xLc xi x xt b vs) := by
  intro H0 w σ ρ S H Q q h e x1 k
  refine hi H0 w σ ρ S H _ _ h e x1 fun w1 S1 H1 J ds chk s1 h1 ok ⟨P, p0, pc, ps, pd⟩ => fun A hA => ?_
  have hz := h1.add hA (same_upd hA) (upd_same (o := .lst [])) (o := .lst []) .nil
  have rA : Rep C.K ⟨w1.ads ++ [A], w1.imm⟩ (.ref A) (.ref S1.length) := .ref (by rw [← h1.len]; exact List.getElem?_concat_length ..)
  have s01 : Ext w1 ⟨w1.ads ++ [A], w1.imm⟩ := ext_add
  generalize (⟨w1.ads ++ [A], w1.imm⟩ : Wl) = wz at hz rA s01
  refine ⟨fun i m H' => m = ds.length - i ∧ i ≤ ds.length ∧ ∃ w' S', Ext wz w' ∧ Holds C H0 w' S' H' ∧ P i S', ⟨_, rfl, Nat.zero_le _, wz, _, .rfl, hz, p0⟩, ?_⟩
  rintro i m H2 ⟨rfl, hle, w2, S2, s2, h2, p2⟩
  have s12 := s01.trans s2
  by_cases hlt : i < ds.length
  · have hd := List.getElem?_eq_getElem hlt
    obtain ⟨g1, g2⟩ := ok.go i _ w2 S2 H2 s12 h2 (pc i _ hle p2) hd
    refine .inr ⟨g1, fun H' => ∃ w' S', Ext wz w' ∧ Holds C H0 w' S' H' ∧ P (i + 1) S', fun H' z => ⟨_, by omega, rfl, hlt, z⟩, fun v H3 y => ?_⟩
    obtain ⟨w3, s3, h3, rv⟩ := g2 v H3 y
    have e3 : EnvR C.K w3 (wipe σ vs) (xwipe ρ vs) := ((e.mono s1).mono (s12.trans s3)).wiped vs
    have kk := kg v (wipe σ vs) H3
    rw [wipe_in σ vs vs fun _ z => z] at kk
    refine kk _ (hg H0 w3 _ _ S2 H3 v _ _ _ h3 e3 rv (by have z := ps i _ S2 hd p2; rw [forceL_eq] at z; exact z) fun w4 σ4 ρ4 S4 H4 s4 h4 e4 x4 => ?_)
    refine ht H0 w4 σ4 ρ4 S4 H4 _ _ h4 e4 x4 fun w5 S5 H5 c s5 h5 x5 => ?_
    cases c with
    | true =>
      rw [if_pos rfl]
      refine hb H0 w5 σ4 ρ4 S5 H5 _ _ h5 (e4.mono s5) x5 fun w6 S6 H6 u du s6 h6 ru x6 => ?_
      have sz6 := (((s2.trans s3).trans s4).trans s5).trans s6
      split at x6
      · rename_i acc hn
        obtain ⟨A2, xs, e2, ha, hl, pa⟩ := h6.lst (rA.mono sz6) hn
        cases e2
        exact ⟨xs, hl, by rw [pa.length]; exact big_lt x6.1, w6, _, sz6, h6.put ha (of_look hn) (v := .lst (xs ++ [u])) (o' := .lst (acc ++ [du])) (paired_app pa (.cons ru .nil)), x6.2⟩
      · exact x6.elim
    | false =>
      rw [if_neg Bool.false_ne_true]
      exact ⟨w5, S5, ((s2.trans s3).trans s4).trans s5, h5, x5⟩
  · have : i = ds.length := by omega
    subst this
    exact .inl ⟨ok.stop w2 S2 H2 s12 h2 (pc _ _ hle p2), k _ _ _ _ _ (s1.trans s12) h2 (rA.mono s2) (pd _ p2)⟩
/-! ### all(e for x in xs) -/
def xAll (xi : XI) (g : XG) (b : XE) (vs : List Nat) : XE := fun ρ S q => xi ρ S fun ds chk S1 => ∃ P : Nat → Sto → Prop, P 0 S1 ∧ (∀ i S, i ≤ ds.length → P i S → chk S) ∧
  (∀ (i : Nat) x S, ds[i]? = some x → P i S → forceL (xwipe ρ vs) fun ρ0 => g x ρ0 S fun ρ' S' => b ρ' S' fun y S2 => match y with
    | .bl b => bIf b (P (i + 1) S2) (q (.bl false) S2)
    | _ => False) ∧ ∀ S, P ds.length S → q (.bl true) S
theorem se_all {A : Addr} {wi : TI} {g : TG} {te : TE} {vs : List Nat} {xi : XI} {x : XG} {b : XE} (hA : A ∈ C.tb) (hi : SI C wi xi) (hg : SG C g x) (kg : KeepsW g vs) (hb : SE C te b) : SE C (GA.tAll A wi g te vs) (xAll xi x b vs) := by
  intro H0 w σ ρ S H Q q h e x1 k
  refine hi H0 w σ ρ S H _ _ h e x1 fun w1 S1 H1 J ds chk s1 h1 ok ⟨P, p0, pc, ps, pd⟩ => ⟨?_, fun Hz tz => ?_⟩
  · obtain ⟨_, t, e1, k1⟩ := h1.tab A hA
    exact ⟨t, e1, k1⟩
  have hz := h1.tabbed hA tz
  refine ⟨fun i m H' => m = ds.length - i ∧ i ≤ ds.length ∧ ∃ w' S', Ext w1 w' ∧ Holds C H0 w' S' H' ∧ P i S', ⟨_, rfl, Nat.zero_le _, w1, _, .rfl, hz, p0⟩, ?_⟩
  rintro i m H2 ⟨rfl, hle, w2, S2, s12, h2, p2⟩
  by_cases hlt : i < ds.length
  · have hd := List.getElem?_eq_getElem hlt
    obtain ⟨g1, g2⟩ := ok.go i _ w2 S2 H2 s12 h2 (pc i _ hle p2) hd
    refine .inr ⟨g1, fun H' => ∃ w' S', Ext w1 w' ∧ Holds C H0 w' S' H' ∧ P (i + 1) S', fun H' z => ⟨_, by omega, rfl, hlt, z⟩, fun v H3 y => ?_⟩
    obtain ⟨w3, s3, h3, rv⟩ := g2 v H3 y
    have e3 : EnvR C.K w3 (wipe σ vs) (xwipe ρ vs) := ((e.mono s1).mono (s12.trans s3)).wiped vs
    have kk := kg v (wipe σ vs) H3
    rw [wipe_in σ vs vs fun _ z => z] at kk
    refine kk _ (hg H0 w3 _ _ S2 H3 v _ _ _ h3 e3 rv (by have z := ps i _ S2 hd p2; rw [forceL_eq] at z; exact z) fun w4 σ4 ρ4 S4 H4 s4 h4 e4 x4 => ?_)
    refine hb H0 w4 σ4 ρ4 S4 H4 _ _ h4 e4 x4 fun w6 S6 H6 u du s6 h6 ru x6 => ?_
    have s16 := ((s12.trans s3).trans s4).trans s6
    split at x6
    · rename_i b
      cases b with
      | true =>
        refine ⟨true, ru.bl_at, ?_⟩
        rw [if_pos rfl]
        exact ⟨w6, S6, s16, h6, x6⟩
      | false =>
        refine ⟨false, ru.bl_at, ?_⟩
        rw [if_neg Bool.false_ne_true]
        exact k _ _ _ _ _ (s1.trans s16) h6 (.bl _) x6
    · exact x6.elim
  · have : i = ds.length := by omega
    subst this
    exact .inl ⟨ok.stop w2 S2 H2 s12 h2 (pc _ _ hle p2), k _ _ _ _ _ (s1.trans s12) h2 (.bl _) (pd _ p2)⟩
end
end DT

set_option Elab.async false
set_option linter.all false
set_option maxRecDepth 100000
set_option maxHeartbeats 1000000
namespace DT
open PySem PySem.Spec PyProof.Rows L2 Lw WD GxR
/-! ### one rule for all kinds that a construct may meet -/
def rAddA (K : PySem.W.Frag) : R2 := fun x y H Q => (∃ i j, x = .int i ∧ y = .int j ∧ Q (.int (i + j)) H) ∨ ((∃ i j, x = .str i ∧ y = .str j ∧ i.length + j.length ≤ sizeLine ∧ Q (.str (i ++ j)) H) ∨ (rCatA K x y H Q ∨ rCat x y H Q))
def rMulA (K : PySem.W.Frag) : R2 := fun x y H Q => (rI CMul (fun i j => .int (i * j)) x y H Q ∨ rI CMulX (fun i j => .int (i * j)) x y H Q) ∨ (rRep x y H Q ∨ TR.rRepA K x y H Q)
def rEqA (K : PySem.W.Frag) : R2 := fun x y H Q => rEq x y H Q ∨ rEqD K x y H Q
def rNeA (K : PySem.W.Frag) : R2 := fun x y H Q => rNe x y H Q ∨ rNeD K x y H Q
def rInA (K : PySem.W.Frag) (neg : Bool) : R2 := fun x y H Q => rIn K neg x y H Q ∨ IT.rInT K neg x y H Q
def rSlAny (K : PySem.W.Frag) : V → Option Int → Option Int → Hp → VK → Prop := fun x lo hi H Q => rSlL K x lo hi H Q ∨ (rSlA K x lo hi H Q ∨ rSlS x lo hi H Q)
section
variable {X : Cx}
theorem op_addA : OpR X (binaryOp .Add) (rAddA X.K) := op_add.or (op_add_str.or (op_catA.or op_cat))
theorem op_mulA : OpR X (binaryOp .Mult) (rMulA X.K) := (op_mul.or op_mulX).or (op_rep.or TR.op_repA)
theorem op_eqA (hu : X.A.units + 64 < cLine) : OpR X (compareOp .Eq) (rEqA X.K) := op_eq.or (op_eqD hu)
theorem op_neA (hu : X.A.units + 64 < cLine) : OpR X (compareOp .NotEq) (rNeA X.K) := op_ne.or (op_neD hu)
theorem op_inA (hu : X.A.units + 65 < cLine) : OpR X (compareOp .In) (rInA X.K false) := op_in_seq.or (IT.op_inT hu)
theorem op_notInA (hu : X.A.units + 65 < cLine) : OpR X (compareOp .NotIn) (rInA X.K true) := op_notIn_seq.or (IT.op_notInT hu)
theorem sl_any : SlR X (rSlAny X.K) := sl_list.or (sl_tupA.or sl_str)
/-- a list or a tuple is walked -/
def iSeqA (K : PySem.W.Frag) (t : TE) : TI := fun σ H R => t σ H fun x H1 => (∃ a, x = .ref a ∧ (∃ xs, SqL K H1 a xs) ∧ R (Itl K a) H1) ∨ (∃ a, x = .ref a ∧ (∃ xs, SqT K H1 a xs) ∧ R (Itt K a) H1)
theorem pi_seqA {tg l : Expr} {tl : TE} (hl : PE X l tl) : PI X tg l (iSeqA X.K tl) := by
  constructor
  intro pins s σ H R I h
  refine wpAny_mono (hl.run pins s σ H _ I h) (fun v s1 hv => ?_) fun _ _ z => z
  obtain ⟨x, H1, I1, r1, q1⟩ := hv
  have pushed : ∀ ob : Obj, Inv X pins σ H1 { s1 with heap := s1.heap.push ob } := fun ob => I1.kept (t' := s1.toks) fun b o e => Heap.get?_push_of_some _ e
  have one : ∀ b ∈ [s1.heap.objs.size], FpOk X pins H1 b := fun b hb => by
    rw [List.mem_singleton.mp hb]
    exact I1.fpOk (Nat.le_refl _) (I1.hok.fresh (Nat.le_refl _))
  rcases q1 with ⟨a, rfl, ⟨xs, hq⟩, q⟩ | ⟨a, rfl, ⟨xs, hq⟩, q⟩ <;> cases r1
  · obtain ⟨its, rv, p, hz⟩ := I1.list hq
    exact wpAny_pyIter_list p.isList ⟨_, [s1.heap.objs.size], _, _, H1, rfl, pushed _, turn_list a _, ⟨_, Heap.get?_push_size _ rfl, rfl, rfl⟩, one, q⟩
  · obtain ⟨its, rv, p, hz⟩ := I1.tuple hq
    exact wpAny_pyIter_tuple (show s1.heap.IsTuple a its.toArray from p) ⟨_, [s1.heap.objs.size], _, _, H1, rfl, pushed _, turn_tuple a _, ⟨_, Heap.get?_push_size _ rfl, rfl, rfl⟩, one, q⟩
end
section
variable {C : Ctx}
theorem s2_addA : S2 C (rAddA C.K) gAdd := s2_add
theorem s2_mulAA : S2 C (rMulA C.K) gMul := s2_mulA
theorem s2_eqA : S2 C (rEqA C.K) (gEq false) := s2_eq
theorem s2_neA : S2 C (rNeA C.K) (gEq true) := s2_ne
theorem s2_inA : S2 C (rInA C.K false) (gIn false) := s2_in
theorem s2_notinA : S2 C (rInA C.K true) (gIn true) := s2_notin
theorem ssl_A : SSl C (rSlAny C.K) gSl := ssl_any
theorem si_seqA {t : TE} {a : XE} (ha : SE C t a) : SI C (iSeqA C.K t) (xSeqIt a) := si_seq ha
/-! ### and, or, not by truth, as values -/
def xOrT (a b : XE) : XE := fun ρ S q => a ρ S fun d S1 => match truD S1 d with
  | some c => bIf c (q d S1) (b ρ S1 q)
  | none => False
def xAndT (a b : XE) : XE := fun ρ S q => a ρ S fun d S1 => match truD S1 d with
  | some c => bIf c (b ρ S1 q) (q d S1)
  | none => False
def xNotT (a : XE) : XE := fun ρ S q => a ρ S fun d S1 => match truD S1 d with
  | some c => q (.bl (!c)) S1
  | none => False
theorem se_orT {ta tb : TE} {a b : XE} (ha : SE C ta a) (hb : SE C tb b) : SE C (tOrT C.K ta tb) (xOrT a b) := by
  intro H0 w σ ρ S H Q q h e x1 k
  refine ha H0 w σ ρ S H _ _ h e x1 fun w1 S1 H1 v1 d1 s1 h1 r1 x2 => ?_
  split at x2
  · rename_i c hc
    cases c with
    | true => exact ⟨true, tru_of h1 r1 hc, k _ _ _ _ _ s1 h1 r1 x2⟩
    | false => exact ⟨false, tru_of h1 r1 hc, hb H0 w1 σ ρ S1 H1 Q q h1 (e.mono s1) x2 (k.mono s1)⟩
  · exact x2.elim
theorem se_andT {ta tb : TE} {a b : XE} (ha : SE C ta a) (hb : SE C tb b) : SE C (tAndT C.K ta tb) (xAndT a b) := by
  intro H0 w σ ρ S H Q q h e x1 k
  refine ha H0 w σ ρ S H _ _ h e x1 fun w1 S1 H1 v1 d1 s1 h1 r1 x2 => ?_
  split at x2
  · rename_i c hc
    cases c with
    | true => exact ⟨true, tru_of h1 r1 hc, hb H0 w1 σ ρ S1 H1 Q q h1 (e.mono s1) x2 (k.mono s1)⟩
    | false => exact ⟨false, tru_of h1 r1 hc, k _ _ _ _ _ s1 h1 r1 x2⟩
  · exact x2.elim
theorem se_notT {ta : TE} {a : XE} (ha : SE C ta a) : SE C (tNotT C.K ta) (xNotT a) := by
  intro H0 w σ ρ S H Q q h e x1 k
  refine ha H0 w σ ρ S H _ _ h e x1 fun w1 S1 H1 v1 d1 s1 h1 r1 x2 => ?_
  split at x2
  · exact ⟨_, tru_of h1 r1 (by assumption), k _ _ _ _ _ s1 h1 (.bl _) x2⟩
  · exact x2.elim
end
/-! ### constants of the program's top -/
def eachR (R : Value → D → Bool) : List Value → List D → Bool
  | [], [] => true
  | u :: us, d :: ds => R u d && eachR R us ds
  | _, _ => false
def flatR : Value → D → Bool
  | .int i _, .int j => decide (i = j)
  | .str x _, .str y => decide (x = y)
  | .bool a, .bl b => decide (a = b)
  | .none, .non => true
  | _, _ => false
def repB (K : PySem.W.Frag) : Nat → Value → D → Bool
  | n + 1, .ref a, .tup ds => match K.lookup a with
    | some ⟨.type "tuple", _, .seq its _, _⟩ => decide (its.size ≤ 100000) && eachR (repB K n) its.toList ds
    | _ => false
  | _, u, d => flatR u d
theorem flatR_ok {K : PySem.W.Frag} : ∀ {u : Value} {d : D}, flatR u d = true → ∃ v, RelV v u ∧ ∀ w, Rep K w v d
  | .int i t, .int j, h => ⟨.int i, ⟨t, rfl⟩, fun w => by cases (show i = j from of_decide_eq_true h); exact .int _⟩
  | .str x t, .str y, h => ⟨.str x, ⟨t, rfl⟩, fun w => by cases (show x = y from of_decide_eq_true h); exact .str _⟩
  | .bool a, .bl b, h => ⟨.bl a, rfl, fun w => by cases (show a = b from of_decide_eq_true h); exact .bl _⟩
  | .none, .non, _ => ⟨.non, rfl, fun w => .non⟩
theorem eachR_ok {K : PySem.W.Frag} {R : Value → D → Bool} (f : ∀ u d, R u d = true → ∃ v, RelV v u ∧ ∀ w, Rep K w v d) : ∀ {us : List Value} {ds : List D}, eachR R us ds = true → ∃ xs, Vals xs us ∧ ∀ w, Reps K w xs ds
  | [], [], _ => ⟨[], .nil, fun _ => .nil⟩
  | u :: us, d :: ds, h => by
    obtain ⟨h1, h2⟩ := Bool.and_eq_true_iff.mp (show (R u d && eachR R us ds) = true from h)
    obtain ⟨v, r, s⟩ := f u d h1
    obtain ⟨xs, rs, ss⟩ := eachR_ok f h2
    exact ⟨v :: xs, .cons r rs, fun w => .cons (s w) (ss w)⟩
theorem repB_ok {K : PySem.W.Frag} : ∀ (n : Nat) (u : Value) (d : D), repB K n u d = true → ∃ v, RelV v u ∧ ∀ w, Rep K w v d
  | 0, u, d, h => flatR_ok (by unfold repB at h; exact h)
  | n + 1, u, d, h => by
    by_cases hu : ∃ a ds, u = .ref a ∧ d = .tup ds
    · obtain ⟨a, ds, rfl, rfl⟩ := hu
      unfold repB at h
      split at h
      · rename_i dd its m sl hk
        obtain ⟨h1, h2⟩ := Bool.and_eq_true_iff.mp h
        obtain ⟨xs, rs, ss⟩ := eachR_ok (repB_ok n) h2
        exact ⟨.ref a, rfl, fun w => .tup_of (.inr ⟨_, its, m, hk, rfl, rfl, Nat.le_trans (of_decide_eq_true h1) (by rw [sizeLine_eq]; decide), rs⟩) (ss w)⟩
      · cases h
    · refine flatR_ok ?_
      unfold repB at h
      split at h <;> first
        | exact h
        | exact absurd ⟨_, _, rfl, rfl⟩ hu
        | (rename_i heq; cases heq)
        | (rename_i heq _; cases heq)
theorem rep_const {K : PySem.W.Frag} {n : Nat} {a : Addr} {d : D} (h : repB K n (.ref a) d = true) (w : Wl) : Rep K w (.ref a) d := by
  obtain ⟨v, r, s⟩ := repB_ok n _ d h
  have : v = .ref a := by
    cases v <;> first
      | (cases r; rfl)
      | (obtain ⟨_, z⟩ := r; cases z)
      | (cases (show _ = _ from r); rfl)
      | (cases (show _ = _ from r); done)
  rw [← this]
  exact s w
/-! ### the law's start -/
theorem holds_start {C : Ctx} {H : Hp} {a : Addr} {ns : List Int} (hT : ∀ p ∈ C.tb, H p = some (.tbl #[])) (hS : SqL C.K H a (ns.map V.int)) :
    ∃ H0 w, Holds C H0 w [] H ∧ Rep C.K w (.ref a) (.ro (ns.map D.int)) := by
  have t0 : TriplesOk (#[] : Array Value).toList := by trivial
  have hp : ∀ w, Reps C.K w (ns.map V.int) (ns.map D.int) := fun w => by
    clear hS
    induction ns with
    | nil => exact .nil
    | cons n ns ih => exact .cons (.int n) ih
  have old : Same (fun b => if b ∈ C.tb then none else H b) H := fun b o e => by
    dsimp only at e
    split at e
    · cases e
    · exact e
  have tab : ∀ p ∈ C.tb, (fun b => if b ∈ C.tb then none else H b) p = none ∧ ∃ t : Array Value, H p = some (.tbl t) ∧ TriplesOk t.toList := fun p hp => ⟨if_pos hp, #[], hT p hp, t0⟩
  have key : ∀ u, H a = some u → (u = .lst (ns.map V.int) ∨ ∃ o, u = .frz o (.lst (ns.map V.int))) → ∃ H0 w, Holds C H0 w [] H ∧ Rep C.K w (.ref a) (.ro (ns.map D.int)) := fun u hu e => by
    refine ⟨_, ⟨[], [(a, u)]⟩, ⟨fun q hq => ?_, old, rfl, List.nodup_nil, fun _ z => absurd z List.not_mem_nil, fun _ _ z => absurd z List.not_mem_nil, fun q hq t => ?_, fun n b o h1 h2 => by simp at h1, tab⟩, ?_⟩
    · rw [List.mem_singleton.mp hq]
      exact hu
    · rw [List.mem_singleton.mp hq]
      rcases e with rfl | ⟨o, rfl⟩ <;> exact fun z => by cases z
    · exact .ro (.inl ⟨u, List.mem_cons_self .., e⟩) (hp ⟨[], []⟩).length fun i x d h1 h2 => pr_get2 (hp _) h1 h2
  rcases hS with (h | ⟨o, h⟩) | h
  · exact key _ h (.inl rfl)
  · exact key _ h (.inr ⟨o, rfl⟩)
  · refine ⟨_, ⟨[], []⟩, ⟨fun q hq => absurd hq List.not_mem_nil, old, rfl, List.nodup_nil, fun _ z => absurd z List.not_mem_nil, fun _ _ z => absurd z List.not_mem_nil, fun q hq => absurd hq List.not_mem_nil, fun n b o h1 h2 => by simp at h1, tab⟩, ?_⟩
    exact .ro (.inr fun H => .inr h) (hp ⟨[], []⟩).length fun i x d h1 h2 => pr_get2 (hp _) h1 h2
end DT

set_option Elab.async false
set_option linter.all false
set_option maxRecDepth 100000
set_option maxHeartbeats 4000000
namespace K68
open PySem PySem.Spec PyProof.Rows L2 DT
abbrev d_GIVES_NOTHING : D := .tup [.str "clear", .str "store", .str "jump", .str "below", .str "call", .str "ret", .str "halt"]
abbrev d_NO_CELL : D := .tup [.int (-1), .int (0)]
abbrev d_CARRYING : D := .tup [.str "add", .str "addc", .str "sub", .str "subc"]
abbrev d_CHAINED : D := .tup [.str "addc", .str "subc"]
abbrev d_SHIFTS : D := .tup [.str "down", .str "up"]
/-- joined_flow: names flows -/
noncomputable def b_joined_flow : XS :=
  (xRet (xIf (xTest (xOp (gIn false) (xC (.str "secret")) (xVar 0))) (xC (.str "secret")) (xC (.str "public"))))
@[irreducible] noncomputable def wp_joined_flow : XF := lock (xFn 0 b_joined_flow)
theorem eq_joined_flow : wp_joined_flow = xFn 0 b_joined_flow := by
  unfold wp_joined_flow
  exact lock_eq _
/-- mask: names count -/
noncomputable def b_mask : XS :=
  (xRet (xOp (gI0 fun i j => .int (i - j)) (xOp (gI CShl fun i j => .int (i * 2 ^ j.toNat)) (xC (.int 1)) (xVar 0)) (xC (.int 1))))
@[irreducible] noncomputable def wp_mask : XF := lock (xFn 0 b_mask)
theorem eq_mask : wp_mask = xFn 0 b_mask := by
  unfold wp_mask
  exact lock_eq _
/-- given_register: names instruction -/
noncomputable def b_given_register : XS :=
  (xSeq (xIfS (xTest (xOp (gIn false) (xOp gIx (xVar 0) (xC (.int 0))) (xC d_GIVES_NOTHING)))
(xRet (xUn gNeg (xC (.int 1))))
xNext)
(xRet (xOp gIx (xVar 0) (xC (.int 1)))))
@[irreducible] noncomputable def wp_given_register : XF := lock (xFn 0 b_given_register)
theorem eq_given_register : wp_given_register = xFn 0 b_given_register := by
  unfold wp_given_register
  exact lock_eq _
/-- region_end: names region -/
noncomputable def b_region_end : XS :=
  (xRet (xOp gAdd (xOp gIx (xVar 0) (xC (.int 0))) (xOp gIx (xVar 0) (xC (.int 1)))))
@[irreducible] noncomputable def wp_region_end : XF := lock (xFn 0 b_region_end)
theorem eq_region_end : wp_region_end = xFn 0 b_region_end := by
  unfold wp_region_end
  exact lock_eq _
/-- addresses: names state, instruction, _, least, greatest, offset -/
noncomputable def b_addresses : XS :=
  (xSeq (xAsg (xOp gIx (xVar 0) (xOp gIx (xVar 1) (xC (.int 2)))) (xGTup 5 (xGCons (xName 2) (xGCons (xName 3) (xGCons (xName 4) (xGCons (xName 2) (xGCons (xName 2) xGNil)))))))
(xSeq (xAsg (xOp gIx (xVar 1) (xC (.int 3))) (xName 5))
(xRet (xTup (xCons (xOp gAdd (xVar 3) (xVar 5)) (xCons (xOp gAdd (xVar 4) (xVar 5)) xNil))))))
@[irreducible] noncomputable def wp_addresses : XF := lock (xFn 4 b_addresses)
theorem eq_addresses : wp_addresses = xFn 4 b_addresses := by
  unfold wp_addresses
  exact lock_eq _
/-- without_cell: names fact -/
noncomputable def b_without_cell : XS :=
  (xRet (xTupS (xStar (xSl gSl (xVar 0) xNoPart (xPart (xC (.int 3)))) (xStar (xC d_NO_CELL) xNil))))
@[irreducible] noncomputable def wp_without_cell : XF := lock (xFn 0 b_without_cell)
theorem eq_without_cell : wp_without_cell = xFn 0 b_without_cell := by
  unfold wp_without_cell
  exact lock_eq _
/-- cell_of_sum: names first, second, _, least, greatest, most, cell, plus -/
noncomputable def b_cell_of_sum : XS :=
  (xSeq (xAsg (xVar 1) (xGTup 5 (xGCons (xName 2) (xGCons (xName 3) (xGCons (xName 4) (xGCons (xName 2) (xGCons (xName 2) xGNil)))))))
(xSeq (xAsg (xVar 0) (xGTup 5 (xGCons (xName 2) (xGCons (xName 2) (xGCons (xName 5) (xGCons (xName 6) (xGCons (xName 7) xGNil)))))))
(xSeq (xIfS (xOr (xTest (xOp (gEq false) (xVar 6) (xUn gNeg (xC (.int 1))))) (xOr (xTest (xOp (gEq true) (xVar 3) (xVar 4))) (xOr (xTest (xOp (gI0 fun i j => .bl (decide (j < i))) (xOp gAdd (xVar 5) (xVar 4)) (xC (.int (65535))))) (xTest (xOp (gI0 fun i j => .bl (decide (j < i))) (xOp gAdd (xVar 7) (xVar 3)) (xC (.int (65535))))))))
(xRet (xC d_NO_CELL))
xNext)
(xRet (xTup (xCons (xVar 6) (xCons (xOp gAdd (xVar 7) (xVar 3)) xNil)))))))
@[irreducible] noncomputable def wp_cell_of_sum : XF := lock (xFn 6 b_cell_of_sum)
theorem eq_cell_of_sum : wp_cell_of_sum = xFn 6 b_cell_of_sum := by
  unfold wp_cell_of_sum
  exact lock_eq _
/-- as_words: names least, greatest -/
noncomputable def b_as_words : XS :=
  (xSeq (xIfS (xOr (xTest (xOp (gI0 fun i j => .bl (decide (i < j))) (xVar 0) (xC (.int 0)))) (xTest (xOp (gI0 fun i j => .bl (decide (j < i))) (xVar 1) (xC (.int (65535))))))
(xRet (xTup (xCons (xC (.int 0)) (xCons (xC (.int (65535))) xNil))))
xNext)
(xRet (xTup (xCons (xVar 0) (xCons (xVar 1) xNil)))))
@[irreducible] noncomputable def wp_as_words : XF := lock (xFn 0 b_as_words)
theorem eq_as_words : wp_as_words = xFn 0 b_as_words := by
  unfold wp_as_words
  exact lock_eq _
/-- _law_source, from: state = int(cell * 7919 + k * 104729 + 12345) % 2147483647 -/
@[irreducible] noncomputable def c_law_source_1 : XS := lock
  (xSeq (xAsg (xOp (gI (fun _ j => 0 < j) fun i j => .int (i % j)) (xCall fInt (xCons (xOp gAdd (xOp gAdd (xOp gMul (xVar 2) (xC (.int 7919))) (xOp gMul (xVar 1) (xC (.int 104729)))) (xC (.int 12345))) xNil)) (xC (.int 2147483647))) (xName 3))
(xSeq (xIfS (xTest (xOp (gI0 fun i j => .bl (decide (i < j))) (xVar 2) (xOp (gI CPow fun i j => .int (i ^ j.toNat)) (xC (.int 10)) (xC (.int 18)))))
(xRet (xLst (xCons (xC (.int 0)) (xCons (xVar 3) xNil))))
xNext)
(xRet (xLst (xCons (xVar 2) (xCons (xVar 3) xNil))))))
theorem eqc_law_source_1 : c_law_source_1 =
  (xSeq (xAsg (xOp (gI (fun _ j => 0 < j) fun i j => .int (i % j)) (xCall fInt (xCons (xOp gAdd (xOp gAdd (xOp gMul (xVar 2) (xC (.int 7919))) (xOp gMul (xVar 1) (xC (.int 104729)))) (xC (.int 12345))) xNil)) (xC (.int 2147483647))) (xName 3))
(xSeq (xIfS (xTest (xOp (gI0 fun i j => .bl (decide (i < j))) (xVar 2) (xOp (gI CPow fun i j => .int (i ^ j.toNat)) (xC (.int 10)) (xC (.int 18)))))
(xRet (xLst (xCons (xC (.int 0)) (xCons (xVar 3) xNil))))
xNext)
(xRet (xLst (xCons (xVar 2) (xCons (xVar 3) xNil)))))) := by
  unfold c_law_source_1
  exact lock_eq _
/-- _law_source: names script, k, cell, state -/
noncomputable def b_law_source : XS :=
  (xSeq (xAsg (xC (.int 0)) (xName 2))
(xSeq (xIfS (xTest (xOp (gI0 fun i j => .bl (decide (j < i))) (xCall fLen (xCons (xVar 0) xNil)) (xC (.int 0))))
(xAsg (xCall fAbs (xCons (xOp gIx (xVar 0) (xOp (gI (fun _ j => 0 < j) fun i j => .int (i % j)) (xVar 1) (xCall fLen (xCons (xVar 0) xNil)))) xNil)) (xName 2))
xNext)
c_law_source_1))
@[irreducible] noncomputable def wp_law_source : XF := lock (xFn 2 b_law_source)
theorem eq_law_source : wp_law_source = xFn 2 b_law_source := by
  unfold wp_law_source
  exact lock_eq _
/-- _law_draw: names source, many, worth -/
noncomputable def b_law_draw : XS :=
  (xSeq (xIfS (xTest (xOp (gI0 fun i j => .bl (decide (j < i))) (xOp gIx (xVar 0) (xC (.int 0))) (xC (.int 0))))
(xSeq (xAsg (xOp (gI (fun _ j => 0 < j) fun i j => .int (i % j)) (xCall fInt (xCons (xOp gIx (xVar 0) (xC (.int 0))) xNil)) (xVar 1)) (xName 2))
(xSeq (xAsg (xOp (gI CDivW fun i j => .int (i / j)) (xOp gIx (xVar 0) (xC (.int 0))) (xVar 1)) (xSub (xVar 0) (xC (.int 0))))
(xRet (xVar 2))))
xNext)
(xSeq (xAsg (xOp (gI (fun _ j => 0 < j) fun i j => .int (i % j)) (xCall fInt (xCons (xOp gAdd (xOp gMul (xOp gIx (xVar 0) (xC (.int 1))) (xC (.int 48271))) (xC (.int 11))) xNil)) (xC (.int 2147483647))) (xSub (xVar 0) (xC (.int 1))))
(xRet (xOp (gI (fun _ j => 0 < j) fun i j => .int (i % j)) (xOp (gI (fun _ j => 0 < j) fun i j => .int (i % j)) (xCall fInt (xCons (xOp gAdd (xOp gMul (xOp (gI CDivW fun i j => .int (i / j)) (xOp gIx (xVar 0) (xC (.int 1))) (xC (.int 11))) (xC (.int 69621))) (xOp gMul (xOp (gI (fun _ j => 0 < j) fun i j => .int (i % j)) (xOp gIx (xVar 0) (xC (.int 1))) (xC (.int 509))) (xC (.int 40692)))) xNil)) (xC (.int 2147483399))) (xVar 1)))))
@[irreducible] noncomputable def wp_law_draw : XF := lock (xFn 1 b_law_draw)
theorem eq_law_draw : wp_law_draw = xFn 1 b_law_draw := by
  unfold wp_law_draw
  exact lock_eq _
/-- _law_flow_at: names layout, address, start, size, flow, most -/
noncomputable def b_law_flow_at : XS :=
  (xSeq (xFor (xSeqIt (xVar 0)) (xGTup 4 (xGCons (xName 2) (xGCons (xName 3) (xGCons (xName 4) (xGCons (xName 5) xGNil)))))
(xIfS (xTest (xChain (gI0 fun i j => .bl (decide (i ≤ j))) (gI0 fun i j => .bl (decide (i < j))) (xVar 2) (xVar 1) (xOp gAdd (xVar 2) (xVar 3))))
(xRet (xVar 4))
xNext))
(xRet (xC (.str ""))))
@[irreducible] noncomputable def wp_law_flow_at : XF := lock (xFn 4 b_law_flow_at)
theorem eq_law_flow_at : wp_law_flow_at = xFn 4 b_law_flow_at := by
  unfold wp_law_flow_at
  exact lock_eq _
/-- _law_most_at: names layout, address, start, size, flow, most -/
noncomputable def b_law_most_at : XS :=
  (xSeq (xFor (xSeqIt (xVar 0)) (xGTup 4 (xGCons (xName 2) (xGCons (xName 3) (xGCons (xName 4) (xGCons (xName 5) xGNil)))))
(xIfS (xTest (xChain (gI0 fun i j => .bl (decide (i ≤ j))) (gI0 fun i j => .bl (decide (i < j))) (xVar 2) (xVar 1) (xOp gAdd (xVar 2) (xVar 3))))
(xRet (xVar 5))
xNext))
(xRet (xUn gNeg (xC (.int 1)))))
@[irreducible] noncomputable def wp_law_most_at : XF := lock (xFn 4 b_law_most_at)
theorem eq_law_most_at : wp_law_most_at = xFn 4 b_law_most_at := by
  unfold wp_law_most_at
  exact lock_eq _
/-- _law_compute: names name, a, b, c, total -/
noncomputable def b_law_compute : XS :=
  (xSeq (xIfS (xTest (xOp (gIn false) (xVar 0) (xTup (xCons (xC (.str "add")) (xCons (xC (.str "addc")) xNil)))))
(xSeq (xAsg (xOp gAdd (xOp gAdd (xVar 1) (xVar 2)) (xOp gMul (xVar 3) (xCall fInt (xCons (xOp (gEq false) (xVar 0) (xC (.str "addc"))) xNil)))) (xName 4))
(xRet (xLst (xCons (xOp (gI (fun _ j => 0 < j) fun i j => .int (i % j)) (xVar 4) (xC (.int 65536))) (xCons (xOp (gI CDivW fun i j => .int (i / j)) (xVar 4) (xC (.int 65536))) xNil)))))
xNext)
(xSeq (xIfS (xTest (xOp (gIn false) (xVar 0) (xTup (xCons (xC (.str "sub")) (xCons (xC (.str "subc")) xNil)))))
(xSeq (xAsg (xOp (gI0 fun i j => .int (i - j)) (xOp (gI0 fun i j => .int (i - j)) (xVar 1) (xVar 2)) (xOp gMul (xVar 3) (xCall fInt (xCons (xOp (gEq false) (xVar 0) (xC (.str "subc"))) xNil)))) (xName 4))
(xRet (xLst (xCons (xOp (gI (fun _ j => 0 < j) fun i j => .int (i % j)) (xVar 4) (xC (.int 65536))) (xCons (xCall fInt (xCons (xOp (gI0 fun i j => .bl (decide (i < j))) (xVar 4) (xC (.int 0))) xNil)) xNil)))))
xNext)
(xSeq (xIfS (xOr (xTest (xOp (gEq false) (xVar 0) (xC (.str "mul")))) (xTest (xOp (gEq false) (xVar 0) (xC (.str "high")))))
(xRet (xLst (xCons (xOp gIx (xRo (xCons (xOp (gI CDivW fun i j => .int (i / j)) (xOp gMul (xVar 1) (xVar 2)) (xC (.int 65536))) (xCons (xOp (gI (fun _ j => 0 < j) fun i j => .int (i % j)) (xOp gMul (xVar 1) (xVar 2)) (xC (.int 65536))) xNil))) (xCall fInt (xCons (xOp (gEq false) (xVar 0) (xC (.str "mul"))) xNil))) (xCons (xVar 3) xNil))))
xNext)
(xSeq (xIfS (xTest (xOp (gEq false) (xVar 0) (xC (.str "div"))))
(xSeq (xIfS (xTest (xOp (gEq false) (xVar 2) (xC (.int 0))))
(xRet (xLst (xCons (xC (.int 65535)) (xCons (xVar 3) xNil))))
xNext)
(xRet (xLst (xCons (xOp (gI CDivW fun i j => .int (i / j)) (xVar 1) (xVar 2)) (xCons (xVar 3) xNil)))))
xNext)
(xSeq (xIfS (xTest (xOp (gEq false) (xVar 0) (xC (.str "and"))))
(xRet (xLst (xCons (xOp (gI0 fun i j => .int (Builtin.bitAnd i j)) (xVar 1) (xVar 2)) (xCons (xVar 3) xNil))))
xNext)
(xSeq (xIfS (xTest (xOp (gEq false) (xVar 0) (xC (.str "or"))))
(xRet (xLst (xCons (xOp (gI0 fun i j => .int (Builtin.bitOr i j)) (xVar 1) (xVar 2)) (xCons (xVar 3) xNil))))
xNext)
(xSeq (xIfS (xTest (xOp (gEq false) (xVar 0) (xC (.str "xor"))))
(xRet (xLst (xCons (xOp (gI0 fun i j => .int (Builtin.bitXor i j)) (xVar 1) (xVar 2)) (xCons (xVar 3) xNil))))
xNext)
(xSeq (xIfS (xTest (xOp (gEq false) (xVar 0) (xC (.str "less"))))
(xRet (xLst (xCons (xCall fInt (xCons (xOp (gI0 fun i j => .bl (decide (i < j))) (xVar 1) (xVar 2)) xNil)) (xCons (xVar 3) xNil))))
xNext)
(xSeq (xIfS (xTest (xOp (gEq false) (xVar 0) (xC (.str "up"))))
(xRet (xLst (xCons (xOp (gI (fun _ j => 0 < j) fun i j => .int (i % j)) (xOp (gI CShl fun i j => .int (i * 2 ^ j.toNat)) (xVar 1) (xVar 2)) (xC (.int 65536))) (xCons (xVar 3) xNil))))
xNext)
(xRet (xLst (xCons (xOp (gI (fun _ j => 0 ≤ j) fun i j => .int (i / 2 ^ j.toNat)) (xVar 1) (xOp (gI (fun _ j => 0 < j) fun i j => .int (i % j)) (xVar 2) (xC (.int 16)))) (xCons (xVar 3) xNil)))))))))))))
@[irreducible] noncomputable def wp_law_compute : XF := lock (xFn 1 b_law_compute)
theorem eq_law_compute : wp_law_compute = xFn 1 b_law_compute := by
  unfold wp_law_compute
  exact lock_eq _
/-- _law_true: names fact, word, memory -/
noncomputable def b_law_true : XS :=
  (xSeq (xIfS (xOr (xNot (xTru (xCall fIsi (xCons (xVar 0) (xCons (xC (.con (.ty "tuple"))) xNil))))) (xTest (xOp (gEq true) (xCall fLen (xCons (xVar 0) xNil)) (xC (.int 5)))))
(xRet (xC (.bl false)))
xNext)
(xSeq (xIfS (xNot (xTest (xChain (gI0 fun i j => .bl (decide (i ≤ j))) (gI0 fun i j => .bl (decide (i ≤ j))) (xOp gIx (xVar 0) (xC (.int 1))) (xVar 1) (xOp gIx (xVar 0) (xC (.int 2))))))
(xRet (xC (.bl false)))
xNext)
(xRet (xOrT (xOp (gEq false) (xOp gIx (xVar 0) (xC (.int 3))) (xUn gNeg (xC (.int 1)))) (xAndT (xOp (gI0 fun i j => .bl (decide (i < j))) (xOp gIx (xVar 0) (xC (.int 3))) (xCall fLen (xCons (xVar 2) xNil))) (xOp (gEq false) (xVar 1) (xOp gAdd (xOp gIx (xVar 2) (xOp gIx (xVar 0) (xC (.int 3)))) (xOp gIx (xVar 0) (xC (.int 4))))))))))
@[irreducible] noncomputable def wp_law_true : XF := lock (xFn 0 b_law_true)
theorem eq_law_true : wp_law_true = xFn 0 b_law_true := by
  unfold wp_law_true
  exact lock_eq _
/-- region_at: names layout, address, low, high, middle -/
noncomputable def b_region_at : XS :=
  (xSeq (xAsg (xC (.int 0)) (xName 2))
(xSeq (xAsg (xCall fLen (xCons (xVar 0) xNil)) (xName 3))
(xSeq (xWhile (xTest (xOp (gI0 fun i j => .bl (decide (i < j))) (xVar 2) (xVar 3)))
(xSeq (xAsg (xOp (gI CDivW fun i j => .int (i / j)) (xOp gAdd (xVar 2) (xVar 3)) (xC (.int 2))) (xName 4))
(xIfS (xTest (xOp (gI0 fun i j => .bl (decide (i ≤ j))) (xOp gIx (xOp gIx (xVar 0) (xVar 4)) (xC (.int 0))) (xVar 1)))
(xAsg (xOp gAdd (xVar 4) (xC (.int 1))) (xName 2))
(xAsg (xVar 4) (xName 3)))))
(xSeq (xIfS (xOr (xTest (xOp (gEq false) (xVar 2) (xC (.int 0)))) (xTest (xOp (gI0 fun i j => .bl (decide (j ≤ i))) (xVar 1) (xCall wp_region_end (xCons (xOp gIx (xVar 0) (xOp (gI0 fun i j => .int (i - j)) (xVar 2) (xC (.int 1)))) xNil)))))
(xRet (xUn gNeg (xC (.int 1))))
xNext)
(xRet (xOp (gI0 fun i j => .int (i - j)) (xVar 2) (xC (.int 1))))))))
@[irreducible] noncomputable def wp_region_at : XF := lock (xFn 3 b_region_at)
theorem eq_region_at : wp_region_at = xFn 3 b_region_at := by
  unfold wp_region_at
  exact lock_eq _
/-- shifted: names name, least, greatest, count -/
noncomputable def b_shifted : XS :=
  (xSeq (xIfS (xTest (xOp (gEq false) (xVar 0) (xC (.str "down"))))
(xRet (xTup (xCons (xOp (gI (fun _ j => 0 ≤ j) fun i j => .int (i / 2 ^ j.toNat)) (xVar 1) (xVar 3)) (xCons (xOp (gI (fun _ j => 0 ≤ j) fun i j => .int (i / 2 ^ j.toNat)) (xVar 2) (xVar 3)) xNil))))
xNext)
(xRet (xCall wp_as_words (xCons (xOp (gI CShl fun i j => .int (i * 2 ^ j.toNat)) (xVar 1) (xVar 3)) (xCons (xOp (gI CShl fun i j => .int (i * 2 ^ j.toNat)) (xVar 2) (xVar 3)) xNil)))))
@[irreducible] noncomputable def wp_shifted : XF := lock (xFn 0 b_shifted)
theorem eq_shifted : wp_shifted = xFn 0 b_shifted := by
  unfold wp_shifted
  exact lock_eq _
/-- top_of_bits: names name, high, greatest -/
noncomputable def b_top_of_bits : XS :=
  (xSeq (xIfS (xTest (xOp (gEq false) (xVar 0) (xC (.str "and"))))
(xRet (xCall fMin (xCons (xVar 1) (xCons (xVar 2) xNil))))
xNext)
(xSeq (xIfS (xTest (xOp (gIn false) (xVar 0) (xTup (xCons (xC (.str "or")) (xCons (xC (.str "xor")) xNil)))))
(xRet (xCall wp_mask (xCons (xBits (xCall fMax (xCons (xVar 1) (xCons (xVar 2) xNil)))) xNil)))
xNext)
(xSeq (xIfS (xTest (xOp (gEq false) (xVar 0) (xC (.str "less"))))
(xRet (xC (.int 1)))
xNext)
(xRet (xVar 1)))))
@[irreducible] noncomputable def wp_top_of_bits : XF := lock (xFn 0 b_top_of_bits)
theorem eq_top_of_bits : wp_top_of_bits = xFn 0 b_top_of_bits := by
  unfold wp_top_of_bits
  exact lock_eq _
/-- _law_word: names source -/
noncomputable def b_law_word : XS :=
  (xRet (xOp gIx (xRo (xCons (xC (.int 0)) (xCons (xC (.int 1)) (xCons (xC (.int 2)) (xCons (xC (.int 255)) (xCons (xC (.int 256)) (xCons (xC (.int 32767)) (xCons (xC (.int 32768)) (xCons (xC (.int 65534)) (xCons (xC (.int 65535)) (xCons (xCall wp_law_draw (xCons (xVar 0) (xCons (xC (.int 65536)) xNil))) xNil))))))))))) (xCall fMin (xCons (xC (.int 9)) (xCons (xCall wp_law_draw (xCons (xVar 0) (xCons (xC (.int 14)) xNil))) xNil)))))
@[irreducible] noncomputable def wp_law_word : XF := lock (xFn 0 b_law_word)
theorem eq_law_word : wp_law_word = xFn 0 b_law_word := by
  unfold wp_law_word
  exact lock_eq _
/-- _law_layout: names source, first, start, most, flows -/
noncomputable def b_law_layout : XS :=
  (xSeq (xAsg (xOp gAdd (xC (.int 1)) (xCall wp_law_draw (xCons (xVar 0) (xCons (xC (.int 6)) xNil)))) (xName 1))
(xSeq (xAsg (xOp gAdd (xVar 1) (xCall wp_law_draw (xCons (xVar 0) (xCons (xC (.int 3)) xNil)))) (xName 2))
(xSeq (xAsg (xOp gIx (xRo (xCons (xC (.int 65535)) (xCons (xC (.int 7)) (xCons (xCall wp_law_draw (xCons (xVar 0) (xCons (xC (.int 65536)) xNil))) xNil)))) (xCall wp_law_draw (xCons (xVar 0) (xCons (xC (.int 3)) xNil)))) (xName 3))
(xSeq (xAsg (xOp gIx (xRo (xCons (xLst (xCons (xC (.str "public")) (xCons (xC (.str "secret")) xNil))) (xCons (xLst (xCons (xC (.str "secret")) (xCons (xC (.str "public")) xNil))) xNil))) (xCall wp_law_draw (xCons (xVar 0) (xCons (xC (.int 2)) xNil)))) (xName 4))
(xRet (xTup (xCons (xTup (xCons (xC (.int 0)) (xCons (xVar 1) (xCons (xOp gIx (xVar 4) (xC (.int 0))) (xCons (xVar 3) xNil))))) (xCons (xTup (xCons (xVar 2) (xCons (xOp gAdd (xC (.int 1)) (xCall wp_law_draw (xCons (xVar 0) (xCons (xC (.int 6)) xNil)))) (xCons (xOp gIx (xVar 4) (xC (.int 1))) (xCons (xOp gIx (xRo (xCons (xC (.int 65535)) (xCons (xVar 3) xNil))) (xCall wp_law_draw (xCons (xVar 0) (xCons (xC (.int 2)) xNil)))) xNil))))) xNil))))))))
@[irreducible] noncomputable def wp_law_layout : XF := lock (xFn 4 b_law_layout)
theorem eq_law_layout : wp_law_layout = xFn 4 b_law_layout := by
  unfold wp_law_layout
  exact lock_eq _
/-- _law_memories, from: left.append(word) -/
@[irreducible] noncomputable def c_law_memories_1 : XS := lock
  (xSeq (xDrop (xBL gAppend (xVar 3) (xCons (xVar 7) xNil)))
(xDrop (xBL gAppend (xVar 4) (xCons (xVar 8) xNil))))
theorem eqc_law_memories_1 : c_law_memories_1 =
  (xSeq (xDrop (xBL gAppend (xVar 3) (xCons (xVar 7) xNil)))
(xDrop (xBL gAppend (xVar 4) (xCons (xVar 8) xNil)))) := by
  unfold c_law_memories_1
  exact lock_eq _
/-- _law_memories: names source, layout, end, left, right, address, most, word, other -/
noncomputable def b_law_memories : XS :=
  (xSeq (xAsg (xOp gAdd (xOp gIx (xOp gIx (xVar 1) (xC (.int 1))) (xC (.int 0))) (xOp gIx (xOp gIx (xVar 1) (xC (.int 1))) (xC (.int 1)))) (xName 2))
(xSeq (xAsg (xLst xNil) (xName 3))
(xSeq (xAsg (xLst xNil) (xName 4))
(xSeq (xFor (xRng1 (xCons (xVar 2) xNil)) (xName 5)
(xSeq (xAsg (xCall fMax (xCons (xC (.int 0)) (xCons (xCall wp_law_most_at (xCons (xVar 1) (xCons (xVar 5) xNil))) xNil))) (xName 6))
(xSeq (xAsg (xOp gIx (xRo (xCons (xC (.int 0)) (xCons (xVar 6) (xCons (xCall wp_law_draw (xCons (xVar 0) (xCons (xOp gAdd (xVar 6) (xC (.int 1))) xNil))) xNil)))) (xCall wp_law_draw (xCons (xVar 0) (xCons (xC (.int 3)) xNil)))) (xName 7))
(xSeq (xAsg (xOp gIx (xRo (xCons (xVar 7) (xCons (xCall wp_law_draw (xCons (xVar 0) (xCons (xOp gAdd (xVar 6) (xC (.int 1))) xNil))) xNil))) (xCall wp_law_draw (xCons (xVar 0) (xCons (xC (.int 2)) xNil)))) (xName 8))
(xSeq (xIfS (xTest (xOp (gEq false) (xCall wp_law_flow_at (xCons (xVar 1) (xCons (xVar 5) xNil))) (xC (.str "public"))))
(xAsg (xVar 7) (xName 8))
xNext)
c_law_memories_1)))))
(xRet (xLst (xCons (xVar 3) (xCons (xVar 4) xNil))))))))
@[irreducible] noncomputable def wp_law_memories : XF := lock (xFn 7 b_law_memories)
theorem eq_law_memories : wp_law_memories = xFn 7 b_law_memories := by
  unfold wp_law_memories
  exact lock_eq _
/-- _law_done, from: answer = _law_compute(name, words[row[2]], second, carry) -/
@[irreducible] noncomputable def c_law_done_1 : XS := lock
  (xSeq (xAsg (xCall wp_law_compute (xCons (xVar 5) (xCons (xOp gIx (xVar 2) (xOp gIx (xVar 1) (xC (.int 2)))) (xCons (xVar 8) (xCons (xVar 4) xNil))))) (xName 9))
(xSeq (xAsg (xOp gIx (xVar 9) (xC (.int 0))) (xSub (xVar 2) (xOp gIx (xVar 1) (xC (.int 1)))))
(xAsg (xOp gIx (xVar 9) (xC (.int 1))) (xName 4))))
theorem eqc_law_done_1 : c_law_done_1 =
  (xSeq (xAsg (xCall wp_law_compute (xCons (xVar 5) (xCons (xOp gIx (xVar 2) (xOp gIx (xVar 1) (xC (.int 2)))) (xCons (xVar 8) (xCons (xVar 4) xNil))))) (xName 9))
(xSeq (xAsg (xOp gIx (xVar 9) (xC (.int 0))) (xSub (xVar 2) (xOp gIx (xVar 1) (xC (.int 1)))))
(xAsg (xOp gIx (xVar 9) (xC (.int 1))) (xName 4)))) := by
  unfold c_law_done_1
  exact lock_eq _
/-- _law_done, from: return carry -/
@[irreducible] noncomputable def c_law_done_2 : XS := lock
  (xRet (xVar 4))
theorem eqc_law_done_2 : c_law_done_2 =
  (xRet (xVar 4)) := by
  unfold c_law_done_2
  exact lock_eq _
/-- _law_done: names layout, row, words, memory, carry, name, address, most, second, answer -/
noncomputable def b_law_done : XS :=
  (xSeq (xAsg (xOp gIx (xVar 1) (xC (.int 0))) (xName 5))
(xSeq (xIfS (xTest (xOp (gEq false) (xVar 5) (xC (.str "clear"))))
(xRet (xC (.int 0)))
xNext)
(xSeq (xIfS (xTest (xOp (gEq false) (xVar 5) (xC (.str "set"))))
(xAsg (xOp gIx (xVar 1) (xC (.int 2))) (xSub (xVar 2) (xOp gIx (xVar 1) (xC (.int 1)))))
(xIfS (xTest (xOp (gEq false) (xVar 5) (xC (.str "move"))))
(xAsg (xOp gIx (xVar 2) (xOp gIx (xVar 1) (xC (.int 2)))) (xSub (xVar 2) (xOp gIx (xVar 1) (xC (.int 1)))))
(xIfS (xTest (xOp (gEq false) (xVar 5) (xC (.str "carry"))))
(xAsg (xVar 4) (xSub (xVar 2) (xOp gIx (xVar 1) (xC (.int 1)))))
(xIfS (xOr (xTest (xOp (gEq false) (xVar 5) (xC (.str "load")))) (xTest (xOp (gEq false) (xVar 5) (xC (.str "store")))))
(xSeq (xAsg (xOp gAdd (xOp gIx (xVar 2) (xOp gIx (xVar 1) (xC (.int 2)))) (xOp gIx (xVar 1) (xC (.int 3)))) (xName 6))
(xSeq (xAsg (xCall wp_law_most_at (xCons (xVar 0) (xCons (xVar 6) xNil))) (xName 7))
(xSeq (xIfS (xOr (xTest (xOp (gI0 fun i j => .bl (decide (i < j))) (xVar 7) (xC (.int 0)))) (xAnd (xTest (xOp (gEq false) (xVar 5) (xC (.str "store")))) (xTest (xOp (gI0 fun i j => .bl (decide (j < i))) (xOp gIx (xVar 2) (xOp gIx (xVar 1) (xC (.int 1)))) (xVar 7)))))
(xRet (xUn gNeg (xC (.int 1))))
xNext)
(xIfS (xTest (xOp (gEq false) (xVar 5) (xC (.str "load"))))
(xAsg (xOp gIx (xVar 3) (xVar 6)) (xSub (xVar 2) (xOp gIx (xVar 1) (xC (.int 1)))))
(xAsg (xOp gIx (xVar 2) (xOp gIx (xVar 1) (xC (.int 1)))) (xSub (xVar 3) (xVar 6)))))))
(xSeq (xAsg (xOp gIx (xVar 1) (xC (.int 3))) (xName 8))
(xSeq (xIfS (xAnd (xTest (xOp (gEq true) (xVar 5) (xC (.str "down")))) (xTest (xOp (gEq true) (xVar 5) (xC (.str "up")))))
(xAsg (xOp gIx (xVar 2) (xOp gIx (xVar 1) (xC (.int 3)))) (xName 8))
xNext)
c_law_done_1))))))
c_law_done_2)))
@[irreducible] noncomputable def wp_law_done : XF := lock (xFn 5 b_law_done)
theorem eq_law_done : wp_law_done = xFn 5 b_law_done := by
  unfold wp_law_done
  exact lock_eq _
/-- safe_region: names layout, least, greatest, index -/
noncomputable def b_safe_region : XS :=
  (xSeq (xAsg (xCall wp_region_at (xCons (xVar 0) (xCons (xVar 1) xNil))) (xName 3))
(xSeq (xIfS (xOr (xTest (xOp (gEq false) (xVar 3) (xUn gNeg (xC (.int 1))))) (xTest (xOp (gI0 fun i j => .bl (decide (j ≤ i))) (xVar 2) (xCall wp_region_end (xCons (xOp gIx (xVar 0) (xVar 3)) xNil)))))
(xRet (xC .non))
xNext)
(xRet (xOp gIx (xVar 0) (xVar 3)))))
@[irreducible] noncomputable def wp_safe_region : XF := lock (xFn 1 b_safe_region)
theorem eq_safe_region : wp_safe_region = xFn 1 b_safe_region := by
  unfold wp_safe_region
  exact lock_eq _
/-- operated: names name, first, second, _, low, high, least, greatest, more -/
noncomputable def b_operated : XS :=
  (xSeq (xAsg (xVar 1) (xGTup 5 (xGCons (xName 3) (xGCons (xName 4) (xGCons (xName 5) (xGCons (xName 3) (xGCons (xName 3) xGNil)))))))
(xSeq (xAsg (xVar 2) (xGTup 5 (xGCons (xName 3) (xGCons (xName 6) (xGCons (xName 7) (xGCons (xName 3) (xGCons (xName 3) xGNil)))))))
(xSeq (xIfS (xTest (xOp (gIn false) (xVar 0) (xC d_CARRYING)))
(xSeq (xAsg (xIf (xTest (xOp (gIn false) (xVar 0) (xC d_CHAINED))) (xC (.int 1)) (xC (.int 0))) (xName 8))
(xSeq (xIfS (xTest (xOp (gIn false) (xVar 0) (xTup (xCons (xC (.str "add")) (xCons (xC (.str "addc")) xNil)))))
(xRet (xCall wp_as_words (xCons (xOp gAdd (xVar 4) (xVar 6)) (xCons (xOp gAdd (xOp gAdd (xVar 5) (xVar 7)) (xVar 8)) xNil))))
xNext)
(xRet (xCall wp_as_words (xCons (xOp (gI0 fun i j => .int (i - j)) (xOp (gI0 fun i j => .int (i - j)) (xVar 4) (xVar 7)) (xVar 8)) (xCons (xOp (gI0 fun i j => .int (i - j)) (xVar 5) (xVar 6)) xNil))))))
xNext)
(xSeq (xIfS (xTest (xOp (gEq false) (xVar 0) (xC (.str "mul"))))
(xRet (xCall wp_as_words (xCons (xOp gMul (xVar 4) (xVar 6)) (xCons (xOp gMul (xVar 5) (xVar 7)) xNil))))
xNext)
(xSeq (xIfS (xTest (xOp (gEq false) (xVar 0) (xC (.str "high"))))
(xRet (xTup (xCons (xOp (gI CDivW fun i j => .int (i / j)) (xOp gMul (xVar 4) (xVar 6)) (xC (.int (65536)))) (xCons (xOp (gI CDivW fun i j => .int (i / j)) (xOp gMul (xVar 5) (xVar 7)) (xC (.int (65536)))) xNil))))
xNext)
(xSeq (xIfS (xTest (xOp (gEq false) (xVar 0) (xC (.str "div"))))
(xRet (xIf (xTest (xOp (gI0 fun i j => .bl (decide (j ≤ i))) (xVar 6) (xC (.int 1)))) (xTup (xCons (xOp (gI CDivW fun i j => .int (i / j)) (xVar 4) (xVar 7)) (xCons (xOp (gI CDivW fun i j => .int (i / j)) (xVar 5) (xVar 6)) xNil))) (xTup (xCons (xC (.int 0)) (xCons (xC (.int (65535))) xNil)))))
xNext)
(xRet (xTup (xCons (xC (.int 0)) (xCons (xCall wp_top_of_bits (xCons (xVar 0) (xCons (xVar 5) (xCons (xVar 7) xNil)))) xNil))))))))))
@[irreducible] noncomputable def wp_operated : XF := lock (xFn 6 b_operated)
theorem eq_operated : wp_operated = xFn 6 b_operated := by
  unfold wp_operated
  exact lock_eq _
/-- _law_value, from: return [word, other, (flow, least, greatest, cell, plus)] -/
@[irreducible] noncomputable def c_law_value_1 : XS := lock
  (xRet (xLst (xCons (xVar 2) (xCons (xVar 3) (xCons (xTup (xCons (xVar 10) (xCons (xVar 8) (xCons (xVar 9) (xCons (xVar 4) (xCons (xVar 5) xNil)))))) xNil)))))
theorem eqc_law_value_1 : c_law_value_1 =
  (xRet (xLst (xCons (xVar 2) (xCons (xVar 3) (xCons (xTup (xCons (xVar 10) (xCons (xVar 8) (xCons (xVar 9) (xCons (xVar 4) (xCons (xVar 5) xNil)))))) xNil))))) := by
  unfold c_law_value_1
  exact lock_eq _
/-- _law_value, from: flow = 'secret' -/
@[irreducible] noncomputable def c_law_value_2 : XS := lock
  (xSeq (xAsg (xC (.str "secret")) (xName 10))
(xSeq (xIfS (xAnd (xTest (xOp (gEq false) (xVar 2) (xVar 3))) (xTest (xOp (gI0 fun i j => .bl (decide (j < i))) (xCall wp_law_draw (xCons (xVar 0) (xCons (xC (.int 4)) xNil))) (xC (.int 0)))))
(xAsg (xC (.str "public")) (xName 10))
xNext)
c_law_value_1))
theorem eqc_law_value_2 : c_law_value_2 =
  (xSeq (xAsg (xC (.str "secret")) (xName 10))
(xSeq (xIfS (xAnd (xTest (xOp (gEq false) (xVar 2) (xVar 3))) (xTest (xOp (gI0 fun i j => .bl (decide (j < i))) (xCall wp_law_draw (xCons (xVar 0) (xCons (xC (.int 4)) xNil))) (xC (.int 0)))))
(xAsg (xC (.str "public")) (xName 10))
xNext)
c_law_value_1)) := by
  unfold c_law_value_2
  exact lock_eq _
/-- _law_value, from: least = min(word, other) -/
@[irreducible] noncomputable def c_law_value_3 : XS := lock
  (xSeq (xAsg (xCall fMin (xCons (xVar 2) (xCons (xVar 3) xNil))) (xName 8))
(xSeq (xAsg (xCall fMax (xCons (xVar 2) (xCons (xVar 3) xNil))) (xName 9))
(xSeq (xIfS (xTest (xOp (gEq false) (xCall wp_law_draw (xCons (xVar 0) (xCons (xC (.int 3)) xNil))) (xC (.int 1))))
(xSeq (xAsg (xOp gIx (xRo (xCons (xC (.int 0)) (xCons (xCall wp_law_draw (xCons (xVar 0) (xCons (xOp gAdd (xVar 8) (xC (.int 1))) xNil))) xNil))) (xCall wp_law_draw (xCons (xVar 0) (xCons (xC (.int 2)) xNil)))) (xName 8))
(xAsg (xOp gIx (xRo (xCons (xC (.int 65535)) (xCons (xOp gAdd (xVar 9) (xCall wp_law_draw (xCons (xVar 0) (xCons (xOp (gI0 fun i j => .int (i - j)) (xC (.int 65536)) (xVar 9)) xNil)))) xNil))) (xCall wp_law_draw (xCons (xVar 0) (xCons (xC (.int 2)) xNil)))) (xName 9)))
xNext)
c_law_value_2)))
theorem eqc_law_value_3 : c_law_value_3 =
  (xSeq (xAsg (xCall fMin (xCons (xVar 2) (xCons (xVar 3) xNil))) (xName 8))
(xSeq (xAsg (xCall fMax (xCons (xVar 2) (xCons (xVar 3) xNil))) (xName 9))
(xSeq (xIfS (xTest (xOp (gEq false) (xCall wp_law_draw (xCons (xVar 0) (xCons (xC (.int 3)) xNil))) (xC (.int 1))))
(xSeq (xAsg (xOp gIx (xRo (xCons (xC (.int 0)) (xCons (xCall wp_law_draw (xCons (xVar 0) (xCons (xOp gAdd (xVar 8) (xC (.int 1))) xNil))) xNil))) (xCall wp_law_draw (xCons (xVar 0) (xCons (xC (.int 2)) xNil)))) (xName 8))
(xAsg (xOp gIx (xRo (xCons (xC (.int 65535)) (xCons (xOp gAdd (xVar 9) (xCall wp_law_draw (xCons (xVar 0) (xCons (xOp (gI0 fun i j => .int (i - j)) (xC (.int 65536)) (xVar 9)) xNil)))) xNil))) (xCall wp_law_draw (xCons (xVar 0) (xCons (xC (.int 2)) xNil)))) (xName 9)))
xNext)
c_law_value_2))) := by
  unfold c_law_value_3
  exact lock_eq _
/-- _law_value, from: cell = -1 -/
@[irreducible] noncomputable def c_law_value_4 : XS := lock
  (xSeq (xAsg (xUn gNeg (xC (.int 1))) (xName 4))
(xSeq (xAsg (xC (.int 0)) (xName 5))
(xSeq (xAsg (xCall wp_law_draw (xCons (xVar 0) (xCons (xCall fLen (xCons (xOp gIx (xVar 1) (xC (.int 0))) xNil)) xNil))) (xName 6))
(xSeq (xAsg (xOp gIx (xRo (xCons (xC (.int 0)) (xCons (xC (.int 1)) (xCons (xCall wp_law_draw (xCons (xVar 0) (xCons (xC (.int 5)) xNil))) (xCons (xCall wp_law_word (xCons (xVar 0) xNil)) xNil))))) (xCall wp_law_draw (xCons (xVar 0) (xCons (xC (.int 4)) xNil)))) (xName 7))
(xSeq (xIfS (xAnd (xTest (xOp (gEq false) (xCall wp_law_draw (xCons (xVar 0) (xCons (xC (.int 3)) xNil))) (xC (.int 1)))) (xTest (xOp (gI0 fun i j => .bl (decide (i ≤ j))) (xOp gAdd (xCall fMax (xCons (xOp gIx (xOp gIx (xVar 1) (xC (.int 0))) (xVar 6)) (xCons (xOp gIx (xOp gIx (xVar 1) (xC (.int 1))) (xVar 6)) xNil))) (xVar 7)) (xC (.int 65535)))))
(xSeq (xAsg (xVar 6) (xName 4))
(xSeq (xAsg (xVar 7) (xName 5))
(xSeq (xAsg (xOp gAdd (xOp gIx (xOp gIx (xVar 1) (xC (.int 0))) (xVar 6)) (xVar 7)) (xName 2))
(xAsg (xOp gAdd (xOp gIx (xOp gIx (xVar 1) (xC (.int 1))) (xVar 6)) (xVar 7)) (xName 3)))))
xNext)
c_law_value_3)))))
theorem eqc_law_value_4 : c_law_value_4 =
  (xSeq (xAsg (xUn gNeg (xC (.int 1))) (xName 4))
(xSeq (xAsg (xC (.int 0)) (xName 5))
(xSeq (xAsg (xCall wp_law_draw (xCons (xVar 0) (xCons (xCall fLen (xCons (xOp gIx (xVar 1) (xC (.int 0))) xNil)) xNil))) (xName 6))
(xSeq (xAsg (xOp gIx (xRo (xCons (xC (.int 0)) (xCons (xC (.int 1)) (xCons (xCall wp_law_draw (xCons (xVar 0) (xCons (xC (.int 5)) xNil))) (xCons (xCall wp_law_word (xCons (xVar 0) xNil)) xNil))))) (xCall wp_law_draw (xCons (xVar 0) (xCons (xC (.int 4)) xNil)))) (xName 7))
(xSeq (xIfS (xAnd (xTest (xOp (gEq false) (xCall wp_law_draw (xCons (xVar 0) (xCons (xC (.int 3)) xNil))) (xC (.int 1)))) (xTest (xOp (gI0 fun i j => .bl (decide (i ≤ j))) (xOp gAdd (xCall fMax (xCons (xOp gIx (xOp gIx (xVar 1) (xC (.int 0))) (xVar 6)) (xCons (xOp gIx (xOp gIx (xVar 1) (xC (.int 1))) (xVar 6)) xNil))) (xVar 7)) (xC (.int 65535)))))
(xSeq (xAsg (xVar 6) (xName 4))
(xSeq (xAsg (xVar 7) (xName 5))
(xSeq (xAsg (xOp gAdd (xOp gIx (xOp gIx (xVar 1) (xC (.int 0))) (xVar 6)) (xVar 7)) (xName 2))
(xAsg (xOp gAdd (xOp gIx (xOp gIx (xVar 1) (xC (.int 1))) (xVar 6)) (xVar 7)) (xName 3)))))
xNext)
c_law_value_3))))) := by
  unfold c_law_value_4
  exact lock_eq _
/-- _law_value: names source, memories, word, other, cell, plus, address, more, least, greatest, flow -/
noncomputable def b_law_value : XS :=
  (xSeq (xAsg (xOp gIx (xRo (xCons (xCall wp_law_word (xCons (xVar 0) xNil)) (xCons (xCall wp_law_draw (xCons (xVar 0) (xCons (xC (.int 12)) xNil))) xNil))) (xCall wp_law_draw (xCons (xVar 0) (xCons (xC (.int 2)) xNil)))) (xName 2))
(xSeq (xAsg (xVar 2) (xName 3))
(xSeq (xIfS (xTest (xOp (gEq false) (xCall wp_law_draw (xCons (xVar 0) (xCons (xC (.int 2)) xNil))) (xC (.int 1))))
(xAsg (xOp gIx (xRo (xCons (xCall wp_law_word (xCons (xVar 0) xNil)) (xCons (xCall wp_law_draw (xCons (xVar 0) (xCons (xC (.int 12)) xNil))) xNil))) (xCall wp_law_draw (xCons (xVar 0) (xCons (xC (.int 2)) xNil)))) (xName 3))
xNext)
c_law_value_4)))
@[irreducible] noncomputable def wp_law_value : XF := lock (xFn 9 b_law_value)
theorem eq_law_value : wp_law_value = xFn 9 b_law_value := by
  unfold wp_law_value
  exact lock_eq _
/-- _law_instruction, from: if name == 'set': -/
@[irreducible] noncomputable def c_law_instruction_1 : XS := lock
  (xSeq (xIfS (xTest (xOp (gEq false) (xVar 3) (xC (.str "set"))))
(xRet (xTup (xCons (xVar 3) (xCons (xVar 4) (xCons (xCall wp_law_word (xCons (xVar 0) xNil)) xNil)))))
xNext)
(xSeq (xIfS (xTest (xOp (gEq false) (xVar 3) (xC (.str "move"))))
(xRet (xTup (xCons (xVar 3) (xCons (xVar 4) (xCons (xVar 5) xNil)))))
xNext)
(xSeq (xIfS (xTest (xOp (gEq false) (xVar 3) (xC (.str "carry"))))
(xRet (xTup (xCons (xVar 3) (xCons (xVar 4) xNil))))
xNext)
(xSeq (xIfS (xTest (xOp (gEq false) (xVar 3) (xC (.str "clear"))))
(xRet (xTup (xCons (xVar 3) xNil)))
xNext)
(xSeq (xIfS (xOr (xTest (xOp (gEq false) (xVar 3) (xC (.str "load")))) (xTest (xOp (gEq false) (xVar 3) (xC (.str "store")))))
(xRet (xTup (xCons (xVar 3) (xCons (xVar 4) (xCons (xVar 5) (xCons (xCall wp_law_draw (xCons (xVar 0) (xCons (xOp gAdd (xOp gIx (xOp gIx (xVar 1) (xC (.int 1))) (xC (.int 0))) (xOp gIx (xOp gIx (xVar 1) (xC (.int 1))) (xC (.int 1)))) xNil))) xNil))))))
xNext)
(xSeq (xIfS (xOr (xTest (xOp (gEq false) (xVar 3) (xC (.str "down")))) (xTest (xOp (gEq false) (xVar 3) (xC (.str "up")))))
(xRet (xTup (xCons (xVar 3) (xCons (xVar 4) (xCons (xVar 5) (xCons (xCall wp_law_draw (xCons (xVar 0) (xCons (xC (.int 16)) xNil))) xNil))))))
xNext)
(xRet (xTup (xCons (xVar 3) (xCons (xVar 4) (xCons (xVar 5) (xCons (xVar 6) xNil))))))))))))
theorem eqc_law_instruction_1 : c_law_instruction_1 =
  (xSeq (xIfS (xTest (xOp (gEq false) (xVar 3) (xC (.str "set"))))
(xRet (xTup (xCons (xVar 3) (xCons (xVar 4) (xCons (xCall wp_law_word (xCons (xVar 0) xNil)) xNil)))))
xNext)
(xSeq (xIfS (xTest (xOp (gEq false) (xVar 3) (xC (.str "move"))))
(xRet (xTup (xCons (xVar 3) (xCons (xVar 4) (xCons (xVar 5) xNil)))))
xNext)
(xSeq (xIfS (xTest (xOp (gEq false) (xVar 3) (xC (.str "carry"))))
(xRet (xTup (xCons (xVar 3) (xCons (xVar 4) xNil))))
xNext)
(xSeq (xIfS (xTest (xOp (gEq false) (xVar 3) (xC (.str "clear"))))
(xRet (xTup (xCons (xVar 3) xNil)))
xNext)
(xSeq (xIfS (xOr (xTest (xOp (gEq false) (xVar 3) (xC (.str "load")))) (xTest (xOp (gEq false) (xVar 3) (xC (.str "store")))))
(xRet (xTup (xCons (xVar 3) (xCons (xVar 4) (xCons (xVar 5) (xCons (xCall wp_law_draw (xCons (xVar 0) (xCons (xOp gAdd (xOp gIx (xOp gIx (xVar 1) (xC (.int 1))) (xC (.int 0))) (xOp gIx (xOp gIx (xVar 1) (xC (.int 1))) (xC (.int 1)))) xNil))) xNil))))))
xNext)
(xSeq (xIfS (xOr (xTest (xOp (gEq false) (xVar 3) (xC (.str "down")))) (xTest (xOp (gEq false) (xVar 3) (xC (.str "up")))))
(xRet (xTup (xCons (xVar 3) (xCons (xVar 4) (xCons (xVar 5) (xCons (xCall wp_law_draw (xCons (xVar 0) (xCons (xC (.int 16)) xNil))) xNil))))))
xNext)
(xRet (xTup (xCons (xVar 3) (xCons (xVar 4) (xCons (xVar 5) (xCons (xVar 6) xNil)))))))))))) := by
  unfold c_law_instruction_1
  exact lock_eq _
/-- _law_instruction: names source, layout, names, name, first, second, third -/
noncomputable def b_law_instruction : XS :=
  (xSeq (xAsg (xLst (xCons (xC (.str "set")) (xCons (xC (.str "move")) (xCons (xC (.str "add")) (xCons (xC (.str "addc")) (xCons (xC (.str "sub")) (xCons (xC (.str "subc")) (xCons (xC (.str "mul")) (xCons (xC (.str "high")) (xCons (xC (.str "div")) (xCons (xC (.str "and")) (xCons (xC (.str "or")) (xCons (xC (.str "xor")) (xCons (xC (.str "less")) (xCons (xC (.str "downby")) xNil))))))))))))))) (xName 2))
(xSeq (xAsg (xOp gAdd (xVar 2) (xLst (xCons (xC (.str "down")) (xCons (xC (.str "up")) (xCons (xC (.str "carry")) (xCons (xC (.str "clear")) (xCons (xC (.str "load")) (xCons (xC (.str "load")) (xCons (xC (.str "load")) (xCons (xC (.str "load")) (xCons (xC (.str "store")) (xCons (xC (.str "store")) (xCons (xC (.str "store")) (xCons (xC (.str "store")) xNil)))))))))))))) (xName 2))
(xSeq (xAsg (xOp gIx (xVar 2) (xCall wp_law_draw (xCons (xVar 0) (xCons (xC (.int 26)) xNil)))) (xName 3))
(xSeq (xAsg (xCall wp_law_draw (xCons (xVar 0) (xCons (xC (.int 16)) xNil))) (xName 4))
(xSeq (xAsg (xCall wp_law_draw (xCons (xVar 0) (xCons (xC (.int 16)) xNil))) (xName 5))
(xSeq (xAsg (xOp gIx (xRo (xCons (xCall wp_law_draw (xCons (xVar 0) (xCons (xC (.int 16)) xNil))) (xCons (xVar 5) xNil))) (xCall fInt (xCons (xOp (gEq false) (xCall wp_law_draw (xCons (xVar 0) (xCons (xC (.int 6)) xNil))) (xC (.int 1))) xNil))) (xName 6))
(xSeq (xIfS (xTest (xOp (gEq false) (xCall wp_law_draw (xCons (xVar 0) (xCons (xC (.int 4)) xNil))) (xC (.int 1))))
(xAsg (xVar 4) (xName 5))
xNext)
c_law_instruction_1)))))))
@[irreducible] noncomputable def wp_law_instruction : XF := lock (xFn 5 b_law_instruction)
theorem eq_law_instruction : wp_law_instruction = xFn 5 b_law_instruction := by
  unfold wp_law_instruction
  exact lock_eq _
/-- loaded_fact: names layout, least, greatest, region, _, flow, most -/
noncomputable def b_loaded_fact : XS :=
  (xSeq (xAsg (xCall wp_safe_region (xCons (xVar 0) (xCons (xVar 1) (xCons (xVar 2) xNil)))) (xName 3))
(xSeq (xIfS (xTest (xOp (gIs false) (xVar 3) (xC .non)))
(xRet (xTupS (xCons (xC (.str "secret")) (xCons (xC (.int 0)) (xCons (xC (.int (65535))) (xStar (xC d_NO_CELL) xNil))))))
xNext)
(xSeq (xAsg (xVar 3) (xGTup 4 (xGCons (xName 4) (xGCons (xName 4) (xGCons (xName 5) (xGCons (xName 6) xGNil))))))
(xSeq (xIfS (xTest (xOp (gEq false) (xVar 1) (xVar 2)))
(xRet (xTup (xCons (xVar 5) (xCons (xC (.int 0)) (xCons (xVar 6) (xCons (xVar 1) (xCons (xC (.int 0)) xNil)))))))
xNext)
(xRet (xTupS (xCons (xVar 5) (xCons (xC (.int 0)) (xCons (xVar 6) (xStar (xC d_NO_CELL) xNil))))))))))
@[irreducible] noncomputable def wp_loaded_fact : XF := lock (xFn 4 b_loaded_fact)
theorem eq_loaded_fact : wp_loaded_fact = xFn 4 b_loaded_fact := by
  unfold wp_loaded_fact
  exact lock_eq _
/-- result_fact, from: least, greatest = operated(name, first, second) -/
@[irreducible] noncomputable def c_result_fact_1 : XS := lock
  (xSeq (xAsg (xCall wp_operated (xCons (xVar 3) (xCons (xVar 7) (xCons (xVar 8) xNil)))) (xGTup 2 (xGCons (xName 5) (xGCons (xName 6) xGNil))))
(xSeq (xAsg (xIf (xTest (xOp (gEq false) (xVar 3) (xC (.str "add")))) (xCall wp_cell_of_sum (xCons (xVar 7) (xCons (xVar 8) xNil))) (xC d_NO_CELL)) (xName 10))
(xRet (xTupS (xCons (xCall wp_joined_flow (xCons (xVar 9) xNil)) (xCons (xVar 5) (xCons (xVar 6) (xStar (xVar 10) xNil))))))))
theorem eqc_result_fact_1 : c_result_fact_1 =
  (xSeq (xAsg (xCall wp_operated (xCons (xVar 3) (xCons (xVar 7) (xCons (xVar 8) xNil)))) (xGTup 2 (xGCons (xName 5) (xGCons (xName 6) xGNil))))
(xSeq (xAsg (xIf (xTest (xOp (gEq false) (xVar 3) (xC (.str "add")))) (xCall wp_cell_of_sum (xCons (xVar 7) (xCons (xVar 8) xNil))) (xC d_NO_CELL)) (xName 10))
(xRet (xTupS (xCons (xCall wp_joined_flow (xCons (xVar 9) xNil)) (xCons (xVar 5) (xCons (xVar 6) (xStar (xVar 10) xNil)))))))) := by
  unfold c_result_fact_1
  exact lock_eq _
/-- result_fact: names layout, state, instruction, name, word, least, greatest, first, second, flows, cell -/
noncomputable def b_result_fact : XS :=
  (xSeq (xAsg (xOp gIx (xVar 2) (xC (.int 0))) (xName 3))
(xSeq (xIfS (xTest (xOp (gEq false) (xVar 3) (xC (.str "set"))))
(xSeq (xAsg (xOp gIx (xVar 2) (xC (.int 2))) (xName 4))
(xRet (xTupS (xCons (xC (.str "public")) (xCons (xVar 4) (xCons (xVar 4) (xStar (xC d_NO_CELL) xNil)))))))
xNext)
(xSeq (xIfS (xTest (xOp (gEq false) (xVar 3) (xC (.str "carry"))))
(xRet (xTupS (xCons (xOp gIx (xVar 1) (xC (.int (16)))) (xCons (xC (.int 0)) (xCons (xC (.int 1)) (xStar (xC d_NO_CELL) xNil))))))
xNext)
(xSeq (xIfS (xTest (xOp (gEq false) (xVar 3) (xC (.str "load"))))
(xSeq (xAsg (xCall wp_addresses (xCons (xVar 1) (xCons (xVar 2) xNil))) (xGTup 2 (xGCons (xName 5) (xGCons (xName 6) xGNil))))
(xRet (xCall wp_loaded_fact (xCons (xVar 0) (xCons (xVar 5) (xCons (xVar 6) xNil))))))
xNext)
(xSeq (xAsg (xOp gIx (xVar 1) (xOp gIx (xVar 2) (xC (.int 2)))) (xName 7))
(xSeq (xIfS (xTest (xOp (gEq false) (xVar 3) (xC (.str "move"))))
(xRet (xVar 7))
xNext)
(xSeq (xIfS (xTest (xOp (gIn false) (xVar 3) (xC d_SHIFTS)))
(xSeq (xAsg (xCall wp_shifted (xCons (xVar 3) (xCons (xOp gIx (xVar 7) (xC (.int 1))) (xCons (xOp gIx (xVar 7) (xC (.int 2))) (xCons (xOp gIx (xVar 2) (xC (.int 3))) xNil))))) (xGTup 2 (xGCons (xName 5) (xGCons (xName 6) xGNil))))
(xRet (xTupS (xCons (xOp gIx (xVar 7) (xC (.int 0))) (xCons (xVar 5) (xCons (xVar 6) (xStar (xC d_NO_CELL) xNil)))))))
xNext)
(xSeq (xAsg (xOp gIx (xVar 1) (xOp gIx (xVar 2) (xC (.int 3)))) (xName 8))
(xSeq (xAsg (xLst (xCons (xOp gIx (xVar 7) (xC (.int 0))) (xCons (xOp gIx (xVar 8) (xC (.int 0))) xNil))) (xName 9))
(xSeq (xIfS (xTest (xOp (gIn false) (xVar 3) (xC d_CHAINED)))
(xDrop (xBL gAppend (xVar 9) (xCons (xOp gIx (xVar 1) (xC (.int (16)))) xNil)))
xNext)
c_result_fact_1))))))))))
@[irreducible] noncomputable def wp_result_fact : XF := lock (xFn 8 b_result_fact)
theorem eq_result_fact : wp_result_fact = xFn 8 b_result_fact := by
  unfold wp_result_fact
  exact lock_eq _
/-- next_state: names layout, state, instruction, name, given, fact, carry, least, greatest, facts -/
noncomputable def b_next_state : XS :=
  (xSeq (xAsg (xOp gIx (xVar 2) (xC (.int 0))) (xName 3))
(xSeq (xAsg (xCall wp_given_register (xCons (xVar 2) xNil)) (xName 4))
(xSeq (xIfS (xTest (xOp (gI0 fun i j => .bl (decide (j ≤ i))) (xVar 4) (xC (.int 0))))
(xSeq (xAsg (xCall wp_result_fact (xCons (xVar 0) (xCons (xVar 1) (xCons (xVar 2) xNil)))) (xName 5))
(xSeq (xAsg (xIf (xTest (xOp (gIn false) (xVar 3) (xC d_CARRYING))) (xOp gIx (xVar 5) (xC (.int 0))) (xOp gIx (xVar 1) (xC (.int (16))))) (xName 6))
(xRet (xTupS (xStar (xSl gSl (xVar 1) xNoPart (xPart (xVar 4))) (xCons (xVar 5) (xStar (xSl gSl (xVar 1) (xPart (xOp gAdd (xVar 4) (xC (.int 1)))) (xPart (xC (.int (16))))) (xCons (xVar 6) xNil))))))))
xNext)
(xSeq (xIfS (xTest (xOp (gEq false) (xVar 3) (xC (.str "clear"))))
(xRet (xTupS (xStar (xSl gSl (xVar 1) xNoPart (xPart (xC (.int (16))))) (xCons (xC (.str "public")) xNil))))
xNext)
(xSeq (xIfS (xTest (xOp (gEq false) (xVar 3) (xC (.str "store"))))
(xSeq (xAsg (xCall wp_addresses (xCons (xVar 1) (xCons (xVar 2) xNil))) (xGTup 2 (xGCons (xName 7) (xGCons (xName 8) xGNil))))
(xSeq (xAsg (xLc (xSeqIt (xSl gSl (xVar 1) xNoPart (xPart (xC (.int (16)))))) (xName 5) xYes (xIf (xTest (xChain (gI0 fun i j => .bl (decide (i ≤ j))) (gI0 fun i j => .bl (decide (i ≤ j))) (xVar 7) (xOp gIx (xVar 5) (xC (.int 3))) (xVar 8))) (xCall wp_without_cell (xCons (xVar 5) xNil)) (xVar 5)) [5]) (xName 9))
(xRet (xTupS (xStar (xVar 9) (xCons (xOp gIx (xVar 1) (xC (.int (16)))) xNil))))))
xNext)
(xRet (xVar 1)))))))
@[irreducible] noncomputable def wp_next_state : XF := lock (xFn 7 b_next_state)
theorem eq_next_state : wp_next_state = xFn 7 b_next_state := by
  unfold wp_next_state
  exact lock_eq _
/-- _law_stays_true, from: one = _law_done(layout, row, left, memories[0], carries[0]) -/
@[irreducible] noncomputable def c_law_stays_true_1 : XS := lock
  (xSeq (xAsg (xCall wp_law_done (xCons (xVar 3) (xCons (xVar 13) (xCons (xVar 7) (xCons (xOp gIx (xVar 4) (xC (.int 0))) (xCons (xOp gIx (xVar 9) (xC (.int 0))) xNil)))))) (xName 14))
(xSeq (xAsg (xCall wp_law_done (xCons (xVar 3) (xCons (xVar 13) (xCons (xVar 8) (xCons (xOp gIx (xVar 4) (xC (.int 1))) (xCons (xOp gIx (xVar 9) (xC (.int 1))) xNil)))))) (xName 15))
(xSeq (xIfS (xOr (xTest (xOp (gI0 fun i j => .bl (decide (i < j))) (xVar 14) (xC (.int 0)))) (xTest (xOp (gI0 fun i j => .bl (decide (i < j))) (xVar 15) (xC (.int 0)))))
(xRet (xC (.bl true)))
xNext)
(xSeq (xAsg (xLst (xCons (xVar 14) (xCons (xVar 15) xNil))) (xName 9))
(xSeq (xAsg (xCall wp_next_state (xCons (xVar 3) (xCons (xVar 11) (xCons (xVar 13) xNil)))) (xName 11))
(xSeq (xIfS (xOr (xNot (xTru (xCall fIsi (xCons (xVar 11) (xCons (xC (.con (.ty "tuple"))) xNil))))) (xTest (xOp (gEq true) (xCall fLen (xCons (xVar 11) xNil)) (xC (.int 17)))))
(xRet (xC (.bl false)))
xNext)
(xSeq (xFor (xRng1 (xCons (xC (.int 16)) xNil)) (xName 5)
(xSeq (xIfS (xOr (xNot (xTru (xCall wp_law_true (xCons (xOp gIx (xVar 11) (xVar 5)) (xCons (xOp gIx (xVar 7) (xVar 5)) (xCons (xOp gIx (xVar 4) (xC (.int 0))) xNil)))))) (xNot (xTru (xCall wp_law_true (xCons (xOp gIx (xVar 11) (xVar 5)) (xCons (xOp gIx (xVar 8) (xVar 5)) (xCons (xOp gIx (xVar 4) (xC (.int 1))) xNil)))))))
(xRet (xC (.bl false)))
xNext)
(xIfS (xAnd (xTest (xOp (gEq true) (xOp gIx (xOp gIx (xVar 11) (xVar 5)) (xC (.int 0))) (xC (.str "secret")))) (xTest (xOp (gEq true) (xOp gIx (xVar 7) (xVar 5)) (xOp gIx (xVar 8) (xVar 5)))))
(xRet (xC (.bl false)))
xNext)))
(xSeq (xIfS (xAnd (xTest (xOp (gEq true) (xOp gIx (xVar 11) (xC (.int 16))) (xC (.str "secret")))) (xTest (xOp (gEq true) (xVar 14) (xVar 15))))
(xRet (xC (.bl false)))
xNext)
(xIfS (xTest (xOp (gEq false) (xOp gIx (xVar 13) (xC (.int 0))) (xC (.str "store"))))
(xRet (xC (.bl true)))
xNext)))))))))
theorem eqc_law_stays_true_1 : c_law_stays_true_1 =
  (xSeq (xAsg (xCall wp_law_done (xCons (xVar 3) (xCons (xVar 13) (xCons (xVar 7) (xCons (xOp gIx (xVar 4) (xC (.int 0))) (xCons (xOp gIx (xVar 9) (xC (.int 0))) xNil)))))) (xName 14))
(xSeq (xAsg (xCall wp_law_done (xCons (xVar 3) (xCons (xVar 13) (xCons (xVar 8) (xCons (xOp gIx (xVar 4) (xC (.int 1))) (xCons (xOp gIx (xVar 9) (xC (.int 1))) xNil)))))) (xName 15))
(xSeq (xIfS (xOr (xTest (xOp (gI0 fun i j => .bl (decide (i < j))) (xVar 14) (xC (.int 0)))) (xTest (xOp (gI0 fun i j => .bl (decide (i < j))) (xVar 15) (xC (.int 0)))))
(xRet (xC (.bl true)))
xNext)
(xSeq (xAsg (xLst (xCons (xVar 14) (xCons (xVar 15) xNil))) (xName 9))
(xSeq (xAsg (xCall wp_next_state (xCons (xVar 3) (xCons (xVar 11) (xCons (xVar 13) xNil)))) (xName 11))
(xSeq (xIfS (xOr (xNot (xTru (xCall fIsi (xCons (xVar 11) (xCons (xC (.con (.ty "tuple"))) xNil))))) (xTest (xOp (gEq true) (xCall fLen (xCons (xVar 11) xNil)) (xC (.int 17)))))
(xRet (xC (.bl false)))
xNext)
(xSeq (xFor (xRng1 (xCons (xC (.int 16)) xNil)) (xName 5)
(xSeq (xIfS (xOr (xNot (xTru (xCall wp_law_true (xCons (xOp gIx (xVar 11) (xVar 5)) (xCons (xOp gIx (xVar 7) (xVar 5)) (xCons (xOp gIx (xVar 4) (xC (.int 0))) xNil)))))) (xNot (xTru (xCall wp_law_true (xCons (xOp gIx (xVar 11) (xVar 5)) (xCons (xOp gIx (xVar 8) (xVar 5)) (xCons (xOp gIx (xVar 4) (xC (.int 1))) xNil)))))))
(xRet (xC (.bl false)))
xNext)
(xIfS (xAnd (xTest (xOp (gEq true) (xOp gIx (xOp gIx (xVar 11) (xVar 5)) (xC (.int 0))) (xC (.str "secret")))) (xTest (xOp (gEq true) (xOp gIx (xVar 7) (xVar 5)) (xOp gIx (xVar 8) (xVar 5)))))
(xRet (xC (.bl false)))
xNext)))
(xSeq (xIfS (xAnd (xTest (xOp (gEq true) (xOp gIx (xVar 11) (xC (.int 16))) (xC (.str "secret")))) (xTest (xOp (gEq true) (xVar 14) (xVar 15))))
(xRet (xC (.bl false)))
xNext)
(xIfS (xTest (xOp (gEq false) (xOp gIx (xVar 13) (xC (.int 0))) (xC (.str "store"))))
(xRet (xC (.bl true)))
xNext))))))))) := by
  unfold c_law_stays_true_1
  exact lock_eq _
/-- _law_stays_true, from: state = tuple([value[2] for value in values]) + (flow,) -/
@[irreducible] noncomputable def c_law_stays_true_2 : XS := lock
  (xSeq (xAsg (xOp gAdd (xCall fTuple (xCons (xLc (xSeqIt (xVar 6)) (xName 16) xYes (xOp gIx (xVar 16) (xC (.int 2))) [16]) xNil)) (xTup (xCons (xVar 10) xNil))) (xName 11))
(xSeq (xFor (xRng1 (xCons (xC (.int 6)) xNil)) (xName 12)
(xSeq (xAsg (xCall wp_law_instruction (xCons (xVar 2) (xCons (xVar 3) xNil))) (xName 13))
(xSeq (xIfS (xAnd (xTest (xOp (gIn false) (xOp gIx (xVar 13) (xC (.int 0))) (xTup (xCons (xC (.str "load")) (xCons (xC (.str "store")) xNil))))) (xTest (xOp (gEq false) (xOp gIx (xOp gIx (xVar 11) (xOp gIx (xVar 13) (xC (.int 2)))) (xC (.int 0))) (xC (.str "secret")))))
xCont
xNext)
c_law_stays_true_1)))
(xRet (xC (.bl true)))))
theorem eqc_law_stays_true_2 : c_law_stays_true_2 =
  (xSeq (xAsg (xOp gAdd (xCall fTuple (xCons (xLc (xSeqIt (xVar 6)) (xName 16) xYes (xOp gIx (xVar 16) (xC (.int 2))) [16]) xNil)) (xTup (xCons (xVar 10) xNil))) (xName 11))
(xSeq (xFor (xRng1 (xCons (xC (.int 6)) xNil)) (xName 12)
(xSeq (xAsg (xCall wp_law_instruction (xCons (xVar 2) (xCons (xVar 3) xNil))) (xName 13))
(xSeq (xIfS (xAnd (xTest (xOp (gIn false) (xOp gIx (xVar 13) (xC (.int 0))) (xTup (xCons (xC (.str "load")) (xCons (xC (.str "store")) xNil))))) (xTest (xOp (gEq false) (xOp gIx (xOp gIx (xVar 11) (xOp gIx (xVar 13) (xC (.int 2)))) (xC (.int 0))) (xC (.str "secret")))))
xCont
xNext)
c_law_stays_true_1)))
(xRet (xC (.bl true))))) := by
  unfold c_law_stays_true_2
  exact lock_eq _
/-- _law_stays_true: names script, at, source, layout, memories, k, values, left, right, carries, flow, state, turn, row, one, two, value -/
noncomputable def b_law_stays_true : XS :=
  (xSeq (xAsg (xCall wp_law_source (xCons (xVar 0) (xCons (xVar 1) xNil))) (xName 2))
(xSeq (xAsg (xCall wp_law_layout (xCons (xVar 2) xNil)) (xName 3))
(xSeq (xAsg (xCall wp_law_memories (xCons (xVar 2) (xCons (xVar 3) xNil))) (xName 4))
(xSeq (xAsg (xLc (xRng1 (xCons (xC (.int 16)) xNil)) (xName 5) xYes (xCall wp_law_value (xCons (xCall wp_law_source (xCons (xVar 0) (xCons (xOp gAdd (xOp gAdd (xVar 1) (xC (.int 2))) (xVar 5)) xNil))) (xCons (xVar 4) xNil))) [5]) (xName 6))
(xSeq (xAsg (xLc (xSeqIt (xVar 6)) (xName 16) xYes (xOp gIx (xVar 16) (xC (.int 0))) [16]) (xName 7))
(xSeq (xAsg (xLc (xSeqIt (xVar 6)) (xName 16) xYes (xOp gIx (xVar 16) (xC (.int 1))) [16]) (xName 8))
(xSeq (xAsg (xCall wp_law_source (xCons (xVar 0) (xCons (xOp gAdd (xVar 1) (xC (.int 1))) xNil))) (xName 2))
(xSeq (xAsg (xLst (xCons (xCall wp_law_draw (xCons (xVar 2) (xCons (xC (.int 2)) xNil))) (xCons (xCall wp_law_draw (xCons (xVar 2) (xCons (xC (.int 2)) xNil))) xNil))) (xName 9))
(xSeq (xAsg (xC (.str "secret")) (xName 10))
(xSeq (xIfS (xAnd (xTest (xOp (gEq false) (xOp gIx (xVar 9) (xC (.int 0))) (xOp gIx (xVar 9) (xC (.int 1))))) (xTest (xOp (gI0 fun i j => .bl (decide (j < i))) (xCall wp_law_draw (xCons (xVar 2) (xCons (xC (.int 3)) xNil))) (xC (.int 0)))))
(xAsg (xC (.str "public")) (xName 10))
xNext)
c_law_stays_true_2))))))))))
@[irreducible] noncomputable def wp_law_stays_true : XF := lock (xFn 15 b_law_stays_true)
theorem eq_law_stays_true : wp_law_stays_true = xFn 15 b_law_stays_true := by
  unfold wp_law_stays_true
  exact lock_eq _
/-- law: names script, turn -/
noncomputable def b_law : XS :=
  (xSeq (xFor (xRng1 (xCons (xC (.int 6)) xNil)) (xName 1)
(xIfS (xNot (xTru (xCall wp_law_stays_true (xCons (xVar 0) (xCons (xOp gMul (xC (.int 19)) (xVar 1)) xNil)))))
(xRet (xC (.bl false)))
xNext))
(xRet (xC (.bl true))))
@[irreducible] noncomputable def wp_law : XF := lock (xFn 1 b_law)
theorem eq_law : wp_law = xFn 1 b_law := by
  unfold wp_law
  exact lock_eq _
end K68

set_option Elab.async false
set_option linter.all false
set_option maxRecDepth 100000
set_option maxHeartbeats 1000000
/-! What proofs over data use again and again. -/
namespace DT
open PySem PySem.Spec PyProof.Rows L2
theorem bcase {p : Prop} {dec : Decidable p} {A B : Prop} (h1 : p → A) (h2 : ¬ p → B) : @Bool.rec (fun _ => Prop) B A (decide p) := by
  by_cases h : p
  · rw [decide_eq_true h]
    exact h1 h
  · rw [decide_eq_false h]
    exact h2 h
theorem bcase' {b : Bool} {A B : Prop} (h1 : b = true → A) (h2 : b = false → B) : @Bool.rec (fun _ => Prop) B A b := by
  cases b
  · exact h2 rfl
  · exact h1 rfl
theorem btrue {b : Bool} {A B : Prop} (h : b = true) (x : A) : @Bool.rec (fun _ => Prop) B A b := by
  rw [h]
  exact x
theorem bfalse {b : Bool} {A B : Prop} (h : b = false) (x : B) : @Bool.rec (fun _ => Prop) B A b := by
  rw [h]
  exact x
/-! ### objects that stay -/
structure Kp (X : Nat → Prop) (S S' : Sto) : Prop where
  len : S.length ≤ S'.length
  at_ : ∀ n, ¬ X n → n < S.length → S'[n]? = S[n]?
theorem Kp.rfl {X : Nat → Prop} {S : Sto} : Kp X S S := ⟨Nat.le_refl _, fun _ _ _ => Eq.refl _⟩
theorem Kp.trans {X : Nat → Prop} {S S1 S2 : Sto} (a : Kp X S S1) (b : Kp X S1 S2) : Kp X S S2 :=
  ⟨Nat.le_trans a.len b.len, fun n hx hn => (b.at_ n hx (Nat.lt_of_lt_of_le hn a.len)).trans (a.at_ n hx hn)⟩
theorem Kp.mono {X Y : Nat → Prop} {S S' : Sto} (a : Kp X S S') (h : ∀ n, X n → Y n) : Kp Y S S' := ⟨a.len, fun n hy => a.at_ n fun z => hy (h n z)⟩
theorem Kp.app {X : Nat → Prop} {S J : Sto} : Kp X S (S ++ J) := ⟨by rw [List.length_append]; exact Nat.le_add_right _ _, fun n _ hn => List.getElem?_append_left hn⟩
theorem Kp.set {X : Nat → Prop} {S : Sto} {n : Nat} {o : Ob} (h : X n) : Kp X S (S.set n o) := ⟨by rw [List.length_set]; exact Nat.le_refl _, fun m hm _ => List.getElem?_set_ne (fun z : n = m => hm (by rw [← z]; exact h))⟩
theorem Kp.get {X : Nat → Prop} {S S' : Sto} (a : Kp X S S') {n : Nat} {o : Ob} (hx : ¬ X n) (h : S[n]? = some o) : S'[n]? = some o := (a.at_ n hx (List.getElem?_eq_some_iff.mp h).1).trans h
/-- only objects from m on, or in X, have changed -/
theorem Kp.old {X Y : Nat → Prop} {S S' : Sto} (a : Kp X S S') (h : ∀ n, X n → n < S.length → Y n) : Kp Y S S' :=
  ⟨a.len, fun n hy hn => a.at_ n (fun z => hy (h n z hn)) hn⟩
theorem get_new (S : Sto) (o : Ob) : (S ++ [o])[S.length]? = some o := List.getElem?_concat_length ..
theorem lt_of_get {S : Sto} {n : Nat} {o : Ob} (h : S[n]? = some o) : n < S.length := (List.getElem?_eq_some_iff.mp h).1
theorem get_set {S : Sto} {n : Nat} {o o' : Ob} (h : S[n]? = some o) : (S.set n o')[n]? = some o' := List.getElem?_set_self (lt_of_get h)
/-! ### reading and writing lists -/
theorem seqD_ref {S : Sto} {n : Nat} {ds : List D} (h : S[n]? = some (.lst ds)) : seqD S (.ref n) = some ds := look_of h
theorem ix_ref {S : Sto} {n : Nat} {i : Int} {ds : List D} {d : D} {q : DK} (h : S[n]? = some (.lst ds)) (hd : atI ds i = some d) (k : q d S) : gIx (.ref n) (.int i) S q := gIx_seq (seqD_ref h) hd k
theorem set_ref {S : Sto} {n : Nat} {i : Int} {ds : List D} {v : D} {j : Nat} {q : Sto → Prop} (h : S[n]? = some (.lst ds)) (hj : ixN ds.length i = some j) (k : q (S.set n (.lst (ds.set j v)))) : gSetL n i v S q := by
  unfold gSetL
  simp only [look_of h, hj]
  exact k
theorem atI_cast {α : Type} {xs : List α} {j : Nat} {x : α} (h : xs[j]? = some x) : atI xs (j : Int) = some x := by
  have hj := (List.getElem?_eq_some_iff.mp h).1
  unfold atI ixN
  rw [if_pos (by omega), if_pos (by omega), Int.toNat_natCast]
  exact h
theorem atI_pos {α : Type} {xs : List α} {i : Int} {x : α} (h0 : 0 ≤ i) (h : xs[i.toNat]? = some x) : atI xs i = some x := by
  obtain ⟨j, rfl⟩ := Int.eq_ofNat_of_zero_le h0
  rw [Int.toNat_natCast] at h
  exact atI_cast h
theorem cmul_r {i j : Int} (a : -(2 ^ 64) < j) (b : j < 2 ^ 64) : CMulA i j := .inl (.inr ⟨a, b⟩)
theorem cmul_l {i j : Int} (a : -(2 ^ 64) < i) (b : i < 2 ^ 64) : CMulA i j := .inl (.inl ⟨a, b⟩)
/-! ### draws -/
/-- the list of a source -/
def Src (S : Sto) (p : Nat) : Prop := ∃ x y : Int, 0 ≤ x ∧ S[p]? = some (.lst [.int x, .int y])
theorem Src.keep {X : Nat → Prop} {S S' : Sto} {p : Nat} (h : Src S p) (k : Kp X S S') (hx : ¬ X p) : Src S' p := by
  obtain ⟨x, y, h0, e⟩ := h
  exact ⟨x, y, h0, k.get hx e⟩
theorem Src.lt {S : Sto} {p : Nat} (h : Src S p) : p < S.length := by
  obtain ⟨x, y, h0, e⟩ := h
  exact lt_of_get e
end DT
namespace DT
open PySem L2
theorem cdiv_c {i j : Int} (h : 0 < j) (hb : j.natAbs < 2 ^ 40) : CDivW i j := wide_div (b := 40) h hb (by decide) (by decide)
theorem cdiv_v {i j : Int} (h : 0 < j) (hb : j ≤ 1000000000) : CDivW i j := wide_div (b := 40) h (by omega) (by decide) (by decide)
end DT
namespace DT
open PySem L2
theorem bcase0 {p : Prop} {dec : Decidable p} {A B : Prop} (h1 : p → A) (h2 : ¬ p → B) : @Bool.rec (fun _ => Prop) B A (false ^^ decide p) := by
  rw [Bool.false_xor]
  exact bcase h1 h2
theorem bcase1 {p : Prop} {dec : Decidable p} {A B : Prop} (h1 : ¬ p → A) (h2 : p → B) : @Bool.rec (fun _ => Prop) B A (true ^^ decide p) := by
  by_cases h : p
  · rw [decide_eq_true h]
    exact h2 h
  · rw [decide_eq_false h]
    exact h1 h
theorem eqV_str (x y : Str) : eqV (V.str x) (V.str y) = decide (x = y) := rfl
theorem inV_str (n : Str) (l : List Str) : inV (V.str n) (l.map V.str) = decide (n ∈ l) := by
  induction l with
  | nil => rfl
  | cons x xs ih =>
    have h : inV (V.str n) ((x :: xs).map V.str) = (eqV (V.str x) (V.str n) || inV (V.str n) (xs.map V.str)) := rfl
    rw [h, ih, eqV_str]
    by_cases e : x = n
    · rw [decide_eq_true e, decide_eq_true (show n ∈ x :: xs from e ▸ List.mem_cons_self ..), Bool.true_or]
    · rw [decide_eq_false e, Bool.false_or]
      exact decide_eq_decide.mpr ⟨fun z => List.mem_cons_of_mem _ z, fun z => (List.mem_cons.mp z).elim (fun y => absurd y.symm e) id⟩
end DT
namespace DT
open PySem L2
theorem set_new (S : Sto) (o o' : Ob) : (S ++ [o]).set S.length o' = S ++ [o'] := by
  rw [List.set_append_right _ _ (Nat.le_refl _), Nat.sub_self]
  rfl
end DT
namespace DT
open PySem L2
theorem at_0 {α : Type} (x : α) (xs : List α) : atI (x :: xs) 0 = some x := atI_cast (j := 0) rfl
theorem at_1 {α : Type} (x y : α) (xs : List α) : atI (x :: y :: xs) 1 = some y := atI_cast (j := 1) rfl
end DT
namespace DT
open PySem L2
theorem at_all {P : D → Prop} {L : List D} {j : Int} (h : ∀ d ∈ L, P d) (h0 : 0 ≤ j) (h1 : j < L.length) : ∃ d, atI L j = some d ∧ P d := by
  have hj : j.toNat < L.length := by omega
  exact ⟨_, atI_pos h0 (List.getElem?_eq_getElem hj), h _ (List.getElem_mem hj)⟩
/-- an item of which only P is known -/
theorem ix_all (P : D → Prop) {L : List D} {j : Int} {A : D → Prop} (h : ∀ d ∈ L, P d) (h0 : 0 ≤ j) (h1 : j < L.length) (k : ∀ d, P d → A d) : @Option.rec D (fun _ => Prop) False A (atI L j) := by
  obtain ⟨d, e, p⟩ := at_all h h0 h1
  exact oEl_of e (k d p)
end DT
namespace DT
open PySem L2
/-- an object that came later is written -/
theorem Kp.put {X : Nat → Prop} {S S1 : Sto} {n : Nat} {o : Ob} (k : Kp X S S1) (h : S.length ≤ n) : Kp X S (S1.set n o) :=
  ⟨by rw [List.length_set]; exact k.len, fun m hm hl => by rw [List.getElem?_set_ne (by omega)]; exact k.at_ m hm hl⟩
theorem Kp.add {X : Nat → Prop} {S S1 J : Sto} (k : Kp X S S1) : Kp X S (S1 ++ J) := k.trans .app
end DT
namespace DT
open PySem L2
theorem get_old (S : Sto) (o : Ob) (J : Sto) : (S ++ [o] ++ J)[S.length]? = some o := (Kp.app (X := fun _ => False)).get id (get_new S o)
end DT
namespace DT
open PySem L2
theorem Kp.look {X : Nat → Prop} {S S' : Sto} (a : Kp X S S') {n : Nat} {o : Ob} (h : S[n]? = some o) (hx : ¬ X n) : S'[n]? = some o := a.get hx h
/-- nothing of S has changed -/
abbrev Kn (S S' : Sto) : Prop := Kp (fun _ => False) S S'
theorem Kn.get {S S' : Sto} (a : Kn S S') {n : Nat} {o : Ob} (h : S[n]? = some o) : S'[n]? = some o := Kp.get a id h
theorem mix_at {α : Type} {A B : List α} {i : Nat} {x : α} (l : A.length = B.length) (h : B[i]? = some x) : (A.take i ++ B.drop i)[i]? = some x := by
  have hi := (List.getElem?_eq_some_iff.mp h).1
  rw [List.getElem?_append_right (by rw [List.length_take]; omega), List.length_take, show i - min i A.length = 0 by omega, List.getElem?_drop]
  exact h
theorem mix_set {α : Type} {A B : List α} {i : Nat} {x : α} (l : A.length = B.length) (h : A[i]? = some x) : (A.take i ++ B.drop i).set i x = A.take (i + 1) ++ B.drop (i + 1) := by
  have hi := (List.getElem?_eq_some_iff.mp h).1
  rw [List.set_append_right _ _ (by rw [List.length_take]; omega), List.length_take, show i - min i A.length = 0 by omega, List.take_add_one, h, List.drop_eq_getElem_cons (by omega), List.append_assoc]
  rfl
theorem mix_same {α : Type} {A B : List α} {i : Nat} {x : α} (l : A.length = B.length) (h : A[i]? = some x) (h2 : B[i]? = some x) : A.take i ++ B.drop i = A.take (i + 1) ++ B.drop (i + 1) := by
  obtain ⟨hi, e⟩ := List.getElem?_eq_some_iff.mp h2
  rw [List.take_add_one, h, List.drop_eq_getElem_cons hi, List.append_assoc, e]
  rfl
theorem mix_len {α : Type} {A B : List α} {i : Nat} (l : A.length = B.length) : (A.take i ++ B.drop i).length = B.length := by
  rw [List.length_append, List.length_take, List.length_drop]
  omega
end DT
namespace DT
open PySem L2
theorem get_old2 (S : Sto) (o : Ob) (J J' : Sto) : (S ++ [o] ++ J ++ J')[S.length]? = some o := (Kp.app (X := fun _ => False)).get id (get_old S o J)
theorem set_old2 (S : Sto) (o o' : Ob) (J J' : Sto) : (S ++ [o] ++ J ++ J').set S.length o' = S ++ [o'] ++ J ++ J' := by
  rw [List.append_assoc, List.append_assoc, List.set_append_right _ _ (Nat.le_refl _), Nat.sub_self, List.append_assoc, List.append_assoc]
  rfl
end DT

set_option Elab.async false
set_option linter.all false
set_option maxRecDepth 100000
set_option maxHeartbeats 4000000
namespace K68
open PySem PySem.Spec PyProof.Rows L2 DT
/-! ### source, draw -/
theorem p_draw {S : Sto} {p : Nat} {m : Int} {q : DK} (h : Src S p) (m0 : 0 < m) (m1 : m ≤ 100000) (k : ∀ v S', 0 ≤ v → v < m → Src S' p → Kp (· = p) S S' → q (.int v) S') : wp_law_draw [.ref p, .int m] S q := by
  obtain ⟨x, y, x0, e⟩ := h
  rw [eq_law_draw]
  ((conv => whnf); (repeat ((first | refine ⟨(by show (0 : Int) < _; first | decide | omega), ?_⟩ | refine ⟨cmul_r (by decide) (by decide), ?_⟩ | refine ⟨cmul_l (by decide) (by decide), ?_⟩ | refine ⟨cmul_l (by omega) (by omega), ?_⟩ | refine ⟨cdiv_v (by omega) (by omega), ?_⟩ | refine ⟨cdiv_c (by decide) (by decide), ?_⟩ | refine ⟨(by decide), ?_⟩ | refine ⟨Nat.le_of_ble_eq_true rfl, ?_⟩ | refine ⟨⟨by decide, by decide, by decide⟩, ?_⟩); (conv => whnf))))
  first | rw [look_of e] | rw [seqD_ref e]
  ((conv => whnf); (repeat ((first | refine ⟨(by show (0 : Int) < _; first | decide | omega), ?_⟩ | refine ⟨cmul_r (by decide) (by decide), ?_⟩ | refine ⟨cmul_l (by decide) (by decide), ?_⟩ | refine ⟨cmul_l (by omega) (by omega), ?_⟩ | refine ⟨cdiv_v (by omega) (by omega), ?_⟩ | refine ⟨cdiv_c (by decide) (by decide), ?_⟩ | refine ⟨(by decide), ?_⟩ | refine ⟨Nat.le_of_ble_eq_true rfl, ?_⟩ | refine ⟨⟨by decide, by decide, by decide⟩, ?_⟩); (conv => whnf))))
  first | refine bcase (fun c => ?_) (fun c => ?_) | refine bcase0 (fun c => ?_) (fun c => ?_) | refine bcase1 (fun c => ?_) (fun c => ?_)
  · ((conv => whnf); (repeat ((first | refine ⟨(by show (0 : Int) < _; first | decide | omega), ?_⟩ | refine ⟨cmul_r (by decide) (by decide), ?_⟩ | refine ⟨cmul_l (by decide) (by decide), ?_⟩ | refine ⟨cmul_l (by omega) (by omega), ?_⟩ | refine ⟨cdiv_v (by omega) (by omega), ?_⟩ | refine ⟨cdiv_c (by decide) (by decide), ?_⟩ | refine ⟨(by decide), ?_⟩ | refine ⟨Nat.le_of_ble_eq_true rfl, ?_⟩ | refine ⟨⟨by decide, by decide, by decide⟩, ?_⟩); (conv => whnf))))
    first | rw [look_of e] | rw [seqD_ref e]
    ((conv => whnf); (repeat ((first | refine ⟨(by show (0 : Int) < _; first | decide | omega), ?_⟩ | refine ⟨cmul_r (by decide) (by decide), ?_⟩ | refine ⟨cmul_l (by decide) (by decide), ?_⟩ | refine ⟨cmul_l (by omega) (by omega), ?_⟩ | refine ⟨cdiv_v (by omega) (by omega), ?_⟩ | refine ⟨cdiv_c (by decide) (by decide), ?_⟩ | refine ⟨(by decide), ?_⟩ | refine ⟨Nat.le_of_ble_eq_true rfl, ?_⟩ | refine ⟨⟨by decide, by decide, by decide⟩, ?_⟩); (conv => whnf))))
    first | rw [look_of e] | rw [seqD_ref e]
    conv => whnf
    refine ⟨cdiv_v m0 (by omega), ?_⟩
    ((conv => whnf); (repeat ((first | refine ⟨(by show (0 : Int) < _; first | decide | omega), ?_⟩ | refine ⟨cmul_r (by decide) (by decide), ?_⟩ | refine ⟨cmul_l (by decide) (by decide), ?_⟩ | refine ⟨cmul_l (by omega) (by omega), ?_⟩ | refine ⟨cdiv_v (by omega) (by omega), ?_⟩ | refine ⟨cdiv_c (by decide) (by decide), ?_⟩ | refine ⟨(by decide), ?_⟩ | refine ⟨Nat.le_of_ble_eq_true rfl, ?_⟩ | refine ⟨⟨by decide, by decide, by decide⟩, ?_⟩); (conv => whnf))))
    first | rw [look_of e] | rw [seqD_ref e]
    conv => whnf
    generalize hS1 : List.set S p _ = S1
    have e1 : S1[p]? = some _ := (congrArg (fun s : Sto => s[p]?) hS1.symm).trans (get_set e)
    have k1 : Kp (· = p) S S1 := by rw [← hS1]; exact .set rfl
    exact k _ _ (Int.emod_nonneg _ (by omega)) (Int.emod_lt_of_pos _ m0) ⟨x / m, y, Int.ediv_nonneg x0 (by omega), e1⟩ k1
  · ((conv => whnf); (repeat ((first | refine ⟨(by show (0 : Int) < _; first | decide | omega), ?_⟩ | refine ⟨cmul_r (by decide) (by decide), ?_⟩ | refine ⟨cmul_l (by decide) (by decide), ?_⟩ | refine ⟨cmul_l (by omega) (by omega), ?_⟩ | refine ⟨cdiv_v (by omega) (by omega), ?_⟩ | refine ⟨cdiv_c (by decide) (by decide), ?_⟩ | refine ⟨(by decide), ?_⟩ | refine ⟨Nat.le_of_ble_eq_true rfl, ?_⟩ | refine ⟨⟨by decide, by decide, by decide⟩, ?_⟩); (conv => whnf))))
    first | rw [look_of e] | rw [seqD_ref e]
    ((conv => whnf); (repeat ((first | refine ⟨(by show (0 : Int) < _; first | decide | omega), ?_⟩ | refine ⟨cmul_r (by decide) (by decide), ?_⟩ | refine ⟨cmul_l (by decide) (by decide), ?_⟩ | refine ⟨cmul_l (by omega) (by omega), ?_⟩ | refine ⟨cdiv_v (by omega) (by omega), ?_⟩ | refine ⟨cdiv_c (by decide) (by decide), ?_⟩ | refine ⟨(by decide), ?_⟩ | refine ⟨Nat.le_of_ble_eq_true rfl, ?_⟩ | refine ⟨⟨by decide, by decide, by decide⟩, ?_⟩); (conv => whnf))))
    first | rw [look_of e] | rw [seqD_ref e]
    conv => whnf
    generalize hS1 : List.set S p _ = S1
    have e1 : S1[p]? = some _ := (congrArg (fun s : Sto => s[p]?) hS1.symm).trans (get_set e)
    have k1 : Kp (· = p) S S1 := by rw [← hS1]; exact .set rfl
    ((conv => whnf); (repeat ((first | refine ⟨(by show (0 : Int) < _; first | decide | omega), ?_⟩ | refine ⟨cmul_r (by decide) (by decide), ?_⟩ | refine ⟨cmul_l (by decide) (by decide), ?_⟩ | refine ⟨cmul_l (by omega) (by omega), ?_⟩ | refine ⟨cdiv_v (by omega) (by omega), ?_⟩ | refine ⟨cdiv_c (by decide) (by decide), ?_⟩ | refine ⟨(by decide), ?_⟩ | refine ⟨Nat.le_of_ble_eq_true rfl, ?_⟩ | refine ⟨⟨by decide, by decide, by decide⟩, ?_⟩); (conv => whnf))))
    first | rw [look_of e1] | rw [seqD_ref e1]
    ((conv => whnf); (repeat ((first | refine ⟨(by show (0 : Int) < _; first | decide | omega), ?_⟩ | refine ⟨cmul_r (by decide) (by decide), ?_⟩ | refine ⟨cmul_l (by decide) (by decide), ?_⟩ | refine ⟨cmul_l (by omega) (by omega), ?_⟩ | refine ⟨cdiv_v (by omega) (by omega), ?_⟩ | refine ⟨cdiv_c (by decide) (by decide), ?_⟩ | refine ⟨(by decide), ?_⟩ | refine ⟨Nat.le_of_ble_eq_true rfl, ?_⟩ | refine ⟨⟨by decide, by decide, by decide⟩, ?_⟩); (conv => whnf))))
    first | rw [look_of e1] | rw [seqD_ref e1]
    ((conv => whnf); (repeat ((first | refine ⟨(by show (0 : Int) < _; first | decide | omega), ?_⟩ | refine ⟨cmul_r (by decide) (by decide), ?_⟩ | refine ⟨cmul_l (by decide) (by decide), ?_⟩ | refine ⟨cmul_l (by omega) (by omega), ?_⟩ | refine ⟨cdiv_v (by omega) (by omega), ?_⟩ | refine ⟨cdiv_c (by decide) (by decide), ?_⟩ | refine ⟨(by decide), ?_⟩ | refine ⟨Nat.le_of_ble_eq_true rfl, ?_⟩ | refine ⟨⟨by decide, by decide, by decide⟩, ?_⟩); (conv => whnf))))
    exact k _ _ (Int.emod_nonneg _ (by omega)) (Int.emod_lt_of_pos _ m0) ⟨x, _, x0, e1⟩ k1
theorem p_source {ns : List Int} {i : Int} {S : Sto} {q : DK} (i0 : 0 ≤ i) (k : ∀ x y : Int, 0 ≤ x → q (.ref S.length) (S ++ [.lst [.int x, .int y]])) : wp_law_source [.ro (ns.map D.int), .int i] S q := by
  have lenE : ((ns.map D.int).length : Int) = ns.length := by rw [List.length_map]
  rw [eq_law_source]
  ((conv => whnf); (repeat ((first | refine ⟨(by show (0 : Int) < _; first | decide | omega), ?_⟩ | refine ⟨cmul_r (by decide) (by decide), ?_⟩ | refine ⟨cmul_l (by decide) (by decide), ?_⟩ | refine ⟨cmul_l (by omega) (by omega), ?_⟩ | refine ⟨cdiv_v (by omega) (by omega), ?_⟩ | refine ⟨cdiv_c (by decide) (by decide), ?_⟩ | refine ⟨(by decide), ?_⟩ | refine ⟨Nat.le_of_ble_eq_true rfl, ?_⟩ | refine ⟨⟨by decide, by decide, by decide⟩, ?_⟩); (conv => whnf))))
  rw [lenE]
  first | refine bcase (fun c => ?_) (fun c => ?_) | refine bcase0 (fun c => ?_) (fun c => ?_) | refine bcase1 (fun c => ?_) (fun c => ?_)
  · conv => whnf
    rw [lenE]
    refine ⟨c, ?_⟩
    conv => whnf
    have r0 := Int.emod_nonneg i (show (ns.length : Int) ≠ 0 by omega)
    have r1 := Int.emod_lt_of_pos i c
    have hr : (ns.map D.int)[(i % (ns.length : Int)).toNat]? = some (.int (ns[(i % (ns.length : Int)).toNat]'(by omega))) := by
      rw [List.getElem?_map, List.getElem?_eq_getElem (by omega)]
      rfl
    rw [atI_pos r0 hr]
    generalize ns[(i % (ns.length : Int)).toNat]'(by omega) = z
    have hz : 0 ≤ (if z < 0 then -z else z) := by split <;> omega
    conv => whnf
    generalize (if z < 0 then -z else z) = z at hz
    rw [eqc_law_source_1]
    ((conv => whnf); (repeat ((first | refine ⟨(by show (0 : Int) < _; first | decide | omega), ?_⟩ | refine ⟨cmul_r (by decide) (by decide), ?_⟩ | refine ⟨cmul_l (by decide) (by decide), ?_⟩ | refine ⟨cmul_l (by omega) (by omega), ?_⟩ | refine ⟨cdiv_v (by omega) (by omega), ?_⟩ | refine ⟨cdiv_c (by decide) (by decide), ?_⟩ | refine ⟨(by decide), ?_⟩ | refine ⟨Nat.le_of_ble_eq_true rfl, ?_⟩ | refine ⟨⟨by decide, by decide, by decide⟩, ?_⟩); (conv => whnf))))
    first | refine bcase (fun c2 => ?_) (fun c2 => ?_) | refine bcase0 (fun c2 => ?_) (fun c2 => ?_) | refine bcase1 (fun c2 => ?_) (fun c2 => ?_)
    · exact k _ _ (Int.le_refl _)
    · exact k _ _ hz
  · ((conv => whnf); (repeat ((first | refine ⟨(by show (0 : Int) < _; first | decide | omega), ?_⟩ | refine ⟨cmul_r (by decide) (by decide), ?_⟩ | refine ⟨cmul_l (by decide) (by decide), ?_⟩ | refine ⟨cmul_l (by omega) (by omega), ?_⟩ | refine ⟨cdiv_v (by omega) (by omega), ?_⟩ | refine ⟨cdiv_c (by decide) (by decide), ?_⟩ | refine ⟨(by decide), ?_⟩ | refine ⟨Nat.le_of_ble_eq_true rfl, ?_⟩ | refine ⟨⟨by decide, by decide, by decide⟩, ?_⟩); (conv => whnf))))
    rw [eqc_law_source_1]
    ((conv => whnf); (repeat ((first | refine ⟨(by show (0 : Int) < _; first | decide | omega), ?_⟩ | refine ⟨cmul_r (by decide) (by decide), ?_⟩ | refine ⟨cmul_l (by decide) (by decide), ?_⟩ | refine ⟨cmul_l (by omega) (by omega), ?_⟩ | refine ⟨cdiv_v (by omega) (by omega), ?_⟩ | refine ⟨cdiv_c (by decide) (by decide), ?_⟩ | refine ⟨(by decide), ?_⟩ | refine ⟨Nat.le_of_ble_eq_true rfl, ?_⟩ | refine ⟨⟨by decide, by decide, by decide⟩, ?_⟩); (conv => whnf))))
    exact k _ _ (Int.le_refl _)

/-! ### facts, states, regions, instructions as data -/
def fl (b : Bool) : Str := if b then "secret" else "public"
structure Fa where
  sec : Bool
  lo : Int
  hi : Int
  cell : Int
  plus : Int
def dFa (f : Fa) : D := .tup [.str (fl f.sec), .int f.lo, .int f.hi, .int f.cell, .int f.plus]
def dSt (fs : List Fa) (c : Bool) : D := .tup (fs.map dFa ++ [.str (fl c)])
structure Rg where
  start : Int
  size : Int
  sec : Bool
  most : Int
def dRg (g : Rg) : D := .tup [.int g.start, .int g.size, .str (fl g.sec), .int g.most]
def dLay (gs : List Rg) : D := .tup (gs.map dRg)
def Rg.has (g : Rg) (x : Int) : Prop := g.start ≤ x ∧ x < g.start + g.size
structure LayOk (gs : List Rg) : Prop where
  sorted : ∀ (i j : Nat) (g h : Rg), i < j → gs[i]? = some g → gs[j]? = some h → g.start + g.size ≤ h.start
  sized : ∀ g ∈ gs, 1 ≤ g.size ∧ 0 ≤ g.start
  most : ∀ g ∈ gs, 0 ≤ g.most ∧ g.most ≤ 65535
  few : gs.length ≤ 1000
def okR (f : Fa) : Prop := 0 ≤ f.lo ∧ f.lo ≤ f.hi ∧ f.hi ≤ 65535 ∧ -1 ≤ f.cell
def ar12 : List Str := ["add", "addc", "sub", "subc", "mul", "high", "div", "and", "or", "xor", "less", "downby"]
inductive Ins
  | set (r w : Int)
  | move (r s : Int)
  | carry (r : Int)
  | load (r s d : Int)
  | store (r s d : Int)
  | clear
  | sh (n : Str) (r s k : Int)
  | ar (n : Str) (r s t : Int)
  | other (n : Str) (xs : List D)
def Ins.row : Ins → List D
  | .set r w => [.str "set", .int r, .int w]
  | .move r s => [.str "move", .int r, .int s]
  | .carry r => [.str "carry", .int r]
  | .load r s d => [.str "load", .int r, .int s, .int d]
  | .store r s d => [.str "store", .int r, .int s, .int d]
  | .clear => [.str "clear"]
  | .sh n r s k => [.str n, .int r, .int s, .int k]
  | .ar n r s t => [.str n, .int r, .int s, .int t]
  | .other n xs => .str n :: xs
def Ins.d (i : Ins) : D := .tup i.row
def rg (r : Int) : Prop := 0 ≤ r ∧ r < 16
def Ins.ok : Ins → Prop
  | .set r w => rg r ∧ 0 ≤ w ∧ w ≤ 65535
  | .move r s => rg r ∧ rg s
  | .carry r => rg r
  | .load r s d => rg r ∧ rg s ∧ 0 ≤ d
  | .store r s d => rg r ∧ rg s ∧ 0 ≤ d
  | .clear => True
  | .sh n r s k => (n = "down" ∨ n = "up") ∧ rg r ∧ rg s ∧ rg k
  | .ar n r s t => n ∈ ar12 ∧ rg r ∧ rg s ∧ rg t
  | .other n _ => n ∈ (["jump", "below", "call", "ret", "halt"] : List Str)
/-! ### the results, as the document has them -/
def asW (l h : Int) : Int × Int := if l < 0 ∨ 65535 < h then (0, 65535) else (l, h)
def shM (n : Str) (l h k : Int) : Int × Int := if n = "down" then (l / 2 ^ k.toNat, h / 2 ^ k.toNat) else asW (l * 2 ^ k.toNat) (h * 2 ^ k.toNat)
def maskM (k : Int) : Int := 1 * 2 ^ k.toNat - 1
def topM (n : Str) (h g : Int) : Int := if n = "and" then min h g else if n = "or" ∨ n = "xor" then maskM ((Builtin.Int.intBits (max h g) : Nat) : Int) else if n = "less" then 1 else h
def moreM (n : Str) : Int := if n = "addc" ∨ n = "subc" then 1 else 0
def opM (n : Str) (f g : Fa) : Int × Int :=
  if n = "add" ∨ n = "addc" then asW (f.lo + g.lo) (f.hi + g.hi + moreM n)
  else if n = "sub" ∨ n = "subc" then asW (f.lo - g.hi - moreM n) (f.hi - g.lo)
  else if n = "mul" then asW (f.lo * g.lo) (f.hi * g.hi)
  else if n = "high" then (f.lo * g.lo / 65536, f.hi * g.hi / 65536)
  else if n = "div" then (if 1 ≤ g.lo then (f.lo / g.hi, f.hi / g.lo) else (0, 65535))
  else (0, topM n f.hi g.hi)
def cellM (f g : Fa) : Int × Int := if f.cell = -1 ∨ g.lo ≠ g.hi ∨ 65535 < f.hi + g.hi ∨ 65535 < f.plus + g.lo then (-1, 0) else (f.cell, f.plus + g.lo)
def safeM (gs : List Rg) (lo hi : Int) : Option Rg := gs.find? fun g => decide (g.start ≤ lo) && decide (hi < g.start + g.size)
def loadM (gs : List Rg) (lo hi : Int) : Fa := match safeM gs lo hi with
  | none => ⟨true, 0, 65535, -1, 0⟩
  | some g => if lo = hi then ⟨g.sec, 0, g.most, lo, 0⟩ else ⟨g.sec, 0, g.most, -1, 0⟩
def chB (n : Str) : Bool := decide (n = "addc" ∨ n = "subc")
def caB (n : Str) : Bool := decide (n ∈ (["add", "addc", "sub", "subc"] : List Str))
def arM (n : Str) (g h : Fa) (c : Bool) : Fa := ⟨g.sec || h.sec || (chB n && c), (opM n g h).1, (opM n g h).2, if n = "add" then (cellM g h).1 else -1, if n = "add" then (cellM g h).2 else 0⟩
def cutF (lo hi : Int) (f : Fa) : Fa := if lo ≤ f.cell ∧ f.cell ≤ hi then ⟨f.sec, f.lo, f.hi, -1, 0⟩ else f
def atF (fs : List Fa) (r : Int) : Fa := fs.getD r.toNat ⟨true, 0, 0, -1, 0⟩
def resM (gs : List Rg) (fs : List Fa) (c : Bool) : Ins → Fa
  | .set _ w => ⟨false, w, w, -1, 0⟩
  | .move _ s => atF fs s
  | .carry _ => ⟨c, 0, 1, -1, 0⟩
  | .load _ s d => loadM gs ((atF fs s).lo + d) ((atF fs s).hi + d)
  | .sh n _ s k => ⟨(atF fs s).sec, (shM n (atF fs s).lo (atF fs s).hi k).1, (shM n (atF fs s).lo (atF fs s).hi k).2, -1, 0⟩
  | .ar n _ s t => arM n (atF fs s) (atF fs t) c
  | _ => ⟨true, 0, 0, -1, 0⟩
def Ins.given : Ins → Int
  | .set r _ => r
  | .move r _ => r
  | .carry r => r
  | .load r _ _ => r
  | .sh _ r _ _ => r
  | .ar _ r _ _ => r
  | _ => -1
def nextF (gs : List Rg) (fs : List Fa) (c : Bool) (i : Ins) : List Fa := match i with
  | .clear => fs
  | .store _ s d => fs.map (cutF ((atF fs s).lo + d) ((atF fs s).hi + d))
  | .other _ _ => fs
  | i => fs.set i.given.toNat (resM gs fs c i)
def nextC (gs : List Rg) (fs : List Fa) (c : Bool) (i : Ins) : Bool := match i with
  | .clear => false
  | .ar n r s t => if caB n = true then (arM n (atF fs s) (atF fs t) c).sec else c
  | _ => c
theorem at_fact {fs : List Fa} {c : Bool} {r : Int} (l : fs.length = 16) (h : rg r) : atI (fs.map dFa ++ [.str (fl c)]) r = some (dFa (atF fs r)) := by
  obtain ⟨h0, h1⟩ := h
  refine atI_pos h0 ?_
  rw [List.getElem?_append_left (by rw [List.length_map]; omega), List.getElem?_map, List.getElem?_eq_getElem (by omega)]
  unfold atF
  rw [List.getD_eq_getElem?_getD, List.getElem?_eq_getElem (by omega)]
  rfl
theorem at_carry {fs : List Fa} {c : Bool} (l : fs.length = 16) : atI (fs.map dFa ++ [.str (fl c)]) 16 = some (.str (fl c)) := by
  refine atI_pos (by decide) ?_
  rw [List.getElem?_append_right (by rw [List.length_map]; exact Nat.le_of_eq l), List.length_map, l]
  rfl
theorem atF_mem {fs : List Fa} {r : Int} (l : fs.length = 16) (h : rg r) : atF fs r ∈ fs := by
  obtain ⟨h0, h1⟩ := h
  unfold atF
  rw [List.getD_eq_getElem?_getD, List.getElem?_eq_getElem (by omega)]
  exact List.getElem_mem _

/-! ### the program's defs of the states, up to next_state -/
/-! ### the program's small defs -/
theorem in_secret (bs : List Bool) : inV (.str "secret") (bs.map fun b => V.str (fl b)) = bs.any id := by
  induction bs with
  | nil => rfl
  | cons b bs ih =>
    have : inV (.str "secret") ((b :: bs).map fun b => V.str (fl b)) = (eqV (.str (fl b)) (.str "secret") || inV (.str "secret") (bs.map fun b => V.str (fl b))) := rfl
    rw [this, ih]
    cases b <;> rfl
theorem flat_flows (bs : List Bool) : flatDs (bs.map fun b => D.str (fl b)) = some (bs.map fun b => V.str (fl b)) := by
  induction bs with
  | nil => rfl
  | cons b bs ih =>
    show (match flatD (.str (fl b)), flatDs (bs.map fun b => D.str (fl b)) with
      | some v, some vs => some (v :: vs)
      | _, _ => none) = _
    rw [ih]
    rfl
theorem p_joined {S : Sto} {n : Nat} {bs : List Bool} {q : DK} (e : S[n]? = some (.lst (bs.map fun b => D.str (fl b)))) (k : q (.str (fl (bs.any id))) S) : wp_joined_flow [.ref n] S q := by
  rw [eq_joined_flow]
  ((conv => whnf); (repeat ((first | refine ⟨(by show (0 : Int) < _; first | decide | omega), ?_⟩ | refine ⟨cmul_r (by decide) (by decide), ?_⟩ | refine ⟨cmul_l (by decide) (by decide), ?_⟩ | refine ⟨cmul_l (by omega) (by omega), ?_⟩ | refine ⟨cdiv_v (by omega) (by omega), ?_⟩ | refine ⟨cdiv_c (by decide) (by decide), ?_⟩ | refine ⟨(by decide), ?_⟩ | refine ⟨Nat.le_of_ble_eq_true rfl, ?_⟩ | refine ⟨⟨by decide, by decide, by decide⟩, ?_⟩); (conv => whnf))))
  first | rw [look_of e] | rw [seqD_ref e]
  ((conv => whnf); (repeat ((first | refine ⟨(by show (0 : Int) < _; first | decide | omega), ?_⟩ | refine ⟨cmul_r (by decide) (by decide), ?_⟩ | refine ⟨cmul_l (by decide) (by decide), ?_⟩ | refine ⟨cmul_l (by omega) (by omega), ?_⟩ | refine ⟨cdiv_v (by omega) (by omega), ?_⟩ | refine ⟨cdiv_c (by decide) (by decide), ?_⟩ | refine ⟨(by decide), ?_⟩ | refine ⟨Nat.le_of_ble_eq_true rfl, ?_⟩ | refine ⟨⟨by decide, by decide, by decide⟩, ?_⟩); (conv => whnf))))
  rw [flat_flows]
  ((conv => whnf); (repeat ((first | refine ⟨(by show (0 : Int) < _; first | decide | omega), ?_⟩ | refine ⟨cmul_r (by decide) (by decide), ?_⟩ | refine ⟨cmul_l (by decide) (by decide), ?_⟩ | refine ⟨cmul_l (by omega) (by omega), ?_⟩ | refine ⟨cdiv_v (by omega) (by omega), ?_⟩ | refine ⟨cdiv_c (by decide) (by decide), ?_⟩ | refine ⟨(by decide), ?_⟩ | refine ⟨Nat.le_of_ble_eq_true rfl, ?_⟩ | refine ⟨⟨by decide, by decide, by decide⟩, ?_⟩); (conv => whnf))))
  rw [in_secret]
  cases h : bs.any id <;> rw [h] at k <;> exact k
theorem p_mask {k : Int} {S : Sto} {q : DK} (h0 : 0 ≤ k) (h1 : k ≤ 1000) (kk : q (.int (maskM k)) S) : wp_mask [.int k] S q := by
  rw [eq_mask]
  conv => whnf
  refine ⟨⟨h0, ?_⟩, kk⟩
  have : (Builtin.Int.intBits 1 : Int) = 1 := by decide +kernel
  omega
theorem p_region_end {g : Rg} {S : Sto} {q : DK} (k : q (.int (g.start + g.size)) S) : wp_region_end [dRg g] S q := by
  rw [eq_region_end]
  exact k
theorem p_without {f : Fa} {S : Sto} {q : DK} (k : q (dFa ⟨f.sec, f.lo, f.hi, -1, 0⟩) S) : wp_without_cell [dFa f] S q := by
  rw [eq_without_cell]
  exact ⟨Nat.le_of_ble_eq_true rfl, k⟩
theorem p_asw {l h : Int} {S : Sto} {q : DK} (k : q (.tup [.int (asW l h).1, .int (asW l h).2]) S) : wp_as_words [.int l, .int h] S q := by
  rw [eq_as_words]
  unfold asW at k
  ((conv => whnf); (repeat ((first | refine ⟨(by show (0 : Int) < _; first | decide | omega), ?_⟩ | refine ⟨cmul_r (by decide) (by decide), ?_⟩ | refine ⟨cmul_l (by decide) (by decide), ?_⟩ | refine ⟨cmul_l (by omega) (by omega), ?_⟩ | refine ⟨cdiv_v (by omega) (by omega), ?_⟩ | refine ⟨cdiv_c (by decide) (by decide), ?_⟩ | refine ⟨(by decide), ?_⟩ | refine ⟨Nat.le_of_ble_eq_true rfl, ?_⟩ | refine ⟨⟨by decide, by decide, by decide⟩, ?_⟩); (conv => whnf))))
  first | refine bcase (fun c => ?_) (fun c => ?_) | refine bcase0 (fun c => ?_) (fun c => ?_) | refine bcase1 (fun c => ?_) (fun c => ?_)
  · rw [if_pos (.inl c)] at k
    exact k
  · ((conv => whnf); (repeat ((first | refine ⟨(by show (0 : Int) < _; first | decide | omega), ?_⟩ | refine ⟨cmul_r (by decide) (by decide), ?_⟩ | refine ⟨cmul_l (by decide) (by decide), ?_⟩ | refine ⟨cmul_l (by omega) (by omega), ?_⟩ | refine ⟨cdiv_v (by omega) (by omega), ?_⟩ | refine ⟨cdiv_c (by decide) (by decide), ?_⟩ | refine ⟨(by decide), ?_⟩ | refine ⟨Nat.le_of_ble_eq_true rfl, ?_⟩ | refine ⟨⟨by decide, by decide, by decide⟩, ?_⟩); (conv => whnf))))
    first | refine bcase (fun d => ?_) (fun d => ?_) | refine bcase0 (fun d => ?_) (fun d => ?_) | refine bcase1 (fun d => ?_) (fun d => ?_)
    · rw [if_pos (.inr d)] at k
      exact k
    · rw [if_neg (fun z => z.elim c d)] at k
      exact k
theorem p_addrs {fs : List Fa} {c : Bool} {n : Str} {r s d : Int} {S : Sto} {q : DK} (l : fs.length = 16) (hs : rg s) (k : q (.tup [.int ((atF fs s).lo + d), .int ((atF fs s).hi + d)]) S) : wp_addresses [dSt fs c, .tup [.str n, .int r, .int s, .int d]] S q := by
  rw [eq_addresses]
  ((conv => whnf); (repeat ((first | refine ⟨(by show (0 : Int) < _; first | decide | omega), ?_⟩ | refine ⟨cmul_r (by decide) (by decide), ?_⟩ | refine ⟨cmul_l (by decide) (by decide), ?_⟩ | refine ⟨cmul_l (by omega) (by omega), ?_⟩ | refine ⟨cdiv_v (by omega) (by omega), ?_⟩ | refine ⟨cdiv_c (by decide) (by decide), ?_⟩ | refine ⟨(by decide), ?_⟩ | refine ⟨Nat.le_of_ble_eq_true rfl, ?_⟩ | refine ⟨⟨by decide, by decide, by decide⟩, ?_⟩); (conv => whnf))))
  rw [at_fact l hs]
  exact k
theorem bits_mono {a b : Int} (h0 : 0 ≤ a) (h : a ≤ b) : Builtin.Int.intBits a ≤ Builtin.Int.intBits b := by
  unfold Builtin.Int.intBits
  by_cases ha : a = 0
  · rw [if_pos (by rw [ha]; rfl)]
    exact Nat.zero_le _
  · rw [if_neg (by simpa using ha), if_neg (by simpa using (show b ≠ 0 by omega))]
    refine Nat.succ_le_succ ((Nat.le_log2 (by omega)).mpr (Nat.le_trans (Nat.log2_self_le (by omega)) (by omega)))
theorem bits_le {x : Int} (h0 : 0 ≤ x) (h1 : x ≤ 65535) : Builtin.Int.intBits x ≤ 16 :=
  Nat.le_trans (bits_mono h0 h1) (by decide +kernel)
theorem cshl {i j : Int} (h0 : 0 ≤ i) (h1 : i ≤ 65535) (j0 : 0 ≤ j) (j1 : j ≤ 1000) : CShl i j := by
  have := bits_le h0 h1
  exact ⟨j0, by omega⟩
theorem p_shifted {n : Str} {l h k : Int} {S : Sto} {q : DK} (l0 : 0 ≤ l) (l1 : l ≤ 65535) (h0 : 0 ≤ h) (h1 : h ≤ 65535) (k0 : 0 ≤ k) (k1 : k ≤ 15) (kk : q (.tup [.int (shM n l h k).1, .int (shM n l h k).2]) S) : wp_shifted [.str n, .int l, .int h, .int k] S q := by
  rw [eq_shifted]
  unfold shM at kk
  ((conv => whnf); (repeat ((first | refine ⟨(by show (0 : Int) < _; first | decide | omega), ?_⟩ | refine ⟨cmul_r (by decide) (by decide), ?_⟩ | refine ⟨cmul_l (by decide) (by decide), ?_⟩ | refine ⟨cmul_l (by omega) (by omega), ?_⟩ | refine ⟨cdiv_v (by omega) (by omega), ?_⟩ | refine ⟨cdiv_c (by decide) (by decide), ?_⟩ | refine ⟨(by decide), ?_⟩ | refine ⟨Nat.le_of_ble_eq_true rfl, ?_⟩ | refine ⟨⟨by decide, by decide, by decide⟩, ?_⟩); (conv => whnf))))
  first | refine bcase (fun c => ?_) (fun c => ?_) | refine bcase0 (fun c => ?_) (fun c => ?_) | refine bcase1 (fun c => ?_) (fun c => ?_)
  · rw [if_pos c] at kk
    exact ⟨k0, k0, kk⟩
  · rw [if_neg c] at kk
    refine ⟨cshl l0 l1 k0 (by omega), ?_⟩
    refine ⟨cshl h0 h1 k0 (by omega), ?_⟩
    exact p_asw kk
theorem min_eq (i j : Int) : (if j < i then j else i) = min i j := by
  split <;> omega
theorem max_eq (i j : Int) : (if j > i then j else i) = max i j := by
  split <;> omega
theorem p_top {n : Str} {h g : Int} {S : Sto} {q : DK} (h0 : 0 ≤ h) (h1 : h ≤ 65535) (g0 : 0 ≤ g) (g1 : g ≤ 65535) (kk : q (.int (topM n h g)) S) : wp_top_of_bits [.str n, .int h, .int g] S q := by
  rw [eq_top_of_bits]
  unfold topM at kk
  ((conv => whnf); (repeat ((first | refine ⟨(by show (0 : Int) < _; first | decide | omega), ?_⟩ | refine ⟨cmul_r (by decide) (by decide), ?_⟩ | refine ⟨cmul_l (by decide) (by decide), ?_⟩ | refine ⟨cmul_l (by omega) (by omega), ?_⟩ | refine ⟨cdiv_v (by omega) (by omega), ?_⟩ | refine ⟨cdiv_c (by decide) (by decide), ?_⟩ | refine ⟨(by decide), ?_⟩ | refine ⟨Nat.le_of_ble_eq_true rfl, ?_⟩ | refine ⟨⟨by decide, by decide, by decide⟩, ?_⟩); (conv => whnf))))
  first | refine bcase (fun c => ?_) (fun c => ?_) | refine bcase0 (fun c => ?_) (fun c => ?_) | refine bcase1 (fun c => ?_) (fun c => ?_)
  · rw [if_pos c] at kk
    ((conv => whnf); (repeat ((first | refine ⟨(by show (0 : Int) < _; first | decide | omega), ?_⟩ | refine ⟨cmul_r (by decide) (by decide), ?_⟩ | refine ⟨cmul_l (by decide) (by decide), ?_⟩ | refine ⟨cmul_l (by omega) (by omega), ?_⟩ | refine ⟨cdiv_v (by omega) (by omega), ?_⟩ | refine ⟨cdiv_c (by decide) (by decide), ?_⟩ | refine ⟨(by decide), ?_⟩ | refine ⟨Nat.le_of_ble_eq_true rfl, ?_⟩ | refine ⟨⟨by decide, by decide, by decide⟩, ?_⟩); (conv => whnf))))
    rw [min_eq]
    exact kk
  · rw [if_neg c] at kk
    have hm : n ∈ (["or", "xor"] : List Str) ↔ n = "or" ∨ n = "xor" := by simp
    ((conv => whnf); (repeat ((first | refine ⟨(by show (0 : Int) < _; first | decide | omega), ?_⟩ | refine ⟨cmul_r (by decide) (by decide), ?_⟩ | refine ⟨cmul_l (by decide) (by decide), ?_⟩ | refine ⟨cmul_l (by omega) (by omega), ?_⟩ | refine ⟨cdiv_v (by omega) (by omega), ?_⟩ | refine ⟨cdiv_c (by decide) (by decide), ?_⟩ | refine ⟨(by decide), ?_⟩ | refine ⟨Nat.le_of_ble_eq_true rfl, ?_⟩ | refine ⟨⟨by decide, by decide, by decide⟩, ?_⟩); (conv => whnf))))
    rw [show inV (V.str n) [V.str "or", V.str "xor"] = decide (n ∈ (["or", "xor"] : List Str)) from inV_str n ["or", "xor"]]
    first | refine bcase (fun c2 => ?_) (fun c2 => ?_) | refine bcase0 (fun c2 => ?_) (fun c2 => ?_) | refine bcase1 (fun c2 => ?_) (fun c2 => ?_)
    · have c2 := hm.mp c2
      rw [if_pos c2] at kk
      ((conv => whnf); (repeat ((first | refine ⟨(by show (0 : Int) < _; first | decide | omega), ?_⟩ | refine ⟨cmul_r (by decide) (by decide), ?_⟩ | refine ⟨cmul_l (by decide) (by decide), ?_⟩ | refine ⟨cmul_l (by omega) (by omega), ?_⟩ | refine ⟨cdiv_v (by omega) (by omega), ?_⟩ | refine ⟨cdiv_c (by decide) (by decide), ?_⟩ | refine ⟨(by decide), ?_⟩ | refine ⟨Nat.le_of_ble_eq_true rfl, ?_⟩ | refine ⟨⟨by decide, by decide, by decide⟩, ?_⟩); (conv => whnf))))
      rw [max_eq]
      have := bits_le (x := max h g) (by omega) (by omega)
      exact p_mask (by omega) (by omega) kk
    · rw [if_neg fun z => c2 (hm.mpr z)] at kk
      ((conv => whnf); (repeat ((first | refine ⟨(by show (0 : Int) < _; first | decide | omega), ?_⟩ | refine ⟨cmul_r (by decide) (by decide), ?_⟩ | refine ⟨cmul_l (by decide) (by decide), ?_⟩ | refine ⟨cmul_l (by omega) (by omega), ?_⟩ | refine ⟨cdiv_v (by omega) (by omega), ?_⟩ | refine ⟨cdiv_c (by decide) (by decide), ?_⟩ | refine ⟨(by decide), ?_⟩ | refine ⟨Nat.le_of_ble_eq_true rfl, ?_⟩ | refine ⟨⟨by decide, by decide, by decide⟩, ?_⟩); (conv => whnf))))
      first | refine bcase (fun c3 => ?_) (fun c3 => ?_) | refine bcase0 (fun c3 => ?_) (fun c3 => ?_) | refine bcase1 (fun c3 => ?_) (fun c3 => ?_)
      · rw [if_pos c3] at kk
        exact kk
      · rw [if_neg c3] at kk
        exact kk
/-- which region holds an address -/
def regZ (gs : List Rg) (x z : Int) : Prop := (z = -1 ∧ ∀ g ∈ gs, ¬ g.has x) ∨ ∃ (j : Nat) (g : Rg), z = j ∧ gs[j]? = some g ∧ g.has x
theorem has_uni {gs : List Rg} (ok : LayOk gs) {i j : Nat} {g h : Rg} {x : Int} (hi : gs[i]? = some g) (hj : gs[j]? = some h) (a : g.has x) (b : h.has x) : i = j := by
  obtain ⟨a1, a2⟩ := a
  obtain ⟨b1, b2⟩ := b
  rcases Nat.lt_trichotomy i j with z | z | z
  · have := ok.sorted _ _ _ _ z hi hj
    omega
  · exact z
  · have := ok.sorted _ _ _ _ z hj hi
    omega
theorem lay_at {gs : List Rg} {j : Nat} {g : Rg} (h : gs[j]? = some g) : atI (gs.map dRg) (j : Int) = some (dRg g) := atI_cast (by rw [List.getElem?_map, h]; rfl)
theorem p_region_at {gs : List Rg} {x : Int} {S : Sto} {q : DK} (ok : LayOk gs) (k : ∀ z, regZ gs x z → q (.int z) S) : wp_region_at [dLay gs, .int x] S q := by
  rw [eq_region_at]
  conv => whnf
  refine ⟨fun m ρ S' => ∃ (lo hi : Nat) (v4 : Option D), ρ = [some (dLay gs), some (.int x), some (.int lo), some (.int hi), v4] ∧ S' = S ∧ m = hi - lo ∧ lo ≤ hi ∧ hi ≤ gs.length ∧
    (∀ (i : Nat) (g : Rg), i < lo → gs[i]? = some g → g.start ≤ x) ∧ (∀ (i : Nat) (g : Rg), hi ≤ i → gs[i]? = some g → x < g.start),
    ⟨_, 0, gs.length, none, ?_, rfl, rfl, Nat.zero_le _, Nat.le_refl _, fun i g h => absurd h (Nat.not_lt_zero _), fun i g h e => by rw [List.getElem?_eq_none h] at e; cases e⟩, ?_⟩
  · show [_, _, _, some (D.int ((gs.map dRg).length : Nat)), _] = _
    rw [List.length_map]
    rfl
  rintro m ρ S' ⟨lo, hi, v4, rfl, rfl, rfl, h1, h2, h3, h4⟩
  conv => whnf
  first | refine bcase (fun e => ?_) (fun e => ?_) | refine bcase0 (fun e => ?_) (fun e => ?_) | refine bcase1 (fun e => ?_) (fun e => ?_)
  · have em : ((lo : Int) + (hi : Int)) / 2 = (((lo + hi) / 2 : Nat) : Int) := by omega
    have hm : (lo + hi) / 2 < gs.length := by omega
    have hg := List.getElem?_eq_getElem hm
    generalize gs[(lo + hi) / 2]'hm = g at hg
    ((conv => whnf); (repeat ((first | refine ⟨(by show (0 : Int) < _; first | decide | omega), ?_⟩ | refine ⟨cmul_r (by decide) (by decide), ?_⟩ | refine ⟨cmul_l (by decide) (by decide), ?_⟩ | refine ⟨cmul_l (by omega) (by omega), ?_⟩ | refine ⟨cdiv_v (by omega) (by omega), ?_⟩ | refine ⟨cdiv_c (by decide) (by decide), ?_⟩ | refine ⟨(by decide), ?_⟩ | refine ⟨Nat.le_of_ble_eq_true rfl, ?_⟩ | refine ⟨⟨by decide, by decide, by decide⟩, ?_⟩); (conv => whnf))))
    rw [em, lay_at hg]
    ((conv => whnf); (repeat ((first | refine ⟨(by show (0 : Int) < _; first | decide | omega), ?_⟩ | refine ⟨cmul_r (by decide) (by decide), ?_⟩ | refine ⟨cmul_l (by decide) (by decide), ?_⟩ | refine ⟨cmul_l (by omega) (by omega), ?_⟩ | refine ⟨cdiv_v (by omega) (by omega), ?_⟩ | refine ⟨cdiv_c (by decide) (by decide), ?_⟩ | refine ⟨(by decide), ?_⟩ | refine ⟨Nat.le_of_ble_eq_true rfl, ?_⟩ | refine ⟨⟨by decide, by decide, by decide⟩, ?_⟩); (conv => whnf))))
    first | refine bcase (fun e2 => ?_) (fun e2 => ?_) | refine bcase0 (fun e2 => ?_) (fun e2 => ?_) | refine bcase1 (fun e2 => ?_) (fun e2 => ?_)
    · refine ⟨hi - ((lo + hi) / 2 + 1), by omega, (lo + hi) / 2 + 1, hi, some (.int (((lo + hi) / 2 : Nat) : Int)), ?_, rfl, rfl, by omega, h2, fun i g' hi2 hg' => ?_, h4⟩
      · rfl
      · rcases Nat.lt_or_ge i ((lo + hi) / 2) with z | z
        · have := ok.sorted i _ _ _ z hg' hg
          have := (ok.sized g' (List.mem_of_getElem? hg')).1
          omega
        · have : i = (lo + hi) / 2 := by omega
          subst this
          rw [hg] at hg'
          cases hg'
          exact e2
    · refine ⟨(lo + hi) / 2 - lo, by omega, lo, (lo + hi) / 2, some (.int (((lo + hi) / 2 : Nat) : Int)), ?_, rfl, rfl, by omega, by omega, h3, fun i g' hi2 hg' => ?_⟩
      · rfl
      · rcases Nat.lt_or_ge ((lo + hi) / 2) i with z | z
        · have := ok.sorted _ i _ _ z hg hg'
          have := (ok.sized g (List.mem_of_getElem? hg)).1
          omega
        · have : i = (lo + hi) / 2 := by omega
          subst this
          rw [hg] at hg'
          cases hg'
          omega
  · have elh : lo = hi := by omega
    subst elh
    have qn : (∀ g ∈ gs, ¬ g.has x) → q (.int (-1)) S' := fun z => k _ (.inl ⟨rfl, z⟩)
    ((conv => whnf); (repeat ((first | refine ⟨(by show (0 : Int) < _; first | decide | omega), ?_⟩ | refine ⟨cmul_r (by decide) (by decide), ?_⟩ | refine ⟨cmul_l (by decide) (by decide), ?_⟩ | refine ⟨cmul_l (by omega) (by omega), ?_⟩ | refine ⟨cdiv_v (by omega) (by omega), ?_⟩ | refine ⟨cdiv_c (by decide) (by decide), ?_⟩ | refine ⟨(by decide), ?_⟩ | refine ⟨Nat.le_of_ble_eq_true rfl, ?_⟩ | refine ⟨⟨by decide, by decide, by decide⟩, ?_⟩); (conv => whnf))))
    first | refine bcase (fun e2 => ?_) (fun e2 => ?_) | refine bcase0 (fun e2 => ?_) (fun e2 => ?_) | refine bcase1 (fun e2 => ?_) (fun e2 => ?_)
    · refine qn fun g hg hs => ?_
      obtain ⟨i, hi⟩ := List.mem_iff_getElem?.mp hg
      have := h4 i g (by omega) hi
      have := hs.1
      omega
    · have hm : lo - 1 < gs.length := by omega
      have hg := List.getElem?_eq_getElem hm
      generalize gs[lo - 1]'hm = g at hg
      have em : (lo : Int) - 1 = ((lo - 1 : Nat) : Int) := by omega
      have hst := h3 _ _ (show lo - 1 < lo by omega) hg
      ((conv => whnf); (repeat ((first | refine ⟨(by show (0 : Int) < _; first | decide | omega), ?_⟩ | refine ⟨cmul_r (by decide) (by decide), ?_⟩ | refine ⟨cmul_l (by decide) (by decide), ?_⟩ | refine ⟨cmul_l (by omega) (by omega), ?_⟩ | refine ⟨cdiv_v (by omega) (by omega), ?_⟩ | refine ⟨cdiv_c (by decide) (by decide), ?_⟩ | refine ⟨(by decide), ?_⟩ | refine ⟨Nat.le_of_ble_eq_true rfl, ?_⟩ | refine ⟨⟨by decide, by decide, by decide⟩, ?_⟩); (conv => whnf))))
      rw [em, lay_at hg]
      refine p_region_end ?_
      conv => whnf
      first | refine bcase (fun e3 => ?_) (fun e3 => ?_) | refine bcase0 (fun e3 => ?_) (fun e3 => ?_) | refine bcase1 (fun e3 => ?_) (fun e3 => ?_)
      · refine qn fun g' hgm hs => ?_
        obtain ⟨i, hi⟩ := List.mem_iff_getElem?.mp hgm
        obtain ⟨hs1, hs2⟩ := hs
        rcases Nat.lt_trichotomy i (lo - 1) with z | z | z
        · have := ok.sorted _ _ _ _ z hi hg
          omega
        · subst z
          rw [hg] at hi
          cases hi
          omega
        · have := h4 i g' (by omega) hi
          omega
      · exact k _ (.inr ⟨lo - 1, g, em, hg, hst, by omega⟩)
def oRg : Option Rg → D
  | none => .non
  | some g => dRg g
theorem safe_of {gs : List Rg} (ok : LayOk gs) {lo hi : Int} (hle : lo ≤ hi) {j : Nat} {g : Rg} (hg : gs[j]? = some g) (hs : g.has lo) : safeM gs lo hi = if g.start + g.size ≤ hi then none else some g := by
  unfold safeM
  split
  · rename_i h
    refine List.find?_eq_none.mpr fun g' hm => ?_
    obtain ⟨i, hi'⟩ := List.mem_iff_getElem?.mp hm
    by_cases z : g'.has lo
    · have := has_uni ok hi' hg z hs
      subst this
      rw [hg] at hi'
      cases hi'
      simp
      omega
    · unfold Rg.has at z
      simp
      omega
  · rename_i h
    have mm : g ∈ gs := List.mem_of_getElem? hg
    have yes : (decide (g.start ≤ lo) && decide (hi < g.start + g.size)) = true := by
      have := hs.1
      simp
      omega
    cases e : gs.find? fun g => decide (g.start ≤ lo) && decide (hi < g.start + g.size) with
    | none => exact absurd yes (by simpa using List.find?_eq_none.mp e g mm)
    | some g' =>
      have y' := List.find?_some e
      obtain ⟨i, hi'⟩ := List.mem_iff_getElem?.mp (List.mem_of_find?_eq_some e)
      simp at y'
      have := has_uni ok hi' hg ⟨y'.1, by omega⟩ hs
      subst this
      rw [hg] at hi'
      cases hi'
      rfl
theorem safe_no {gs : List Rg} {lo hi : Int} (hle : lo ≤ hi) (h : ∀ g ∈ gs, ¬ g.has lo) : safeM gs lo hi = none := by
  refine List.find?_eq_none.mpr fun g hm => ?_
  have := h g hm
  unfold Rg.has at this
  simp
  omega
theorem p_safe {gs : List Rg} {lo hi : Int} {S : Sto} {q : DK} (ok : LayOk gs) (hle : lo ≤ hi) (k : q (oRg (safeM gs lo hi)) S) : wp_safe_region [dLay gs, .int lo, .int hi] S q := by
  rw [eq_safe_region]
  conv => whnf
  refine p_region_at ok fun z hz => ?_
  rcases hz with ⟨rfl, hz⟩ | ⟨j, g, rfl, hg, hs⟩
  · rw [safe_no hle hz] at k
    exact k
  · rw [safe_of ok hle hg hs] at k
    conv => whnf
    rw [lay_at hg]
    refine p_region_end ?_
    conv => whnf
    first | refine bcase (fun e3 => ?_) (fun e3 => ?_) | refine bcase0 (fun e3 => ?_) (fun e3 => ?_) | refine bcase1 (fun e3 => ?_) (fun e3 => ?_)
    · rw [if_pos e3] at k
      exact k
    · rw [if_neg e3] at k
      conv => whnf
      rw [lay_at hg]
      exact k
theorem p_loaded {gs : List Rg} {lo hi : Int} {S : Sto} {q : DK} (ok : LayOk gs) (hle : lo ≤ hi) (k : q (dFa (loadM gs lo hi)) S) : wp_loaded_fact [dLay gs, .int lo, .int hi] S q := by
  rw [eq_loaded_fact]
  unfold loadM at k
  conv => whnf
  refine p_safe ok hle ?_
  cases h : safeM gs lo hi with
  | none =>
    rw [h] at k
    exact ⟨Nat.le_of_ble_eq_true rfl, k⟩
  | some g =>
    rw [h] at k
    dsimp only at k
    ((conv => whnf); (repeat ((first | refine ⟨(by show (0 : Int) < _; first | decide | omega), ?_⟩ | refine ⟨cmul_r (by decide) (by decide), ?_⟩ | refine ⟨cmul_l (by decide) (by decide), ?_⟩ | refine ⟨cmul_l (by omega) (by omega), ?_⟩ | refine ⟨cdiv_v (by omega) (by omega), ?_⟩ | refine ⟨cdiv_c (by decide) (by decide), ?_⟩ | refine ⟨(by decide), ?_⟩ | refine ⟨Nat.le_of_ble_eq_true rfl, ?_⟩ | refine ⟨⟨by decide, by decide, by decide⟩, ?_⟩); (conv => whnf))))
    first | refine bcase (fun e => ?_) (fun e => ?_) | refine bcase0 (fun e => ?_) (fun e => ?_) | refine bcase1 (fun e => ?_) (fun e => ?_)
    · rw [if_pos e] at k
      exact k
    · rw [if_neg e] at k
      exact ⟨Nat.le_of_ble_eq_true rfl, k⟩
theorem p_cell {f g : Fa} {S : Sto} {q : DK} (k : q (.tup [.int (cellM f g).1, .int (cellM f g).2]) S) : wp_cell_of_sum [dFa f, dFa g] S q := by
  rw [eq_cell_of_sum]
  unfold cellM at k
  ((conv => whnf); (repeat ((first | refine ⟨(by show (0 : Int) < _; first | decide | omega), ?_⟩ | refine ⟨cmul_r (by decide) (by decide), ?_⟩ | refine ⟨cmul_l (by decide) (by decide), ?_⟩ | refine ⟨cmul_l (by omega) (by omega), ?_⟩ | refine ⟨cdiv_v (by omega) (by omega), ?_⟩ | refine ⟨cdiv_c (by decide) (by decide), ?_⟩ | refine ⟨(by decide), ?_⟩ | refine ⟨Nat.le_of_ble_eq_true rfl, ?_⟩ | refine ⟨⟨by decide, by decide, by decide⟩, ?_⟩); (conv => whnf))))
  first | refine bcase (fun c1 => ?_) (fun c1 => ?_) | refine bcase0 (fun c1 => ?_) (fun c1 => ?_) | refine bcase1 (fun c1 => ?_) (fun c1 => ?_)
  · rw [if_pos (.inl c1)] at k
    exact k
  · ((conv => whnf); (repeat ((first | refine ⟨(by show (0 : Int) < _; first | decide | omega), ?_⟩ | refine ⟨cmul_r (by decide) (by decide), ?_⟩ | refine ⟨cmul_l (by decide) (by decide), ?_⟩ | refine ⟨cmul_l (by omega) (by omega), ?_⟩ | refine ⟨cdiv_v (by omega) (by omega), ?_⟩ | refine ⟨cdiv_c (by decide) (by decide), ?_⟩ | refine ⟨(by decide), ?_⟩ | refine ⟨Nat.le_of_ble_eq_true rfl, ?_⟩ | refine ⟨⟨by decide, by decide, by decide⟩, ?_⟩); (conv => whnf))))
    first | refine bcase (fun c2 => ?_) (fun c2 => ?_) | refine bcase0 (fun c2 => ?_) (fun c2 => ?_) | refine bcase1 (fun c2 => ?_) (fun c2 => ?_)
    · rw [if_pos (.inr (.inl c2))] at k
      exact k
    · ((conv => whnf); (repeat ((first | refine ⟨(by show (0 : Int) < _; first | decide | omega), ?_⟩ | refine ⟨cmul_r (by decide) (by decide), ?_⟩ | refine ⟨cmul_l (by decide) (by decide), ?_⟩ | refine ⟨cmul_l (by omega) (by omega), ?_⟩ | refine ⟨cdiv_v (by omega) (by omega), ?_⟩ | refine ⟨cdiv_c (by decide) (by decide), ?_⟩ | refine ⟨(by decide), ?_⟩ | refine ⟨Nat.le_of_ble_eq_true rfl, ?_⟩ | refine ⟨⟨by decide, by decide, by decide⟩, ?_⟩); (conv => whnf))))
      first | refine bcase (fun c3 => ?_) (fun c3 => ?_) | refine bcase0 (fun c3 => ?_) (fun c3 => ?_) | refine bcase1 (fun c3 => ?_) (fun c3 => ?_)
      · rw [if_pos (.inr (.inr (.inl c3)))] at k
        exact k
      · ((conv => whnf); (repeat ((first | refine ⟨(by show (0 : Int) < _; first | decide | omega), ?_⟩ | refine ⟨cmul_r (by decide) (by decide), ?_⟩ | refine ⟨cmul_l (by decide) (by decide), ?_⟩ | refine ⟨cmul_l (by omega) (by omega), ?_⟩ | refine ⟨cdiv_v (by omega) (by omega), ?_⟩ | refine ⟨cdiv_c (by decide) (by decide), ?_⟩ | refine ⟨(by decide), ?_⟩ | refine ⟨Nat.le_of_ble_eq_true rfl, ?_⟩ | refine ⟨⟨by decide, by decide, by decide⟩, ?_⟩); (conv => whnf))))
        first | refine bcase (fun c4 => ?_) (fun c4 => ?_) | refine bcase0 (fun c4 => ?_) (fun c4 => ?_) | refine bcase1 (fun c4 => ?_) (fun c4 => ?_)
        · rw [if_pos (.inr (.inr (.inr c4)))] at k
          exact k
        · rw [if_neg (fun z => z.elim c1 fun z => z.elim (fun y => y c2) fun z => z.elim c3 c4)] at k
          exact k
theorem mem_ca (n : Str) : n ∈ (["add", "addc", "sub", "subc"] : List Str) ↔ n = "add" ∨ n = "addc" ∨ n = "sub" ∨ n = "subc" := by simp
theorem mem_ch (n : Str) : n ∈ (["addc", "subc"] : List Str) ↔ n = "addc" ∨ n = "subc" := by simp
theorem mem_aa (n : Str) : n ∈ (["add", "addc"] : List Str) ↔ n = "add" ∨ n = "addc" := by simp
theorem p_operated {n : Str} {f g : Fa} {S : Sto} {q : DK} (hn : n ∈ ar12) (k1 : okR f) (k2 : okR g) (k : q (.tup [.int (opM n f g).1, .int (opM n f g).2]) S) : wp_operated [.str n, dFa f, dFa g] S q := by
  obtain ⟨f0, f1, f2, _⟩ := k1
  obtain ⟨g0, g1, g2, _⟩ := k2
  unfold ar12 at hn
  simp only [List.mem_cons, List.not_mem_nil, or_false] at hn
  rw [eq_operated]
  rcases hn with rfl | rfl | rfl | rfl | rfl | rfl | rfl | rfl | rfl | rfl | rfl | rfl
  case inr.inr.inr.inr.inr.inr.inl =>
    ((conv => whnf); (repeat ((first | refine ⟨(by show (0 : Int) < _; first | decide | omega), ?_⟩ | refine ⟨cmul_r (by decide) (by decide), ?_⟩ | refine ⟨cmul_l (by decide) (by decide), ?_⟩ | refine ⟨cmul_l (by omega) (by omega), ?_⟩ | refine ⟨cdiv_v (by omega) (by omega), ?_⟩ | refine ⟨cdiv_c (by decide) (by decide), ?_⟩ | refine ⟨(by decide), ?_⟩ | refine ⟨Nat.le_of_ble_eq_true rfl, ?_⟩ | refine ⟨⟨by decide, by decide, by decide⟩, ?_⟩); (conv => whnf))))
    by_cases c : 1 ≤ g.lo
    · refine (?_ : @Bool.rec (fun _ => Prop) _ _ (decide (1 ≤ g.lo)))
      refine btrue (decide_eq_true c) ?_
      rw [show opM "div" f g = (f.lo / g.hi, f.hi / g.lo) from if_pos c] at k
      ((conv => whnf); (repeat ((first | refine ⟨(by show (0 : Int) < _; first | decide | omega), ?_⟩ | refine ⟨cmul_r (by decide) (by decide), ?_⟩ | refine ⟨cmul_l (by decide) (by decide), ?_⟩ | refine ⟨cmul_l (by omega) (by omega), ?_⟩ | refine ⟨cdiv_v (by omega) (by omega), ?_⟩ | refine ⟨cdiv_c (by decide) (by decide), ?_⟩ | refine ⟨(by decide), ?_⟩ | refine ⟨Nat.le_of_ble_eq_true rfl, ?_⟩ | refine ⟨⟨by decide, by decide, by decide⟩, ?_⟩); (conv => whnf))))
      exact k
    · refine bfalse (decide_eq_false c) ?_
      rw [show opM "div" f g = (0, 65535) from if_neg c] at k
      exact k
  all_goals first
    | (((conv => whnf); (repeat ((first | refine ⟨(by show (0 : Int) < _; first | decide | omega), ?_⟩ | refine ⟨cmul_r (by decide) (by decide), ?_⟩ | refine ⟨cmul_l (by decide) (by decide), ?_⟩ | refine ⟨cmul_l (by omega) (by omega), ?_⟩ | refine ⟨cdiv_v (by omega) (by omega), ?_⟩ | refine ⟨cdiv_c (by decide) (by decide), ?_⟩ | refine ⟨(by decide), ?_⟩ | refine ⟨Nat.le_of_ble_eq_true rfl, ?_⟩ | refine ⟨⟨by decide, by decide, by decide⟩, ?_⟩); (conv => whnf)))); exact p_asw k)
    | (((conv => whnf); (repeat ((first | refine ⟨(by show (0 : Int) < _; first | decide | omega), ?_⟩ | refine ⟨cmul_r (by decide) (by decide), ?_⟩ | refine ⟨cmul_l (by decide) (by decide), ?_⟩ | refine ⟨cmul_l (by omega) (by omega), ?_⟩ | refine ⟨cdiv_v (by omega) (by omega), ?_⟩ | refine ⟨cdiv_c (by decide) (by decide), ?_⟩ | refine ⟨(by decide), ?_⟩ | refine ⟨Nat.le_of_ble_eq_true rfl, ?_⟩ | refine ⟨⟨by decide, by decide, by decide⟩, ?_⟩); (conv => whnf)))); exact k)
    | (((conv => whnf); (repeat ((first | refine ⟨(by show (0 : Int) < _; first | decide | omega), ?_⟩ | refine ⟨cmul_r (by decide) (by decide), ?_⟩ | refine ⟨cmul_l (by decide) (by decide), ?_⟩ | refine ⟨cmul_l (by omega) (by omega), ?_⟩ | refine ⟨cdiv_v (by omega) (by omega), ?_⟩ | refine ⟨cdiv_c (by decide) (by decide), ?_⟩ | refine ⟨(by decide), ?_⟩ | refine ⟨Nat.le_of_ble_eq_true rfl, ?_⟩ | refine ⟨⟨by decide, by decide, by decide⟩, ?_⟩); (conv => whnf)))); exact p_top (by omega) (by omega) (by omega) (by omega) k)
theorem p_result {gs : List Rg} {fs : List Fa} {c : Bool} {i : Ins} {S : Sto} {q : DK} (ok : LayOk gs) (l : fs.length = 16) (kf : ∀ f ∈ fs, okR f) (hi : i.ok) (hg : 0 ≤ i.given) (k : ∀ J, q (dFa (resM gs fs c i)) (S ++ J)) : wp_result_fact [dLay gs, dSt fs c, i.d] S q := by
  have k0 := k []
  rw [List.append_nil] at k0
  rw [eq_result_fact]
  cases i with
  | set r w => exact ⟨Nat.le_of_ble_eq_true rfl, k0⟩
  | move r s =>
    ((conv => whnf); (repeat ((first | refine ⟨(by show (0 : Int) < _; first | decide | omega), ?_⟩ | refine ⟨cmul_r (by decide) (by decide), ?_⟩ | refine ⟨cmul_l (by decide) (by decide), ?_⟩ | refine ⟨cmul_l (by omega) (by omega), ?_⟩ | refine ⟨cdiv_v (by omega) (by omega), ?_⟩ | refine ⟨cdiv_c (by decide) (by decide), ?_⟩ | refine ⟨(by decide), ?_⟩ | refine ⟨Nat.le_of_ble_eq_true rfl, ?_⟩ | refine ⟨⟨by decide, by decide, by decide⟩, ?_⟩); (conv => whnf))))
    rw [at_fact l hi.2]
    exact k0
  | carry r =>
    ((conv => whnf); (repeat ((first | refine ⟨(by show (0 : Int) < _; first | decide | omega), ?_⟩ | refine ⟨cmul_r (by decide) (by decide), ?_⟩ | refine ⟨cmul_l (by decide) (by decide), ?_⟩ | refine ⟨cmul_l (by omega) (by omega), ?_⟩ | refine ⟨cdiv_v (by omega) (by omega), ?_⟩ | refine ⟨cdiv_c (by decide) (by decide), ?_⟩ | refine ⟨(by decide), ?_⟩ | refine ⟨Nat.le_of_ble_eq_true rfl, ?_⟩ | refine ⟨⟨by decide, by decide, by decide⟩, ?_⟩); (conv => whnf))))
    rw [at_carry l]
    exact ⟨Nat.le_of_ble_eq_true rfl, k0⟩
  | load r s d =>
    have := kf _ (atF_mem l hi.2.1)
    ((conv => whnf); (repeat ((first | refine ⟨(by show (0 : Int) < _; first | decide | omega), ?_⟩ | refine ⟨cmul_r (by decide) (by decide), ?_⟩ | refine ⟨cmul_l (by decide) (by decide), ?_⟩ | refine ⟨cmul_l (by omega) (by omega), ?_⟩ | refine ⟨cdiv_v (by omega) (by omega), ?_⟩ | refine ⟨cdiv_c (by decide) (by decide), ?_⟩ | refine ⟨(by decide), ?_⟩ | refine ⟨Nat.le_of_ble_eq_true rfl, ?_⟩ | refine ⟨⟨by decide, by decide, by decide⟩, ?_⟩); (conv => whnf))))
    refine p_addrs l hi.2.1 ?_
    ((conv => whnf); (repeat ((first | refine ⟨(by show (0 : Int) < _; first | decide | omega), ?_⟩ | refine ⟨cmul_r (by decide) (by decide), ?_⟩ | refine ⟨cmul_l (by decide) (by decide), ?_⟩ | refine ⟨cmul_l (by omega) (by omega), ?_⟩ | refine ⟨cdiv_v (by omega) (by omega), ?_⟩ | refine ⟨cdiv_c (by decide) (by decide), ?_⟩ | refine ⟨(by decide), ?_⟩ | refine ⟨Nat.le_of_ble_eq_true rfl, ?_⟩ | refine ⟨⟨by decide, by decide, by decide⟩, ?_⟩); (conv => whnf))))
    exact p_loaded ok (by have := this.2.1; omega) k0
  | store r s d => exact absurd hg (by show ¬ (0 : Int) ≤ -1; decide)
  | clear => exact absurd hg (by show ¬ (0 : Int) ≤ -1; decide)
  | other n xs => exact absurd hg (by show ¬ (0 : Int) ≤ -1; decide)
  | sh n r s kk =>
    obtain ⟨hn, hr, hs, hk⟩ := hi
    obtain ⟨f0, f1, f2, _⟩ := kf _ (atF_mem l hs)
    rcases hn with rfl | rfl
    all_goals
      ((conv => whnf); (repeat ((first | refine ⟨(by show (0 : Int) < _; first | decide | omega), ?_⟩ | refine ⟨cmul_r (by decide) (by decide), ?_⟩ | refine ⟨cmul_l (by decide) (by decide), ?_⟩ | refine ⟨cmul_l (by omega) (by omega), ?_⟩ | refine ⟨cdiv_v (by omega) (by omega), ?_⟩ | refine ⟨cdiv_c (by decide) (by decide), ?_⟩ | refine ⟨(by decide), ?_⟩ | refine ⟨Nat.le_of_ble_eq_true rfl, ?_⟩ | refine ⟨⟨by decide, by decide, by decide⟩, ?_⟩); (conv => whnf))))
      rw [at_fact l hs]
      ((conv => whnf); (repeat ((first | refine ⟨(by show (0 : Int) < _; first | decide | omega), ?_⟩ | refine ⟨cmul_r (by decide) (by decide), ?_⟩ | refine ⟨cmul_l (by decide) (by decide), ?_⟩ | refine ⟨cmul_l (by omega) (by omega), ?_⟩ | refine ⟨cdiv_v (by omega) (by omega), ?_⟩ | refine ⟨cdiv_c (by decide) (by decide), ?_⟩ | refine ⟨(by decide), ?_⟩ | refine ⟨Nat.le_of_ble_eq_true rfl, ?_⟩ | refine ⟨⟨by decide, by decide, by decide⟩, ?_⟩); (conv => whnf))))
      refine p_shifted (by omega) (by omega) (by omega) (by omega) hk.1 (by have := hk.2; omega) ?_
      exact ⟨Nat.le_of_ble_eq_true rfl, k0⟩
  | ar n r s t =>
    obtain ⟨hn, hr, hs, ht⟩ := hi
    have ks := kf _ (atF_mem l hs)
    have kt := kf _ (atF_mem l ht)
    have hop := @p_operated n (atF fs s) (atF fs t)
    have j2 : ∀ a b : Bool, [a, b].any id = (a || b || (false && c)) := by intro a b; cases a <;> cases b <;> rfl
    have j3 : ∀ a b : Bool, [a, b, c].any id = (a || b || (true && c)) := by intro a b; cases a <;> cases b <;> cases c <;> rfl
    have hn' := hn
    unfold ar12 at hn
    simp only [List.mem_cons, List.not_mem_nil, or_false] at hn
    rcases hn with rfl | rfl | rfl | rfl | rfl | rfl | rfl | rfl | rfl | rfl | rfl | rfl
    all_goals
      ((conv => whnf); (repeat ((first | refine ⟨(by show (0 : Int) < _; first | decide | omega), ?_⟩ | refine ⟨cmul_r (by decide) (by decide), ?_⟩ | refine ⟨cmul_l (by decide) (by decide), ?_⟩ | refine ⟨cmul_l (by omega) (by omega), ?_⟩ | refine ⟨cdiv_v (by omega) (by omega), ?_⟩ | refine ⟨cdiv_c (by decide) (by decide), ?_⟩ | refine ⟨(by decide), ?_⟩ | refine ⟨Nat.le_of_ble_eq_true rfl, ?_⟩ | refine ⟨⟨by decide, by decide, by decide⟩, ?_⟩); (conv => whnf))))
      rw [at_fact l hs]
      ((conv => whnf); (repeat ((first | refine ⟨(by show (0 : Int) < _; first | decide | omega), ?_⟩ | refine ⟨cmul_r (by decide) (by decide), ?_⟩ | refine ⟨cmul_l (by decide) (by decide), ?_⟩ | refine ⟨cmul_l (by omega) (by omega), ?_⟩ | refine ⟨cdiv_v (by omega) (by omega), ?_⟩ | refine ⟨cdiv_c (by decide) (by decide), ?_⟩ | refine ⟨(by decide), ?_⟩ | refine ⟨Nat.le_of_ble_eq_true rfl, ?_⟩ | refine ⟨⟨by decide, by decide, by decide⟩, ?_⟩); (conv => whnf))))
      rw [at_fact l ht]
      ((conv => whnf); (repeat ((first | refine ⟨(by show (0 : Int) < _; first | decide | omega), ?_⟩ | refine ⟨cmul_r (by decide) (by decide), ?_⟩ | refine ⟨cmul_l (by decide) (by decide), ?_⟩ | refine ⟨cmul_l (by omega) (by omega), ?_⟩ | refine ⟨cdiv_v (by omega) (by omega), ?_⟩ | refine ⟨cdiv_c (by decide) (by decide), ?_⟩ | refine ⟨(by decide), ?_⟩ | refine ⟨Nat.le_of_ble_eq_true rfl, ?_⟩ | refine ⟨⟨by decide, by decide, by decide⟩, ?_⟩); (conv => whnf))))
    all_goals first
      | (rw [eqc_result_fact_1]
         ((conv => whnf); (repeat ((first | refine ⟨(by show (0 : Int) < _; first | decide | omega), ?_⟩ | refine ⟨cmul_r (by decide) (by decide), ?_⟩ | refine ⟨cmul_l (by decide) (by decide), ?_⟩ | refine ⟨cmul_l (by omega) (by omega), ?_⟩ | refine ⟨cdiv_v (by omega) (by omega), ?_⟩ | refine ⟨cdiv_c (by decide) (by decide), ?_⟩ | refine ⟨(by decide), ?_⟩ | refine ⟨Nat.le_of_ble_eq_true rfl, ?_⟩ | refine ⟨⟨by decide, by decide, by decide⟩, ?_⟩); (conv => whnf))))
         refine hop hn' ks kt ?_
         ((conv => whnf); (repeat ((first | refine ⟨(by show (0 : Int) < _; first | decide | omega), ?_⟩ | refine ⟨cmul_r (by decide) (by decide), ?_⟩ | refine ⟨cmul_l (by decide) (by decide), ?_⟩ | refine ⟨cmul_l (by omega) (by omega), ?_⟩ | refine ⟨cdiv_v (by omega) (by omega), ?_⟩ | refine ⟨cdiv_c (by decide) (by decide), ?_⟩ | refine ⟨(by decide), ?_⟩ | refine ⟨Nat.le_of_ble_eq_true rfl, ?_⟩ | refine ⟨⟨by decide, by decide, by decide⟩, ?_⟩); (conv => whnf))))
         refine p_joined (bs := [(atF fs s).sec, (atF fs t).sec]) (get_new S _) ?_
         rw [j2]
         exact ⟨Nat.le_of_ble_eq_true rfl, k [_]⟩)
      | (rw [eqc_result_fact_1]
         ((conv => whnf); (repeat ((first | refine ⟨(by show (0 : Int) < _; first | decide | omega), ?_⟩ | refine ⟨cmul_r (by decide) (by decide), ?_⟩ | refine ⟨cmul_l (by decide) (by decide), ?_⟩ | refine ⟨cmul_l (by omega) (by omega), ?_⟩ | refine ⟨cdiv_v (by omega) (by omega), ?_⟩ | refine ⟨cdiv_c (by decide) (by decide), ?_⟩ | refine ⟨(by decide), ?_⟩ | refine ⟨Nat.le_of_ble_eq_true rfl, ?_⟩ | refine ⟨⟨by decide, by decide, by decide⟩, ?_⟩); (conv => whnf))))
         refine hop hn' ks kt ?_
         ((conv => whnf); (repeat ((first | refine ⟨(by show (0 : Int) < _; first | decide | omega), ?_⟩ | refine ⟨cmul_r (by decide) (by decide), ?_⟩ | refine ⟨cmul_l (by decide) (by decide), ?_⟩ | refine ⟨cmul_l (by omega) (by omega), ?_⟩ | refine ⟨cdiv_v (by omega) (by omega), ?_⟩ | refine ⟨cdiv_c (by decide) (by decide), ?_⟩ | refine ⟨(by decide), ?_⟩ | refine ⟨Nat.le_of_ble_eq_true rfl, ?_⟩ | refine ⟨⟨by decide, by decide, by decide⟩, ?_⟩); (conv => whnf))))
         refine p_cell ?_
         ((conv => whnf); (repeat ((first | refine ⟨(by show (0 : Int) < _; first | decide | omega), ?_⟩ | refine ⟨cmul_r (by decide) (by decide), ?_⟩ | refine ⟨cmul_l (by decide) (by decide), ?_⟩ | refine ⟨cmul_l (by omega) (by omega), ?_⟩ | refine ⟨cdiv_v (by omega) (by omega), ?_⟩ | refine ⟨cdiv_c (by decide) (by decide), ?_⟩ | refine ⟨(by decide), ?_⟩ | refine ⟨Nat.le_of_ble_eq_true rfl, ?_⟩ | refine ⟨⟨by decide, by decide, by decide⟩, ?_⟩); (conv => whnf))))
         refine p_joined (bs := [(atF fs s).sec, (atF fs t).sec]) (get_new S _) ?_
         rw [j2]
         exact ⟨Nat.le_of_ble_eq_true rfl, k [_]⟩)
      | (rw [look_of (get_new S _)]
         ((conv => whnf); (repeat ((first | refine ⟨(by show (0 : Int) < _; first | decide | omega), ?_⟩ | refine ⟨cmul_r (by decide) (by decide), ?_⟩ | refine ⟨cmul_l (by decide) (by decide), ?_⟩ | refine ⟨cmul_l (by omega) (by omega), ?_⟩ | refine ⟨cdiv_v (by omega) (by omega), ?_⟩ | refine ⟨cdiv_c (by decide) (by decide), ?_⟩ | refine ⟨(by decide), ?_⟩ | refine ⟨Nat.le_of_ble_eq_true rfl, ?_⟩ | refine ⟨⟨by decide, by decide, by decide⟩, ?_⟩); (conv => whnf))))
         rw [at_carry l]
         ((conv => whnf); (repeat ((first | refine ⟨(by show (0 : Int) < _; first | decide | omega), ?_⟩ | refine ⟨cmul_r (by decide) (by decide), ?_⟩ | refine ⟨cmul_l (by decide) (by decide), ?_⟩ | refine ⟨cmul_l (by omega) (by omega), ?_⟩ | refine ⟨cdiv_v (by omega) (by omega), ?_⟩ | refine ⟨cdiv_c (by decide) (by decide), ?_⟩ | refine ⟨(by decide), ?_⟩ | refine ⟨Nat.le_of_ble_eq_true rfl, ?_⟩ | refine ⟨⟨by decide, by decide, by decide⟩, ?_⟩); (conv => whnf))))
         rw [look_of (get_new S _)]
         conv => whnf
         refine ⟨Nat.le_of_ble_eq_true rfl, ?_⟩
         rw [set_new]
         conv => whnf
         rw [eqc_result_fact_1]
         conv => whnf
         refine hop hn' ks kt ?_
         ((conv => whnf); (repeat ((first | refine ⟨(by show (0 : Int) < _; first | decide | omega), ?_⟩ | refine ⟨cmul_r (by decide) (by decide), ?_⟩ | refine ⟨cmul_l (by decide) (by decide), ?_⟩ | refine ⟨cmul_l (by omega) (by omega), ?_⟩ | refine ⟨cdiv_v (by omega) (by omega), ?_⟩ | refine ⟨cdiv_c (by decide) (by decide), ?_⟩ | refine ⟨(by decide), ?_⟩ | refine ⟨Nat.le_of_ble_eq_true rfl, ?_⟩ | refine ⟨⟨by decide, by decide, by decide⟩, ?_⟩); (conv => whnf))))
         refine p_joined (bs := [(atF fs s).sec, (atF fs t).sec, c]) (get_new S _) ?_
         rw [j3]
         exact ⟨Nat.le_of_ble_eq_true rfl, k [_]⟩)
theorem p_given_yes {n : Str} {r : Int} {xs : List D} {S : Sto} {q : DK} (h : n ∉ (["clear", "store", "jump", "below", "call", "ret", "halt"] : List Str)) (k : q (.int r) S) : wp_given_register [.tup (.str n :: .int r :: xs)] S q := by
  rw [eq_given_register]
  ((conv => whnf); (repeat ((first | refine ⟨(by show (0 : Int) < _; first | decide | omega), ?_⟩ | refine ⟨cmul_r (by decide) (by decide), ?_⟩ | refine ⟨cmul_l (by decide) (by decide), ?_⟩ | refine ⟨cmul_l (by omega) (by omega), ?_⟩ | refine ⟨cdiv_v (by omega) (by omega), ?_⟩ | refine ⟨cdiv_c (by decide) (by decide), ?_⟩ | refine ⟨(by decide), ?_⟩ | refine ⟨Nat.le_of_ble_eq_true rfl, ?_⟩ | refine ⟨⟨by decide, by decide, by decide⟩, ?_⟩); (conv => whnf))))
  rw [at_0]
  ((conv => whnf); (repeat ((first | refine ⟨(by show (0 : Int) < _; first | decide | omega), ?_⟩ | refine ⟨cmul_r (by decide) (by decide), ?_⟩ | refine ⟨cmul_l (by decide) (by decide), ?_⟩ | refine ⟨cmul_l (by omega) (by omega), ?_⟩ | refine ⟨cdiv_v (by omega) (by omega), ?_⟩ | refine ⟨cdiv_c (by decide) (by decide), ?_⟩ | refine ⟨(by decide), ?_⟩ | refine ⟨Nat.le_of_ble_eq_true rfl, ?_⟩ | refine ⟨⟨by decide, by decide, by decide⟩, ?_⟩); (conv => whnf))))
  rw [show inV (V.str n) [V.str "clear", V.str "store", V.str "jump", V.str "below", V.str "call", V.str "ret", V.str "halt"] = decide (n ∈ (["clear", "store", "jump", "below", "call", "ret", "halt"] : List Str)) from inV_str n ["clear", "store", "jump", "below", "call", "ret", "halt"]]
  first | refine bcase (fun c => ?_) (fun c => ?_) | refine bcase0 (fun c => ?_) (fun c => ?_) | refine bcase1 (fun c => ?_) (fun c => ?_)
  · exact absurd c h
  · ((conv => whnf); (repeat ((first | refine ⟨(by show (0 : Int) < _; first | decide | omega), ?_⟩ | refine ⟨cmul_r (by decide) (by decide), ?_⟩ | refine ⟨cmul_l (by decide) (by decide), ?_⟩ | refine ⟨cmul_l (by omega) (by omega), ?_⟩ | refine ⟨cdiv_v (by omega) (by omega), ?_⟩ | refine ⟨cdiv_c (by decide) (by decide), ?_⟩ | refine ⟨(by decide), ?_⟩ | refine ⟨Nat.le_of_ble_eq_true rfl, ?_⟩ | refine ⟨⟨by decide, by decide, by decide⟩, ?_⟩); (conv => whnf))))
    rw [at_1]
    exact k
theorem p_given_no {n : Str} {xs : List D} {S : Sto} {q : DK} (h : n ∈ (["clear", "store", "jump", "below", "call", "ret", "halt"] : List Str)) (k : q (.int (-1)) S) : wp_given_register [.tup (.str n :: xs)] S q := by
  rw [eq_given_register]
  ((conv => whnf); (repeat ((first | refine ⟨(by show (0 : Int) < _; first | decide | omega), ?_⟩ | refine ⟨cmul_r (by decide) (by decide), ?_⟩ | refine ⟨cmul_l (by decide) (by decide), ?_⟩ | refine ⟨cmul_l (by omega) (by omega), ?_⟩ | refine ⟨cdiv_v (by omega) (by omega), ?_⟩ | refine ⟨cdiv_c (by decide) (by decide), ?_⟩ | refine ⟨(by decide), ?_⟩ | refine ⟨Nat.le_of_ble_eq_true rfl, ?_⟩ | refine ⟨⟨by decide, by decide, by decide⟩, ?_⟩); (conv => whnf))))
  rw [at_0]
  ((conv => whnf); (repeat ((first | refine ⟨(by show (0 : Int) < _; first | decide | omega), ?_⟩ | refine ⟨cmul_r (by decide) (by decide), ?_⟩ | refine ⟨cmul_l (by decide) (by decide), ?_⟩ | refine ⟨cmul_l (by omega) (by omega), ?_⟩ | refine ⟨cdiv_v (by omega) (by omega), ?_⟩ | refine ⟨cdiv_c (by decide) (by decide), ?_⟩ | refine ⟨(by decide), ?_⟩ | refine ⟨Nat.le_of_ble_eq_true rfl, ?_⟩ | refine ⟨⟨by decide, by decide, by decide⟩, ?_⟩); (conv => whnf))))
  rw [show inV (V.str n) [V.str "clear", V.str "store", V.str "jump", V.str "below", V.str "call", V.str "ret", V.str "halt"] = decide (n ∈ (["clear", "store", "jump", "below", "call", "ret", "halt"] : List Str)) from inV_str n ["clear", "store", "jump", "below", "call", "ret", "halt"]]
  first | refine bcase (fun c => ?_) (fun c => ?_) | refine bcase0 (fun c => ?_) (fun c => ?_) | refine bcase1 (fun c => ?_) (fun c => ?_)
  · exact k
  · exact absurd h c
theorem cut_front {L : List D} {z : D} {r : Int} (l : L.length = 16) (h : 0 ≤ r ∧ r < 16) : cutL (L ++ [z]) none (some r) = L.take r.toNat := by
  obtain ⟨j, rfl⟩ := Int.eq_ofNat_of_zero_le h.1
  unfold cutL
  rw [HT.sIx_none, HT.sIx_nat, List.drop_zero, List.length_append, l, Int.toNat_natCast]
  show List.take (min j 17 - 0) _ = _
  rw [show min j 17 - 0 = j by omega, List.take_append_of_le_length (by omega)]
theorem cut_all {L : List D} {z : D} (l : L.length = 16) : cutL (L ++ [z]) none (some 16) = L := by
  unfold cutL
  rw [HT.sIx_none, show (some 16 : Option Int) = some ((16 : Nat) : Int) from rfl, HT.sIx_nat, List.drop_zero, List.length_append, l]
  show List.take (min 16 17 - 0) _ = _
  rw [show min 16 17 - 0 = 16 from rfl, List.take_append_of_le_length (by omega), List.take_of_length_le (by omega)]
theorem cut_back {L : List D} {z : D} {r : Int} (l : L.length = 16) (h : 0 ≤ r ∧ r < 16) : cutL (L ++ [z]) (some (r + 1)) (some 16) = L.drop (r.toNat + 1) := by
  obtain ⟨j, rfl⟩ := Int.eq_ofNat_of_zero_le h.1
  unfold cutL
  rw [show (j : Int) + 1 = ((j + 1 : Nat) : Int) by omega, show (some 16 : Option Int) = some ((16 : Nat) : Int) from rfl, HT.sIx_nat, HT.sIx_nat, List.length_append, l, Int.toNat_natCast]
  show List.take (min 16 17 - min (j + 1) 17) (List.drop (min (j + 1) 17) _) = _
  rw [show min (j + 1) 17 = j + 1 by omega, List.drop_append_of_le_length (by omega), List.take_append_of_le_length (by rw [List.length_drop]; omega), List.take_of_length_le (by rw [List.length_drop]; omega)]
theorem fin_parts {fs : List Fa} {f : Fa} {c d : Bool} {r : Int} {S : Sto} {q : DK} (l : fs.length = 16) (h : rg r) (k : q (dSt (fs.set r.toNat f) d) S) :
    (cutL (fs.map dFa ++ [D.str (fl c)]) none (some r) ++ dFa f :: (cutL (fs.map dFa ++ [D.str (fl c)]) (some (r + 1)) (some 16) ++ [D.str (fl d)])).length ≤ 1000000 ∧
    q (.tup (cutL (fs.map dFa ++ [D.str (fl c)]) none (some r) ++ dFa f :: (cutL (fs.map dFa ++ [D.str (fl c)]) (some (r + 1)) (some 16) ++ [D.str (fl d)]))) S := by
  have lm : (fs.map dFa).length = 16 := by rw [List.length_map, l]
  have e : cutL (fs.map dFa ++ [D.str (fl c)]) none (some r) ++ dFa f :: (cutL (fs.map dFa ++ [D.str (fl c)]) (some (r + 1)) (some 16) ++ [D.str (fl d)]) = (fs.set r.toNat f).map dFa ++ [D.str (fl d)] := by
    have h1 := h.1
    have h2 := h.2
    rw [cut_front lm h, cut_back lm h, List.map_set, List.set_eq_take_append_cons_drop, if_pos (by omega), List.append_assoc, List.cons_append]
  rw [e]
  refine ⟨?_, k⟩
  rw [List.length_append, List.length_map, List.length_set, l]
  exact Nat.le_of_ble_eq_true rfl
theorem p_next {gs : List Rg} {fs : List Fa} {c : Bool} {i : Ins} {S : Sto} {q : DK} (ok : LayOk gs) (l : fs.length = 16) (kf : ∀ f ∈ fs, okR f) (hi : i.ok) (k : ∀ J, q (dSt (nextF gs fs c i) (nextC gs fs c i)) (S ++ J)) : wp_next_state [dLay gs, dSt fs c, i.d] S q := by
  have k0 := k []
  rw [List.append_nil] at k0
  have lm : (fs.map dFa).length = 16 := by rw [List.length_map, l]
  have hres := @p_result gs fs c i
  rw [eq_next_state]
  cases i with
  | set r w =>
    have hr := hi.1
    ((conv => whnf); (repeat ((first | refine ⟨(by show (0 : Int) < _; first | decide | omega), ?_⟩ | refine ⟨cmul_r (by decide) (by decide), ?_⟩ | refine ⟨cmul_l (by decide) (by decide), ?_⟩ | refine ⟨cmul_l (by omega) (by omega), ?_⟩ | refine ⟨cdiv_v (by omega) (by omega), ?_⟩ | refine ⟨cdiv_c (by decide) (by decide), ?_⟩ | refine ⟨(by decide), ?_⟩ | refine ⟨Nat.le_of_ble_eq_true rfl, ?_⟩ | refine ⟨⟨by decide, by decide, by decide⟩, ?_⟩); (conv => whnf))))
    refine p_given_yes (by decide) ?_
    ((conv => whnf); (repeat ((first | refine ⟨(by show (0 : Int) < _; first | decide | omega), ?_⟩ | refine ⟨cmul_r (by decide) (by decide), ?_⟩ | refine ⟨cmul_l (by decide) (by decide), ?_⟩ | refine ⟨cmul_l (by omega) (by omega), ?_⟩ | refine ⟨cdiv_v (by omega) (by omega), ?_⟩ | refine ⟨cdiv_c (by decide) (by decide), ?_⟩ | refine ⟨(by decide), ?_⟩ | refine ⟨Nat.le_of_ble_eq_true rfl, ?_⟩ | refine ⟨⟨by decide, by decide, by decide⟩, ?_⟩); (conv => whnf))))
    refine btrue (decide_eq_true hr.1) ?_
    ((conv => whnf); (repeat ((first | refine ⟨(by show (0 : Int) < _; first | decide | omega), ?_⟩ | refine ⟨cmul_r (by decide) (by decide), ?_⟩ | refine ⟨cmul_l (by decide) (by decide), ?_⟩ | refine ⟨cmul_l (by omega) (by omega), ?_⟩ | refine ⟨cdiv_v (by omega) (by omega), ?_⟩ | refine ⟨cdiv_c (by decide) (by decide), ?_⟩ | refine ⟨(by decide), ?_⟩ | refine ⟨Nat.le_of_ble_eq_true rfl, ?_⟩ | refine ⟨⟨by decide, by decide, by decide⟩, ?_⟩); (conv => whnf))))
    refine hres ok l kf hi hr.1 fun J => ?_
    ((conv => whnf); (repeat ((first | refine ⟨(by show (0 : Int) < _; first | decide | omega), ?_⟩ | refine ⟨cmul_r (by decide) (by decide), ?_⟩ | refine ⟨cmul_l (by decide) (by decide), ?_⟩ | refine ⟨cmul_l (by omega) (by omega), ?_⟩ | refine ⟨cdiv_v (by omega) (by omega), ?_⟩ | refine ⟨cdiv_c (by decide) (by decide), ?_⟩ | refine ⟨(by decide), ?_⟩ | refine ⟨Nat.le_of_ble_eq_true rfl, ?_⟩ | refine ⟨⟨by decide, by decide, by decide⟩, ?_⟩); (conv => whnf))))
    rw [at_carry l]
    ((conv => whnf); (repeat ((first | refine ⟨(by show (0 : Int) < _; first | decide | omega), ?_⟩ | refine ⟨cmul_r (by decide) (by decide), ?_⟩ | refine ⟨cmul_l (by decide) (by decide), ?_⟩ | refine ⟨cmul_l (by omega) (by omega), ?_⟩ | refine ⟨cdiv_v (by omega) (by omega), ?_⟩ | refine ⟨cdiv_c (by decide) (by decide), ?_⟩ | refine ⟨(by decide), ?_⟩ | refine ⟨Nat.le_of_ble_eq_true rfl, ?_⟩ | refine ⟨⟨by decide, by decide, by decide⟩, ?_⟩); (conv => whnf))))
    exact fin_parts l hr (k J)
  | move r w =>
    have hr := hi.1
    ((conv => whnf); (repeat ((first | refine ⟨(by show (0 : Int) < _; first | decide | omega), ?_⟩ | refine ⟨cmul_r (by decide) (by decide), ?_⟩ | refine ⟨cmul_l (by decide) (by decide), ?_⟩ | refine ⟨cmul_l (by omega) (by omega), ?_⟩ | refine ⟨cdiv_v (by omega) (by omega), ?_⟩ | refine ⟨cdiv_c (by decide) (by decide), ?_⟩ | refine ⟨(by decide), ?_⟩ | refine ⟨Nat.le_of_ble_eq_true rfl, ?_⟩ | refine ⟨⟨by decide, by decide, by decide⟩, ?_⟩); (conv => whnf))))
    refine p_given_yes (by decide) ?_
    ((conv => whnf); (repeat ((first | refine ⟨(by show (0 : Int) < _; first | decide | omega), ?_⟩ | refine ⟨cmul_r (by decide) (by decide), ?_⟩ | refine ⟨cmul_l (by decide) (by decide), ?_⟩ | refine ⟨cmul_l (by omega) (by omega), ?_⟩ | refine ⟨cdiv_v (by omega) (by omega), ?_⟩ | refine ⟨cdiv_c (by decide) (by decide), ?_⟩ | refine ⟨(by decide), ?_⟩ | refine ⟨Nat.le_of_ble_eq_true rfl, ?_⟩ | refine ⟨⟨by decide, by decide, by decide⟩, ?_⟩); (conv => whnf))))
    refine btrue (decide_eq_true hr.1) ?_
    ((conv => whnf); (repeat ((first | refine ⟨(by show (0 : Int) < _; first | decide | omega), ?_⟩ | refine ⟨cmul_r (by decide) (by decide), ?_⟩ | refine ⟨cmul_l (by decide) (by decide), ?_⟩ | refine ⟨cmul_l (by omega) (by omega), ?_⟩ | refine ⟨cdiv_v (by omega) (by omega), ?_⟩ | refine ⟨cdiv_c (by decide) (by decide), ?_⟩ | refine ⟨(by decide), ?_⟩ | refine ⟨Nat.le_of_ble_eq_true rfl, ?_⟩ | refine ⟨⟨by decide, by decide, by decide⟩, ?_⟩); (conv => whnf))))
    refine hres ok l kf hi hr.1 fun J => ?_
    ((conv => whnf); (repeat ((first | refine ⟨(by show (0 : Int) < _; first | decide | omega), ?_⟩ | refine ⟨cmul_r (by decide) (by decide), ?_⟩ | refine ⟨cmul_l (by decide) (by decide), ?_⟩ | refine ⟨cmul_l (by omega) (by omega), ?_⟩ | refine ⟨cdiv_v (by omega) (by omega), ?_⟩ | refine ⟨cdiv_c (by decide) (by decide), ?_⟩ | refine ⟨(by decide), ?_⟩ | refine ⟨Nat.le_of_ble_eq_true rfl, ?_⟩ | refine ⟨⟨by decide, by decide, by decide⟩, ?_⟩); (conv => whnf))))
    rw [at_carry l]
    ((conv => whnf); (repeat ((first | refine ⟨(by show (0 : Int) < _; first | decide | omega), ?_⟩ | refine ⟨cmul_r (by decide) (by decide), ?_⟩ | refine ⟨cmul_l (by decide) (by decide), ?_⟩ | refine ⟨cmul_l (by omega) (by omega), ?_⟩ | refine ⟨cdiv_v (by omega) (by omega), ?_⟩ | refine ⟨cdiv_c (by decide) (by decide), ?_⟩ | refine ⟨(by decide), ?_⟩ | refine ⟨Nat.le_of_ble_eq_true rfl, ?_⟩ | refine ⟨⟨by decide, by decide, by decide⟩, ?_⟩); (conv => whnf))))
    exact fin_parts l hr (k J)
  | carry r =>
    have hr : rg r := hi
    ((conv => whnf); (repeat ((first | refine ⟨(by show (0 : Int) < _; first | decide | omega), ?_⟩ | refine ⟨cmul_r (by decide) (by decide), ?_⟩ | refine ⟨cmul_l (by decide) (by decide), ?_⟩ | refine ⟨cmul_l (by omega) (by omega), ?_⟩ | refine ⟨cdiv_v (by omega) (by omega), ?_⟩ | refine ⟨cdiv_c (by decide) (by decide), ?_⟩ | refine ⟨(by decide), ?_⟩ | refine ⟨Nat.le_of_ble_eq_true rfl, ?_⟩ | refine ⟨⟨by decide, by decide, by decide⟩, ?_⟩); (conv => whnf))))
    refine p_given_yes (by decide) ?_
    ((conv => whnf); (repeat ((first | refine ⟨(by show (0 : Int) < _; first | decide | omega), ?_⟩ | refine ⟨cmul_r (by decide) (by decide), ?_⟩ | refine ⟨cmul_l (by decide) (by decide), ?_⟩ | refine ⟨cmul_l (by omega) (by omega), ?_⟩ | refine ⟨cdiv_v (by omega) (by omega), ?_⟩ | refine ⟨cdiv_c (by decide) (by decide), ?_⟩ | refine ⟨(by decide), ?_⟩ | refine ⟨Nat.le_of_ble_eq_true rfl, ?_⟩ | refine ⟨⟨by decide, by decide, by decide⟩, ?_⟩); (conv => whnf))))
    refine btrue (decide_eq_true hr.1) ?_
    ((conv => whnf); (repeat ((first | refine ⟨(by show (0 : Int) < _; first | decide | omega), ?_⟩ | refine ⟨cmul_r (by decide) (by decide), ?_⟩ | refine ⟨cmul_l (by decide) (by decide), ?_⟩ | refine ⟨cmul_l (by omega) (by omega), ?_⟩ | refine ⟨cdiv_v (by omega) (by omega), ?_⟩ | refine ⟨cdiv_c (by decide) (by decide), ?_⟩ | refine ⟨(by decide), ?_⟩ | refine ⟨Nat.le_of_ble_eq_true rfl, ?_⟩ | refine ⟨⟨by decide, by decide, by decide⟩, ?_⟩); (conv => whnf))))
    refine hres ok l kf hi hr.1 fun J => ?_
    ((conv => whnf); (repeat ((first | refine ⟨(by show (0 : Int) < _; first | decide | omega), ?_⟩ | refine ⟨cmul_r (by decide) (by decide), ?_⟩ | refine ⟨cmul_l (by decide) (by decide), ?_⟩ | refine ⟨cmul_l (by omega) (by omega), ?_⟩ | refine ⟨cdiv_v (by omega) (by omega), ?_⟩ | refine ⟨cdiv_c (by decide) (by decide), ?_⟩ | refine ⟨(by decide), ?_⟩ | refine ⟨Nat.le_of_ble_eq_true rfl, ?_⟩ | refine ⟨⟨by decide, by decide, by decide⟩, ?_⟩); (conv => whnf))))
    rw [at_carry l]
    ((conv => whnf); (repeat ((first | refine ⟨(by show (0 : Int) < _; first | decide | omega), ?_⟩ | refine ⟨cmul_r (by decide) (by decide), ?_⟩ | refine ⟨cmul_l (by decide) (by decide), ?_⟩ | refine ⟨cmul_l (by omega) (by omega), ?_⟩ | refine ⟨cdiv_v (by omega) (by omega), ?_⟩ | refine ⟨cdiv_c (by decide) (by decide), ?_⟩ | refine ⟨(by decide), ?_⟩ | refine ⟨Nat.le_of_ble_eq_true rfl, ?_⟩ | refine ⟨⟨by decide, by decide, by decide⟩, ?_⟩); (conv => whnf))))
    exact fin_parts l hr (k J)
  | load r s d =>
    have hr := hi.1
    ((conv => whnf); (repeat ((first | refine ⟨(by show (0 : Int) < _; first | decide | omega), ?_⟩ | refine ⟨cmul_r (by decide) (by decide), ?_⟩ | refine ⟨cmul_l (by decide) (by decide), ?_⟩ | refine ⟨cmul_l (by omega) (by omega), ?_⟩ | refine ⟨cdiv_v (by omega) (by omega), ?_⟩ | refine ⟨cdiv_c (by decide) (by decide), ?_⟩ | refine ⟨(by decide), ?_⟩ | refine ⟨Nat.le_of_ble_eq_true rfl, ?_⟩ | refine ⟨⟨by decide, by decide, by decide⟩, ?_⟩); (conv => whnf))))
    refine p_given_yes (by decide) ?_
    ((conv => whnf); (repeat ((first | refine ⟨(by show (0 : Int) < _; first | decide | omega), ?_⟩ | refine ⟨cmul_r (by decide) (by decide), ?_⟩ | refine ⟨cmul_l (by decide) (by decide), ?_⟩ | refine ⟨cmul_l (by omega) (by omega), ?_⟩ | refine ⟨cdiv_v (by omega) (by omega), ?_⟩ | refine ⟨cdiv_c (by decide) (by decide), ?_⟩ | refine ⟨(by decide), ?_⟩ | refine ⟨Nat.le_of_ble_eq_true rfl, ?_⟩ | refine ⟨⟨by decide, by decide, by decide⟩, ?_⟩); (conv => whnf))))
    refine btrue (decide_eq_true hr.1) ?_
    ((conv => whnf); (repeat ((first | refine ⟨(by show (0 : Int) < _; first | decide | omega), ?_⟩ | refine ⟨cmul_r (by decide) (by decide), ?_⟩ | refine ⟨cmul_l (by decide) (by decide), ?_⟩ | refine ⟨cmul_l (by omega) (by omega), ?_⟩ | refine ⟨cdiv_v (by omega) (by omega), ?_⟩ | refine ⟨cdiv_c (by decide) (by decide), ?_⟩ | refine ⟨(by decide), ?_⟩ | refine ⟨Nat.le_of_ble_eq_true rfl, ?_⟩ | refine ⟨⟨by decide, by decide, by decide⟩, ?_⟩); (conv => whnf))))
    refine hres ok l kf hi hr.1 fun J => ?_
    ((conv => whnf); (repeat ((first | refine ⟨(by show (0 : Int) < _; first | decide | omega), ?_⟩ | refine ⟨cmul_r (by decide) (by decide), ?_⟩ | refine ⟨cmul_l (by decide) (by decide), ?_⟩ | refine ⟨cmul_l (by omega) (by omega), ?_⟩ | refine ⟨cdiv_v (by omega) (by omega), ?_⟩ | refine ⟨cdiv_c (by decide) (by decide), ?_⟩ | refine ⟨(by decide), ?_⟩ | refine ⟨Nat.le_of_ble_eq_true rfl, ?_⟩ | refine ⟨⟨by decide, by decide, by decide⟩, ?_⟩); (conv => whnf))))
    rw [at_carry l]
    ((conv => whnf); (repeat ((first | refine ⟨(by show (0 : Int) < _; first | decide | omega), ?_⟩ | refine ⟨cmul_r (by decide) (by decide), ?_⟩ | refine ⟨cmul_l (by decide) (by decide), ?_⟩ | refine ⟨cmul_l (by omega) (by omega), ?_⟩ | refine ⟨cdiv_v (by omega) (by omega), ?_⟩ | refine ⟨cdiv_c (by decide) (by decide), ?_⟩ | refine ⟨(by decide), ?_⟩ | refine ⟨Nat.le_of_ble_eq_true rfl, ?_⟩ | refine ⟨⟨by decide, by decide, by decide⟩, ?_⟩); (conv => whnf))))
    exact fin_parts l hr (k J)
  | sh n r s kk =>
    have hi' := hi
    obtain ⟨hn, hr, hs, hk⟩ := hi
    rcases hn with rfl | rfl
    all_goals
      ((conv => whnf); (repeat ((first | refine ⟨(by show (0 : Int) < _; first | decide | omega), ?_⟩ | refine ⟨cmul_r (by decide) (by decide), ?_⟩ | refine ⟨cmul_l (by decide) (by decide), ?_⟩ | refine ⟨cmul_l (by omega) (by omega), ?_⟩ | refine ⟨cdiv_v (by omega) (by omega), ?_⟩ | refine ⟨cdiv_c (by decide) (by decide), ?_⟩ | refine ⟨(by decide), ?_⟩ | refine ⟨Nat.le_of_ble_eq_true rfl, ?_⟩ | refine ⟨⟨by decide, by decide, by decide⟩, ?_⟩); (conv => whnf))))
      refine p_given_yes (by decide) ?_
      ((conv => whnf); (repeat ((first | refine ⟨(by show (0 : Int) < _; first | decide | omega), ?_⟩ | refine ⟨cmul_r (by decide) (by decide), ?_⟩ | refine ⟨cmul_l (by decide) (by decide), ?_⟩ | refine ⟨cmul_l (by omega) (by omega), ?_⟩ | refine ⟨cdiv_v (by omega) (by omega), ?_⟩ | refine ⟨cdiv_c (by decide) (by decide), ?_⟩ | refine ⟨(by decide), ?_⟩ | refine ⟨Nat.le_of_ble_eq_true rfl, ?_⟩ | refine ⟨⟨by decide, by decide, by decide⟩, ?_⟩); (conv => whnf))))
      refine btrue (decide_eq_true hr.1) ?_
      ((conv => whnf); (repeat ((first | refine ⟨(by show (0 : Int) < _; first | decide | omega), ?_⟩ | refine ⟨cmul_r (by decide) (by decide), ?_⟩ | refine ⟨cmul_l (by decide) (by decide), ?_⟩ | refine ⟨cmul_l (by omega) (by omega), ?_⟩ | refine ⟨cdiv_v (by omega) (by omega), ?_⟩ | refine ⟨cdiv_c (by decide) (by decide), ?_⟩ | refine ⟨(by decide), ?_⟩ | refine ⟨Nat.le_of_ble_eq_true rfl, ?_⟩ | refine ⟨⟨by decide, by decide, by decide⟩, ?_⟩); (conv => whnf))))
      refine hres ok l kf hi' hr.1 fun J => ?_
      ((conv => whnf); (repeat ((first | refine ⟨(by show (0 : Int) < _; first | decide | omega), ?_⟩ | refine ⟨cmul_r (by decide) (by decide), ?_⟩ | refine ⟨cmul_l (by decide) (by decide), ?_⟩ | refine ⟨cmul_l (by omega) (by omega), ?_⟩ | refine ⟨cdiv_v (by omega) (by omega), ?_⟩ | refine ⟨cdiv_c (by decide) (by decide), ?_⟩ | refine ⟨(by decide), ?_⟩ | refine ⟨Nat.le_of_ble_eq_true rfl, ?_⟩ | refine ⟨⟨by decide, by decide, by decide⟩, ?_⟩); (conv => whnf))))
      rw [at_carry l]
      ((conv => whnf); (repeat ((first | refine ⟨(by show (0 : Int) < _; first | decide | omega), ?_⟩ | refine ⟨cmul_r (by decide) (by decide), ?_⟩ | refine ⟨cmul_l (by decide) (by decide), ?_⟩ | refine ⟨cmul_l (by omega) (by omega), ?_⟩ | refine ⟨cdiv_v (by omega) (by omega), ?_⟩ | refine ⟨cdiv_c (by decide) (by decide), ?_⟩ | refine ⟨(by decide), ?_⟩ | refine ⟨Nat.le_of_ble_eq_true rfl, ?_⟩ | refine ⟨⟨by decide, by decide, by decide⟩, ?_⟩); (conv => whnf))))
      exact fin_parts l hr (k J)
  | ar n r s t =>
    have hi' := hi
    obtain ⟨hn, hr, hs, ht⟩ := hi
    unfold ar12 at hn
    simp only [List.mem_cons, List.not_mem_nil, or_false] at hn
    rcases hn with rfl | rfl | rfl | rfl | rfl | rfl | rfl | rfl | rfl | rfl | rfl | rfl
    all_goals
      ((conv => whnf); (repeat ((first | refine ⟨(by show (0 : Int) < _; first | decide | omega), ?_⟩ | refine ⟨cmul_r (by decide) (by decide), ?_⟩ | refine ⟨cmul_l (by decide) (by decide), ?_⟩ | refine ⟨cmul_l (by omega) (by omega), ?_⟩ | refine ⟨cdiv_v (by omega) (by omega), ?_⟩ | refine ⟨cdiv_c (by decide) (by decide), ?_⟩ | refine ⟨(by decide), ?_⟩ | refine ⟨Nat.le_of_ble_eq_true rfl, ?_⟩ | refine ⟨⟨by decide, by decide, by decide⟩, ?_⟩); (conv => whnf))))
      refine p_given_yes (by decide) ?_
      ((conv => whnf); (repeat ((first | refine ⟨(by show (0 : Int) < _; first | decide | omega), ?_⟩ | refine ⟨cmul_r (by decide) (by decide), ?_⟩ | refine ⟨cmul_l (by decide) (by decide), ?_⟩ | refine ⟨cmul_l (by omega) (by omega), ?_⟩ | refine ⟨cdiv_v (by omega) (by omega), ?_⟩ | refine ⟨cdiv_c (by decide) (by decide), ?_⟩ | refine ⟨(by decide), ?_⟩ | refine ⟨Nat.le_of_ble_eq_true rfl, ?_⟩ | refine ⟨⟨by decide, by decide, by decide⟩, ?_⟩); (conv => whnf))))
      refine btrue (decide_eq_true hr.1) ?_
      ((conv => whnf); (repeat ((first | refine ⟨(by show (0 : Int) < _; first | decide | omega), ?_⟩ | refine ⟨cmul_r (by decide) (by decide), ?_⟩ | refine ⟨cmul_l (by decide) (by decide), ?_⟩ | refine ⟨cmul_l (by omega) (by omega), ?_⟩ | refine ⟨cdiv_v (by omega) (by omega), ?_⟩ | refine ⟨cdiv_c (by decide) (by decide), ?_⟩ | refine ⟨(by decide), ?_⟩ | refine ⟨Nat.le_of_ble_eq_true rfl, ?_⟩ | refine ⟨⟨by decide, by decide, by decide⟩, ?_⟩); (conv => whnf))))
      refine hres ok l kf hi' hr.1 fun J => ?_
      ((conv => whnf); (repeat ((first | refine ⟨(by show (0 : Int) < _; first | decide | omega), ?_⟩ | refine ⟨cmul_r (by decide) (by decide), ?_⟩ | refine ⟨cmul_l (by decide) (by decide), ?_⟩ | refine ⟨cmul_l (by omega) (by omega), ?_⟩ | refine ⟨cdiv_v (by omega) (by omega), ?_⟩ | refine ⟨cdiv_c (by decide) (by decide), ?_⟩ | refine ⟨(by decide), ?_⟩ | refine ⟨Nat.le_of_ble_eq_true rfl, ?_⟩ | refine ⟨⟨by decide, by decide, by decide⟩, ?_⟩); (conv => whnf))))
    all_goals first
      | (rw [at_carry l]
         ((conv => whnf); (repeat ((first | refine ⟨(by show (0 : Int) < _; first | decide | omega), ?_⟩ | refine ⟨cmul_r (by decide) (by decide), ?_⟩ | refine ⟨cmul_l (by decide) (by decide), ?_⟩ | refine ⟨cmul_l (by omega) (by omega), ?_⟩ | refine ⟨cdiv_v (by omega) (by omega), ?_⟩ | refine ⟨cdiv_c (by decide) (by decide), ?_⟩ | refine ⟨(by decide), ?_⟩ | refine ⟨Nat.le_of_ble_eq_true rfl, ?_⟩ | refine ⟨⟨by decide, by decide, by decide⟩, ?_⟩); (conv => whnf))))
         exact fin_parts l hr (k J))
      | exact fin_parts l hr (k J)
  | clear =>
    ((conv => whnf); (repeat ((first | refine ⟨(by show (0 : Int) < _; first | decide | omega), ?_⟩ | refine ⟨cmul_r (by decide) (by decide), ?_⟩ | refine ⟨cmul_l (by decide) (by decide), ?_⟩ | refine ⟨cmul_l (by omega) (by omega), ?_⟩ | refine ⟨cdiv_v (by omega) (by omega), ?_⟩ | refine ⟨cdiv_c (by decide) (by decide), ?_⟩ | refine ⟨(by decide), ?_⟩ | refine ⟨Nat.le_of_ble_eq_true rfl, ?_⟩ | refine ⟨⟨by decide, by decide, by decide⟩, ?_⟩); (conv => whnf))))
    refine p_given_no (by decide) ?_
    ((conv => whnf); (repeat ((first | refine ⟨(by show (0 : Int) < _; first | decide | omega), ?_⟩ | refine ⟨cmul_r (by decide) (by decide), ?_⟩ | refine ⟨cmul_l (by decide) (by decide), ?_⟩ | refine ⟨cmul_l (by omega) (by omega), ?_⟩ | refine ⟨cdiv_v (by omega) (by omega), ?_⟩ | refine ⟨cdiv_c (by decide) (by decide), ?_⟩ | refine ⟨(by decide), ?_⟩ | refine ⟨Nat.le_of_ble_eq_true rfl, ?_⟩ | refine ⟨⟨by decide, by decide, by decide⟩, ?_⟩); (conv => whnf))))
    rw [cut_all lm]
    refine ⟨?_, k0⟩
    rw [List.length_append, lm]
    exact Nat.le_of_ble_eq_true rfl
  | other n xs =>
    have hi : n ∈ (["jump", "below", "call", "ret", "halt"] : List Str) := hi
    simp only [List.mem_cons, List.not_mem_nil, or_false] at hi
    have e0 : atI (Ins.other n xs).row 0 = some (.str n) := at_0 _ _
    rcases hi with rfl | rfl | rfl | rfl | rfl
    all_goals
      ((conv => whnf); (repeat ((first | refine ⟨(by show (0 : Int) < _; first | decide | omega), ?_⟩ | refine ⟨cmul_r (by decide) (by decide), ?_⟩ | refine ⟨cmul_l (by decide) (by decide), ?_⟩ | refine ⟨cmul_l (by omega) (by omega), ?_⟩ | refine ⟨cdiv_v (by omega) (by omega), ?_⟩ | refine ⟨cdiv_c (by decide) (by decide), ?_⟩ | refine ⟨(by decide), ?_⟩ | refine ⟨Nat.le_of_ble_eq_true rfl, ?_⟩ | refine ⟨⟨by decide, by decide, by decide⟩, ?_⟩); (conv => whnf))))
      rw [e0]
      ((conv => whnf); (repeat ((first | refine ⟨(by show (0 : Int) < _; first | decide | omega), ?_⟩ | refine ⟨cmul_r (by decide) (by decide), ?_⟩ | refine ⟨cmul_l (by decide) (by decide), ?_⟩ | refine ⟨cmul_l (by omega) (by omega), ?_⟩ | refine ⟨cdiv_v (by omega) (by omega), ?_⟩ | refine ⟨cdiv_c (by decide) (by decide), ?_⟩ | refine ⟨(by decide), ?_⟩ | refine ⟨Nat.le_of_ble_eq_true rfl, ?_⟩ | refine ⟨⟨by decide, by decide, by decide⟩, ?_⟩); (conv => whnf))))
      refine p_given_no (by decide) ?_
      ((conv => whnf); (repeat ((first | refine ⟨(by show (0 : Int) < _; first | decide | omega), ?_⟩ | refine ⟨cmul_r (by decide) (by decide), ?_⟩ | refine ⟨cmul_l (by decide) (by decide), ?_⟩ | refine ⟨cmul_l (by omega) (by omega), ?_⟩ | refine ⟨cdiv_v (by omega) (by omega), ?_⟩ | refine ⟨cdiv_c (by decide) (by decide), ?_⟩ | refine ⟨(by decide), ?_⟩ | refine ⟨Nat.le_of_ble_eq_true rfl, ?_⟩ | refine ⟨⟨by decide, by decide, by decide⟩, ?_⟩); (conv => whnf))))
      exact k0
  | store r s d =>
    ((conv => whnf); (repeat ((first | refine ⟨(by show (0 : Int) < _; first | decide | omega), ?_⟩ | refine ⟨cmul_r (by decide) (by decide), ?_⟩ | refine ⟨cmul_l (by decide) (by decide), ?_⟩ | refine ⟨cmul_l (by omega) (by omega), ?_⟩ | refine ⟨cdiv_v (by omega) (by omega), ?_⟩ | refine ⟨cdiv_c (by decide) (by decide), ?_⟩ | refine ⟨(by decide), ?_⟩ | refine ⟨Nat.le_of_ble_eq_true rfl, ?_⟩ | refine ⟨⟨by decide, by decide, by decide⟩, ?_⟩); (conv => whnf))))
    refine p_given_no (by decide) ?_
    ((conv => whnf); (repeat ((first | refine ⟨(by show (0 : Int) < _; first | decide | omega), ?_⟩ | refine ⟨cmul_r (by decide) (by decide), ?_⟩ | refine ⟨cmul_l (by decide) (by decide), ?_⟩ | refine ⟨cmul_l (by omega) (by omega), ?_⟩ | refine ⟨cdiv_v (by omega) (by omega), ?_⟩ | refine ⟨cdiv_c (by decide) (by decide), ?_⟩ | refine ⟨(by decide), ?_⟩ | refine ⟨Nat.le_of_ble_eq_true rfl, ?_⟩ | refine ⟨⟨by decide, by decide, by decide⟩, ?_⟩); (conv => whnf))))
    refine p_addrs l hi.2.1 ?_
    ((conv => whnf); (repeat ((first | refine ⟨(by show (0 : Int) < _; first | decide | omega), ?_⟩ | refine ⟨cmul_r (by decide) (by decide), ?_⟩ | refine ⟨cmul_l (by decide) (by decide), ?_⟩ | refine ⟨cmul_l (by omega) (by omega), ?_⟩ | refine ⟨cdiv_v (by omega) (by omega), ?_⟩ | refine ⟨cdiv_c (by decide) (by decide), ?_⟩ | refine ⟨(by decide), ?_⟩ | refine ⟨Nat.le_of_ble_eq_true rfl, ?_⟩ | refine ⟨⟨by decide, by decide, by decide⟩, ?_⟩); (conv => whnf))))
    rw [cut_all lm]
    refine ⟨fun i S' => S' = S ++ [.lst (((fs.map (cutF ((atF fs s).lo + d) ((atF fs s).hi + d))).take i).map dFa)], rfl, fun _ _ _ _ => trivial, ?_, ?_⟩
    · rintro i x _ hx rfl
      rw [List.getElem?_map] at hx
      obtain ⟨f, hf, rfl⟩ := Option.map_eq_some_iff.mp hx
      have hi16 : i < 16 := by
        have := (List.getElem?_eq_some_iff.mp hf).1
        omega
      have step : List.map dFa (List.take i (List.map (cutF ((atF fs s).lo + d) ((atF fs s).hi + d)) fs)) ++ [dFa (cutF ((atF fs s).lo + d) ((atF fs s).hi + d) f)] = List.map dFa (List.take (i + 1) (List.map (cutF ((atF fs s).lo + d) ((atF fs s).hi + d)) fs)) := by
        rw [List.take_add_one, List.getElem?_map, hf, List.map_append]
        rfl
      have small : (List.map dFa (List.take i (List.map (cutF ((atF fs s).lo + d) ((atF fs s).hi + d)) fs))).length < 1000000 := by
        rw [List.length_map, List.length_take]
        omega
      ((conv => whnf); (repeat ((first | refine ⟨(by show (0 : Int) < _; first | decide | omega), ?_⟩ | refine ⟨cmul_r (by decide) (by decide), ?_⟩ | refine ⟨cmul_l (by decide) (by decide), ?_⟩ | refine ⟨cmul_l (by omega) (by omega), ?_⟩ | refine ⟨cdiv_v (by omega) (by omega), ?_⟩ | refine ⟨cdiv_c (by decide) (by decide), ?_⟩ | refine ⟨(by decide), ?_⟩ | refine ⟨Nat.le_of_ble_eq_true rfl, ?_⟩ | refine ⟨⟨by decide, by decide, by decide⟩, ?_⟩); (conv => whnf))))
      first | refine bcase (fun c1 => ?_) (fun c1 => ?_) | refine bcase0 (fun c1 => ?_) (fun c1 => ?_) | refine bcase1 (fun c1 => ?_) (fun c1 => ?_)
      · ((conv => whnf); (repeat ((first | refine ⟨(by show (0 : Int) < _; first | decide | omega), ?_⟩ | refine ⟨cmul_r (by decide) (by decide), ?_⟩ | refine ⟨cmul_l (by decide) (by decide), ?_⟩ | refine ⟨cmul_l (by omega) (by omega), ?_⟩ | refine ⟨cdiv_v (by omega) (by omega), ?_⟩ | refine ⟨cdiv_c (by decide) (by decide), ?_⟩ | refine ⟨(by decide), ?_⟩ | refine ⟨Nat.le_of_ble_eq_true rfl, ?_⟩ | refine ⟨⟨by decide, by decide, by decide⟩, ?_⟩); (conv => whnf))))
        first | refine bcase (fun c2 => ?_) (fun c2 => ?_) | refine bcase0 (fun c2 => ?_) (fun c2 => ?_) | refine bcase1 (fun c2 => ?_) (fun c2 => ?_)
        · refine p_without ?_
          conv => whnf
          rw [look_of (get_new S _)]
          refine ⟨small, ?_⟩
          rw [set_new]
          show S ++ [Ob.lst _] = S ++ [Ob.lst _]
          rw [← step, show cutF ((atF fs s).lo + d) ((atF fs s).hi + d) f = ⟨f.sec, f.lo, f.hi, -1, 0⟩ from if_pos ⟨c1, c2⟩]
        · conv => whnf
          rw [look_of (get_new S _)]
          refine ⟨small, ?_⟩
          rw [set_new]
          show S ++ [Ob.lst _] = S ++ [Ob.lst _]
          rw [← step, show cutF ((atF fs s).lo + d) ((atF fs s).hi + d) f = f from if_neg fun z => c2 z.2]
      · conv => whnf
        rw [look_of (get_new S _)]
        refine ⟨small, ?_⟩
        rw [set_new]
        show S ++ [Ob.lst _] = S ++ [Ob.lst _]
        rw [← step, show cutF ((atF fs s).lo + d) ((atF fs s).hi + d) f = f from if_neg fun z => c1 z.1]
    · rintro _ rfl
      rw [List.take_of_length_le (by rw [List.length_map, List.length_map]; exact Nat.le_refl _)]
      ((conv => whnf); (repeat ((first | refine ⟨(by show (0 : Int) < _; first | decide | omega), ?_⟩ | refine ⟨cmul_r (by decide) (by decide), ?_⟩ | refine ⟨cmul_l (by decide) (by decide), ?_⟩ | refine ⟨cmul_l (by omega) (by omega), ?_⟩ | refine ⟨cdiv_v (by omega) (by omega), ?_⟩ | refine ⟨cdiv_c (by decide) (by decide), ?_⟩ | refine ⟨(by decide), ?_⟩ | refine ⟨Nat.le_of_ble_eq_true rfl, ?_⟩ | refine ⟨⟨by decide, by decide, by decide⟩, ?_⟩); (conv => whnf))))
      rw [seqD_ref (get_new S _)]
      ((conv => whnf); (repeat ((first | refine ⟨(by show (0 : Int) < _; first | decide | omega), ?_⟩ | refine ⟨cmul_r (by decide) (by decide), ?_⟩ | refine ⟨cmul_l (by decide) (by decide), ?_⟩ | refine ⟨cmul_l (by omega) (by omega), ?_⟩ | refine ⟨cdiv_v (by omega) (by omega), ?_⟩ | refine ⟨cdiv_c (by decide) (by decide), ?_⟩ | refine ⟨(by decide), ?_⟩ | refine ⟨Nat.le_of_ble_eq_true rfl, ?_⟩ | refine ⟨⟨by decide, by decide, by decide⟩, ?_⟩); (conv => whnf))))
      rw [at_carry l]
      refine ⟨?_, k [_]⟩
      rw [List.length_append, List.length_map, List.length_map, l]
      exact Nat.le_of_ble_eq_true rfl

theorem p_word {S : Sto} {p : Nat} {q : DK} (hS0 : Src S p) (k : ∀ v S', 0 ≤ v → v ≤ 65535 → Src S' p → Kp (· = p) S S' → q (.int v) S') : wp_law_word [.ref p] S q := by
  have k0 : Kp (· = p) S S := .rfl
  rw [eq_law_word]
  ((conv => whnf); (repeat ((first | refine ⟨(by show (0 : Int) < _; first | decide | omega), ?_⟩ | refine ⟨cmul_r (by decide) (by decide), ?_⟩ | refine ⟨cmul_l (by decide) (by decide), ?_⟩ | refine ⟨cmul_l (by omega) (by omega), ?_⟩ | refine ⟨cdiv_v (by omega) (by omega), ?_⟩ | refine ⟨cdiv_c (by decide) (by decide), ?_⟩ | refine ⟨(by decide), ?_⟩ | refine ⟨Nat.le_of_ble_eq_true rfl, ?_⟩ | refine ⟨⟨by decide, by decide, by decide⟩, ?_⟩); (conv => whnf))))
  refine p_draw hS0 (by decide) (by decide) fun v1 S1 a1 b1 hS1 kk1 => ?_
  have k1 := k0.trans kk1
  ((conv => whnf); (repeat ((first | refine ⟨(by show (0 : Int) < _; first | decide | omega), ?_⟩ | refine ⟨cmul_r (by decide) (by decide), ?_⟩ | refine ⟨cmul_l (by decide) (by decide), ?_⟩ | refine ⟨cmul_l (by omega) (by omega), ?_⟩ | refine ⟨cdiv_v (by omega) (by omega), ?_⟩ | refine ⟨cdiv_c (by decide) (by decide), ?_⟩ | refine ⟨(by decide), ?_⟩ | refine ⟨Nat.le_of_ble_eq_true rfl, ?_⟩ | refine ⟨⟨by decide, by decide, by decide⟩, ?_⟩); (conv => whnf))))
  refine p_draw hS1 (by decide) (by decide) fun v2 S2 a2 b2 hS2 kk2 => ?_
  have k2 := k1.trans kk2
  ((conv => whnf); (repeat ((first | refine ⟨(by show (0 : Int) < _; first | decide | omega), ?_⟩ | refine ⟨cmul_r (by decide) (by decide), ?_⟩ | refine ⟨cmul_l (by decide) (by decide), ?_⟩ | refine ⟨cmul_l (by omega) (by omega), ?_⟩ | refine ⟨cdiv_v (by omega) (by omega), ?_⟩ | refine ⟨cdiv_c (by decide) (by decide), ?_⟩ | refine ⟨(by decide), ?_⟩ | refine ⟨Nat.le_of_ble_eq_true rfl, ?_⟩ | refine ⟨⟨by decide, by decide, by decide⟩, ?_⟩); (conv => whnf))))
  refine ix_all (fun d => ∃ i, d = .int i ∧ 0 ≤ i ∧ i ≤ 65535) ?_ ?_ ?_ ?_
  · intro d hd
    simp only [List.mem_cons, List.not_mem_nil, or_false] at hd
    rcases hd with rfl | rfl | rfl | rfl | rfl | rfl | rfl | rfl | rfl | rfl <;> exact ⟨_, rfl, by omega, by omega⟩
  · split <;> omega
  · show _ < ((10 : Nat) : Int)
    split <;> omega
  · rintro _ ⟨i, rfl, i0, i1⟩
    exact k i _ i0 i1 hS2 k2
/-- a flow is drawn -/
theorem ix_flow {j : Int} {A : D → Prop} (h0 : 0 ≤ j) (h1 : j < 2) (k : ∀ b, A (.str (fl b))) : @Option.rec D (fun _ => Prop) False A (atI [.str "public", .str "secret"] j) := by
  refine ix_all (fun d => ∃ b, d = .str (fl b)) ?_ h0 h1 ?_
  · intro d hd
    simp only [List.mem_cons, List.not_mem_nil, or_false] at hd
    rcases hd with rfl | rfl
    · exact ⟨false, rfl⟩
    · exact ⟨true, rfl⟩
  · rintro _ ⟨b, rfl⟩
    exact k b
theorem ix_int (lo hi : Int) {L : List D} {j : Int} {A : D → Prop} (h : ∀ d ∈ L, ∃ i, d = .int i ∧ lo ≤ i ∧ i ≤ hi) (h0 : 0 ≤ j) (h1 : j < L.length) (k : ∀ i, lo ≤ i → i ≤ hi → A (.int i)) : @Option.rec D (fun _ => Prop) False A (atI L j) := by
  refine ix_all _ h h0 h1 ?_
  rintro _ ⟨i, rfl, a, b⟩
  exact k i a b

theorem bits_iff {M : Int} (h0 : 0 ≤ M) (j : Nat) : (2 : Int) ^ j ≤ M ↔ j < Builtin.Int.intBits M := by
  obtain ⟨m, rfl⟩ := Int.eq_ofNat_of_zero_le h0
  have e : ((2 : Int) ^ j ≤ (m : Int)) ↔ 2 ^ j ≤ m := by
    rw [show (2 : Int) ^ j = ((2 ^ j : Nat) : Int) by simp]
    omega
  rw [e]
  unfold Builtin.Int.intBits
  by_cases hm : m = 0
  · subst hm
    have := Nat.two_pow_pos j
    simp
  · rw [if_neg (by simpa using hm)]
    have := Nat.le_log2 (n := m) (k := j) hm
    show _ ↔ j < m.log2 + 1
    omega
theorem pow1 (j : Nat) : (1 : Int) ≤ 2 ^ j := by
  rw [show (2 : Int) ^ j = ((2 ^ j : Nat) : Int) by simp]
  have := Nat.two_pow_pos j
  omega
/-! ### facts stay facts -/
theorem as_ok {l h : Int} (c : l ≤ h) : 0 ≤ (asW l h).1 ∧ (asW l h).1 ≤ (asW l h).2 ∧ (asW l h).2 ≤ 65535 := by
  unfold asW
  split <;> exact ⟨by dsimp only; omega, by dsimp only; omega, by dsimp only; omega⟩
theorem div_mono {a a' b b' : Int} (a0 : 0 ≤ a) (h1 : a ≤ a') (b0 : 0 < b) (h2 : b ≤ b') : a / b' ≤ a' / b := by
  have q0 : 0 ≤ a / b' := Int.ediv_nonneg a0 (by omega)
  refine (Int.le_ediv_iff_mul_le b0).mpr ?_
  have s1 : a / b' * b ≤ a / b' * b' := Int.mul_le_mul_of_nonneg_left h2 q0
  have s2 : a / b' * b' ≤ a := Int.ediv_mul_le _ (by omega)
  omega
theorem mul_mono {a b a' b' : Int} (a0 : 0 ≤ a) (b0 : 0 ≤ b) (h1 : a ≤ a') (h2 : b ≤ b') : a * b ≤ a' * b' := Int.mul_le_mul h1 h2 b0 (by omega)
theorem mask_ok {k : Nat} (h : k ≤ 16) : 0 ≤ maskM (k : Int) ∧ maskM (k : Int) ≤ 65535 := by
  have e : maskM (k : Int) = 2 ^ k - 1 := by
    unfold maskM
    rw [Int.toNat_natCast, Int.one_mul]
  have := Nat.pow_le_pow_right (show 2 > 0 by decide) h
  have := pow1 k
  have e2 : (2 : Int) ^ k = ((2 ^ k : Nat) : Int) := by simp
  rw [e]
  omega
theorem top_ok {n : Str} {h g : Int} (a0 : 0 ≤ h) (b0 : 0 ≤ g) (a : h ≤ 65535) (b : g ≤ 65535) : 0 ≤ topM n h g ∧ topM n h g ≤ 65535 := by
  unfold topM
  split
  · omega
  · split
    · exact mask_ok (bits_le (by omega) (by omega))
    · split
      · exact ⟨by omega, by omega⟩
      · exact ⟨a0, a⟩
def okP (x : Int × Int) : Prop := 0 ≤ x.1 ∧ x.1 ≤ x.2 ∧ x.2 ≤ 65535
theorem op_ok {n : Str} {f g : Fa} (k1 : okR f) (k2 : okR g) : okP (opM n f g) := by
  obtain ⟨f0, f1, f2, _⟩ := k1
  obtain ⟨g0, g1, g2, _⟩ := k2
  have hm : 0 ≤ moreM n := by
    unfold moreM
    split <;> decide
  unfold opM okP
  split
  · exact as_ok (by omega)
  · split
    · exact as_ok (by omega)
    · split
      · exact as_ok (mul_mono f0 g0 f1 g1)
      · split
        · refine ⟨Int.ediv_nonneg (Int.mul_nonneg f0 g0) (by decide), Int.ediv_le_ediv (by decide) (mul_mono f0 g0 f1 g1), ?_⟩
          have := mul_mono (a := f.hi) (b := g.hi) (a' := 65535) (b' := 65535) (by omega) (by omega) f2 g2
          exact Int.le_trans (Int.ediv_le_ediv (by decide) this) (by decide)
        · split
          · split
            · refine ⟨Int.ediv_nonneg f0 (by omega), div_mono f0 f1 (by omega) g1, ?_⟩
              have := div_mono (a := f.hi) (a' := 65535) (b := 1) (b' := g.lo) (by omega) f2 (by decide) (by omega)
              simpa using this
            · exact ⟨by decide, by decide, by decide⟩
          · have := top_ok (n := n) (h := f.hi) (g := g.hi) (by omega) (by omega) f2 g2
            exact ⟨Int.le_refl 0, this.1, this.2⟩
theorem sh_ok {n : Str} {l h k : Int} (a : 0 ≤ l) (b : h ≤ 65535) (c : l ≤ h) : okP (shM n l h k) := by
  have p := pow1 k.toNat
  unfold shM okP
  split
  · exact ⟨Int.ediv_nonneg a (by omega), Int.ediv_le_ediv (by omega) c, Int.le_trans (Int.ediv_le_self _ (by omega)) b⟩
  · exact as_ok (Int.mul_le_mul_of_nonneg_right c (by omega))
theorem ld_ok {gs : List Rg} (ok : LayOk gs) {lo hi : Int} (h0 : 0 ≤ lo) : okR (loadM gs lo hi) := by
  unfold loadM
  split
  · exact ⟨by decide, by decide, by decide, by decide⟩
  · rename_i g h
    have := ok.most g (List.mem_of_find?_eq_some h)
    split
    · exact ⟨by show (0 : Int) ≤ 0; decide, this.1, this.2, by show -1 ≤ lo; omega⟩
    · exact ⟨by show (0 : Int) ≤ 0; decide, this.1, this.2, by show (-1 : Int) ≤ -1; decide⟩
theorem cut_ok {lo hi : Int} {f : Fa} (h : okR f) : okR (cutF lo hi f) := by
  unfold cutF
  split
  · exact ⟨h.1, h.2.1, h.2.2.1, by show (-1 : Int) ≤ -1; decide⟩
  · exact h
theorem cell_ok {f g : Fa} (h : okR f) : -1 ≤ (cellM f g).1 := by
  unfold cellM
  split
  · show (-1 : Int) ≤ -1
    decide
  · exact h.2.2.2
theorem res_ok {gs : List Rg} {fs : List Fa} {c : Bool} {i : Ins} (ok : LayOk gs) (l : fs.length = 16) (kf : ∀ f ∈ fs, okR f) (hi : i.ok) : okR (resM gs fs c i) := by
  cases i with
  | set r w => exact ⟨hi.2.1, Int.le_refl _, hi.2.2, by show (-1 : Int) ≤ -1; decide⟩
  | move r s => exact kf _ (atF_mem l hi.2)
  | carry r => exact ⟨by show (0 : Int) ≤ 0; decide, by show (0 : Int) ≤ 1; decide, by show (1 : Int) ≤ 65535; decide, by show (-1 : Int) ≤ -1; decide⟩
  | load r s d =>
    have := kf _ (atF_mem l hi.2.1)
    exact ld_ok ok (by have := this.1; have := hi.2.2; omega)
  | sh n r s k =>
    obtain ⟨f0, f1, f2, _⟩ := kf _ (atF_mem l hi.2.2.1)
    obtain ⟨a, b, c⟩ := sh_ok (n := n) (k := k) f0 f2 f1
    exact ⟨a, b, c, by show (-1 : Int) ≤ -1; decide⟩
  | ar n r s t =>
    have ks := kf _ (atF_mem l hi.2.2.1)
    have kt := kf _ (atF_mem l hi.2.2.2)
    obtain ⟨a, b, c⟩ := op_ok (n := n) ks kt
    refine ⟨a, b, c, ?_⟩
    show -1 ≤ if n = "add" then (cellM (atF fs s) (atF fs t)).1 else -1
    split
    · exact cell_ok ks
    · decide
  | store r s d => exact ⟨by show (0 : Int) ≤ 0; decide, by show (0 : Int) ≤ 0; decide, by show (0 : Int) ≤ 65535; decide, by show (-1 : Int) ≤ -1; decide⟩
  | clear => exact ⟨by show (0 : Int) ≤ 0; decide, by show (0 : Int) ≤ 0; decide, by show (0 : Int) ≤ 65535; decide, by show (-1 : Int) ≤ -1; decide⟩
  | other n xs => exact ⟨by show (0 : Int) ≤ 0; decide, by show (0 : Int) ≤ 0; decide, by show (0 : Int) ≤ 65535; decide, by show (-1 : Int) ≤ -1; decide⟩
theorem next_ok {gs : List Rg} {fs : List Fa} {c : Bool} {i : Ins} (ok : LayOk gs) (l : fs.length = 16) (kf : ∀ f ∈ fs, okR f) (hi : i.ok) : (nextF gs fs c i).length = 16 ∧ ∀ f ∈ nextF gs fs c i, okR f := by
  have key : ∀ j : Nat, (fs.set j (resM gs fs c i)).length = 16 ∧ ∀ f ∈ fs.set j (resM gs fs c i), okR f := fun j => ⟨by rw [List.length_set, l], fun f hf => by
    rcases List.mem_or_eq_of_mem_set hf with h | h
    · exact kf f h
    · rw [h]
      exact res_ok ok l kf hi⟩
  cases i with
  | store r s d =>
    refine ⟨by show (List.map _ _).length = 16; rw [List.length_map, l], fun f hf => ?_⟩
    obtain ⟨g, hg, rfl⟩ := List.mem_map.mp (show f ∈ List.map _ _ from hf)
    exact cut_ok (kf g hg)
  | clear => exact ⟨l, kf⟩
  | other n xs => exact ⟨l, kf⟩
  | _ => exact key _

end K68

set_option Elab.async false
set_option linter.all false
set_option maxRecDepth 100000
set_option maxHeartbeats 4000000
namespace K68
open PySem PySem.Spec PyProof.Rows L2 DT
/-! ### values in their facts -/
def inP (w : Int) (x : Int × Int) : Prop := x.1 ≤ w ∧ w ≤ x.2
def wd (w : Int) : Prop := 0 ≤ w ∧ w ≤ 65535
theorem in_as {l h w : Int} (k : wd w) (e : 0 ≤ l → h ≤ 65535 → l ≤ w ∧ w ≤ h) : inP w (asW l h) := by
  unfold asW inP
  split
  · exact k
  · exact e (by omega) (by omega)
/-- what an operation answers, and the carry behind it -/
def compM (n : Str) (a b c : Int) : Int × Int :=
  if n = "add" then ((a + b) % 65536, (a + b) / 65536) else if n = "addc" then ((a + b + c) % 65536, (a + b + c) / 65536)
  else if n = "sub" then ((a - b) % 65536, if a - b < 0 then 1 else 0) else if n = "subc" then ((a - b - c) % 65536, if a - b - c < 0 then 1 else 0)
  else if n = "mul" then (a * b % 65536, c) else if n = "high" then (a * b / 65536, c)
  else if n = "div" then (if b = 0 then 65535 else a / b, c)
  else if n = "and" then (Builtin.bitAnd a b, c) else if n = "or" then (Builtin.bitOr a b, c) else if n = "xor" then (Builtin.bitXor a b, c)
  else if n = "less" then (if a < b then 1 else 0, c) else if n = "up" then (a * 2 ^ b.toNat % 65536, c)
  else (a / 2 ^ (b % 16).toNat, c)
theorem nat_bits {a : Int} (h : 0 ≤ a) {m : Int} (hm : a ≤ m) : a.toNat < 2 ^ Builtin.Int.intBits m := by
  have h2 : ¬ (2 : Int) ^ Builtin.Int.intBits m ≤ m := fun z => absurd ((bits_iff (by omega) _).mp z) (Nat.lt_irrefl _)
  have e : (2 : Int) ^ Builtin.Int.intBits m = ((2 ^ Builtin.Int.intBits m : Nat) : Int) := by simp
  omega
theorem pow_le_pow' {j k : Nat} (h : j ≤ k) : (2 : Int) ^ j ≤ 2 ^ k := by
  have := Nat.pow_le_pow_right (show 2 > 0 by decide) h
  rw [show (2 : Int) ^ j = ((2 ^ j : Nat) : Int) by simp, show (2 : Int) ^ k = ((2 ^ k : Nat) : Int) by simp]
  omega
theorem and_in {a b h g : Int} (a0 : 0 ≤ a) (b0 : 0 ≤ b) (ha : a ≤ h) (hb : b ≤ g) : 0 ≤ Builtin.bitAnd a b ∧ Builtin.bitAnd a b ≤ min h g := by
  have e : Builtin.bitAnd a b = ((a.toNat &&& b.toNat : Nat) : Int) := bitAnd_pp a0 b0
  have := Nat.and_le_left (n := a.toNat) (m := b.toNat)
  have := Nat.and_le_right (n := a.toNat) (m := b.toNat)
  rw [e]
  omega
theorem or_in {a b h g : Int} (a0 : 0 ≤ a) (b0 : 0 ≤ b) (ha : a ≤ h) (hb : b ≤ g) : 0 ≤ Builtin.bitOr a b ∧ Builtin.bitOr a b ≤ maskM ((Builtin.Int.intBits (max h g) : Nat) : Int) := by
  have h1 := nat_bits a0 (show a ≤ max h g by omega)
  have h2 := nat_bits b0 (show b ≤ max h g by omega)
  have := Nat.or_lt_two_pow h1 h2
  unfold maskM
  rw [Bits.bitOr_pp a0 b0, Int.toNat_natCast, Int.one_mul, show (2 : Int) ^ Builtin.Int.intBits (max h g) = ((2 ^ Builtin.Int.intBits (max h g) : Nat) : Int) by simp]
  omega
theorem xor_in {a b h g : Int} (a0 : 0 ≤ a) (b0 : 0 ≤ b) (ha : a ≤ h) (hb : b ≤ g) : 0 ≤ Builtin.bitXor a b ∧ Builtin.bitXor a b ≤ maskM ((Builtin.Int.intBits (max h g) : Nat) : Int) := by
  have h1 := nat_bits a0 (show a ≤ max h g by omega)
  have h2 := nat_bits b0 (show b ≤ max h g by omega)
  have := Nat.xor_lt_two_pow h1 h2
  unfold maskM
  rw [Bits.bitXor_pp a0 b0, Int.toNat_natCast, Int.one_mul, show (2 : Int) ^ Builtin.Int.intBits (max h g) = ((2 ^ Builtin.Int.intBits (max h g) : Nat) : Int) by simp]
  omega
theorem shr_in {a h : Int} (k : Nat) (a0 : 0 ≤ a) (ha : a ≤ h) : 0 ≤ a / 2 ^ k ∧ a / 2 ^ k ≤ h := by
  have := pow1 k
  exact ⟨Int.ediv_nonneg a0 (by omega), Int.le_trans (Int.ediv_le_self _ a0) ha⟩
theorem comp_in {n : Str} {f g : Fa} {a b c : Int} (hn : n ∈ ar12) (k1 : okR f) (k2 : okR g) (ha : inP a (f.lo, f.hi)) (hb : inP b (g.lo, g.hi)) (hc : c = 0 ∨ c = 1) : inP (compM n a b c).1 (opM n f g) ∧ wd (compM n a b c).1 ∧ ((compM n a b c).2 = 0 ∨ (compM n a b c).2 = 1) := by
  obtain ⟨f0, f1, f2, _⟩ := k1
  obtain ⟨g0, g1, g2, _⟩ := k2
  obtain ⟨a1, a2⟩ := ha
  obtain ⟨b1, b2⟩ := hb
  dsimp only at a1 a2 b1 b2
  have m1 : f.lo * g.lo ≤ a * b := mul_mono f0 g0 a1 b1
  have m2 : a * b ≤ f.hi * g.hi := mul_mono (by omega) (by omega) a2 b2
  have m0 : 0 ≤ f.lo * g.lo := Int.mul_nonneg f0 g0
  have m3 : f.hi * g.hi ≤ 65535 * 65535 := mul_mono (by omega) (by omega) f2 g2
  unfold ar12 at hn
  simp only [List.mem_cons, List.not_mem_nil, or_false] at hn
  rcases hn with rfl | rfl | rfl | rfl | rfl | rfl | rfl | rfl | rfl | rfl | rfl | rfl
  · show inP ((a + b) % 65536) (asW _ (_ + 0)) ∧ wd ((a + b) % 65536) ∧ ((a + b) / 65536 = 0 ∨ (a + b) / 65536 = 1)
    have w : wd ((a + b) % 65536) := ⟨by omega, by omega⟩
    exact ⟨in_as w fun h1 h2 => by omega, w, by omega⟩
  · show inP ((a + b + c) % 65536) (asW _ (_ + 1)) ∧ wd ((a + b + c) % 65536) ∧ ((a + b + c) / 65536 = 0 ∨ (a + b + c) / 65536 = 1)
    have w : wd ((a + b + c) % 65536) := ⟨by omega, by omega⟩
    exact ⟨in_as w fun h1 h2 => by omega, w, by omega⟩
  · show inP ((a - b) % 65536) (asW (_ - 0) _) ∧ wd ((a - b) % 65536) ∧ ((if a - b < 0 then (1 : Int) else 0) = 0 ∨ (if a - b < 0 then (1 : Int) else 0) = 1)
    have w : wd ((a - b) % 65536) := ⟨by omega, by omega⟩
    exact ⟨in_as w fun h1 h2 => by omega, w, by split <;> omega⟩
  · show inP ((a - b - c) % 65536) (asW (_ - 1) _) ∧ wd ((a - b - c) % 65536) ∧ ((if a - b - c < 0 then (1 : Int) else 0) = 0 ∨ (if a - b - c < 0 then (1 : Int) else 0) = 1)
    have w : wd ((a - b - c) % 65536) := ⟨by omega, by omega⟩
    exact ⟨in_as w fun h1 h2 => by omega, w, by split <;> omega⟩
  · show inP (a * b % 65536) (asW _ _) ∧ wd (a * b % 65536) ∧ (c = 0 ∨ c = 1)
    have w : wd (a * b % 65536) := ⟨by omega, by omega⟩
    exact ⟨in_as w fun h1 h2 => by omega, w, hc⟩
  · show inP (a * b / 65536) (f.lo * g.lo / 65536, f.hi * g.hi / 65536) ∧ wd (a * b / 65536) ∧ (c = 0 ∨ c = 1)
    exact ⟨⟨Int.ediv_le_ediv (by decide) m1, Int.ediv_le_ediv (by decide) m2⟩, ⟨by omega, by omega⟩, hc⟩
  · show inP (if b = 0 then 65535 else a / b) (if 1 ≤ g.lo then (f.lo / g.hi, f.hi / g.lo) else (0, 65535)) ∧ wd (if b = 0 then 65535 else a / b) ∧ (c = 0 ∨ c = 1)
    have w : wd (if b = 0 then 65535 else a / b) := by
      split
      · exact ⟨by decide, by decide⟩
      · have := Int.ediv_le_self b (show 0 ≤ a by omega)
        exact ⟨Int.ediv_nonneg (by omega) (by omega), by omega⟩
    refine ⟨?_, w, hc⟩
    by_cases z : 1 ≤ g.lo
    · rw [if_pos z, if_neg (show ¬ b = 0 by omega)]
      exact ⟨div_mono f0 a1 (by omega) b2, div_mono (by omega) a2 (by omega) b1⟩
    · rw [if_neg z]
      exact w
  · have := and_in (a := a) (b := b) (by omega) (by omega) a2 b2
    exact ⟨this, ⟨this.1, Int.le_trans this.2 (by omega)⟩, hc⟩
  · have := or_in (a := a) (b := b) (by omega) (by omega) a2 b2
    exact ⟨this, ⟨this.1, Int.le_trans this.2 (mask_ok (bits_le (by omega) (by omega))).2⟩, hc⟩
  · have := xor_in (a := a) (b := b) (by omega) (by omega) a2 b2
    exact ⟨this, ⟨this.1, Int.le_trans this.2 (mask_ok (bits_le (by omega) (by omega))).2⟩, hc⟩
  · show inP (if a < b then 1 else 0) (0, 1) ∧ wd (if a < b then 1 else 0) ∧ (c = 0 ∨ c = 1)
    refine ⟨?_, ?_, hc⟩
    · split
      · exact ⟨by decide, by decide⟩
      · exact ⟨by decide, by decide⟩
    · split
      · exact ⟨by decide, by decide⟩
      · exact ⟨by decide, by decide⟩
  · have := shr_in (b % 16).toNat (show 0 ≤ a by omega) a2
    exact ⟨this, ⟨this.1, Int.le_trans this.2 f2⟩, hc⟩
theorem sh_in {n : Str} {f : Fa} {a k c : Int} (hn : n = "down" ∨ n = "up") (k1 : okR f) (ha : inP a (f.lo, f.hi)) (hk : rg k) : inP (compM n a k c).1 (shM n f.lo f.hi k) ∧ wd (compM n a k c).1 ∧ (compM n a k c).2 = c := by
  obtain ⟨f0, f1, f2, _⟩ := k1
  obtain ⟨a1, a2⟩ := ha
  obtain ⟨k0, k1⟩ := hk
  dsimp only at a1 a2
  have p := pow1 k.toNat
  rcases hn with rfl | rfl
  · have e : k % 16 = k := by omega
    show inP (a / 2 ^ (k % 16).toNat) (f.lo / 2 ^ k.toNat, f.hi / 2 ^ k.toNat) ∧ wd (a / 2 ^ (k % 16).toNat) ∧ c = c
    rw [e]
    have := shr_in k.toNat (show 0 ≤ a by omega) a2
    exact ⟨⟨Int.ediv_le_ediv (by omega) a1, Int.ediv_le_ediv (by omega) a2⟩, ⟨this.1, Int.le_trans this.2 f2⟩, rfl⟩
  · show inP (a * 2 ^ k.toNat % 65536) (asW (f.lo * 2 ^ k.toNat) (f.hi * 2 ^ k.toNat)) ∧ wd (a * 2 ^ k.toNat % 65536) ∧ c = c
    have n1 := Int.mul_le_mul_of_nonneg_right a1 (show 0 ≤ (2 : Int) ^ k.toNat by omega)
    have n2 := Int.mul_le_mul_of_nonneg_right a2 (show 0 ≤ (2 : Int) ^ k.toNat by omega)
    have w : wd (a * 2 ^ k.toNat % 65536) := ⟨by omega, by omega⟩
    exact ⟨in_as w fun h1 h2 => by rw [Int.emod_eq_of_lt (by omega) (by omega)]; exact ⟨n1, n2⟩, w, rfl⟩
end K68

set_option Elab.async false
set_option linter.all false
set_option maxRecDepth 100000
set_option maxHeartbeats 4000000
namespace K68
open PySem PySem.Spec PyProof.Rows L2 DT
/-! ### the law's layout, memories -/
def endM (g : Rg) : Int := g.start + g.size
theorem p_layout {S : Sto} {p : Nat} {q : DK} (hS0 : Src S p) (k : ∀ g h S', LayOk [g, h] → 0 < endM h → endM h ≤ 20 → Src S' p → Kp (· = p) S S' → q (dLay [g, h]) S') : wp_law_layout [.ref p] S q := by
  have hp := hS0.lt
  have k0 : Kp (· = p) S S := .rfl
  rw [eq_law_layout]
  ((conv => whnf); (repeat ((first | refine ⟨(by show (0 : Int) < _; first | decide | omega), ?_⟩ | refine ⟨cmul_r (by decide) (by decide), ?_⟩ | refine ⟨cmul_l (by decide) (by decide), ?_⟩ | refine ⟨cmul_l (by omega) (by omega), ?_⟩ | refine ⟨cdiv_v (by omega) (by omega), ?_⟩ | refine ⟨cdiv_c (by decide) (by decide), ?_⟩ | refine ⟨(by decide), ?_⟩ | refine ⟨Nat.le_of_ble_eq_true rfl, ?_⟩ | refine ⟨⟨by decide, by decide, by decide⟩, ?_⟩); (conv => whnf))))
  refine p_draw hS0 (by decide) (by decide) fun v1 S1 a1 b1 hS1 kk1 => ?_
  have k1 := k0.trans kk1
  ((conv => whnf); (repeat ((first | refine ⟨(by show (0 : Int) < _; first | decide | omega), ?_⟩ | refine ⟨cmul_r (by decide) (by decide), ?_⟩ | refine ⟨cmul_l (by decide) (by decide), ?_⟩ | refine ⟨cmul_l (by omega) (by omega), ?_⟩ | refine ⟨cdiv_v (by omega) (by omega), ?_⟩ | refine ⟨cdiv_c (by decide) (by decide), ?_⟩ | refine ⟨(by decide), ?_⟩ | refine ⟨Nat.le_of_ble_eq_true rfl, ?_⟩ | refine ⟨⟨by decide, by decide, by decide⟩, ?_⟩); (conv => whnf))))
  refine p_draw hS1 (by decide) (by decide) fun v2 S2 a2 b2 hS2 kk2 => ?_
  have k2 := k1.trans kk2
  ((conv => whnf); (repeat ((first | refine ⟨(by show (0 : Int) < _; first | decide | omega), ?_⟩ | refine ⟨cmul_r (by decide) (by decide), ?_⟩ | refine ⟨cmul_l (by decide) (by decide), ?_⟩ | refine ⟨cmul_l (by omega) (by omega), ?_⟩ | refine ⟨cdiv_v (by omega) (by omega), ?_⟩ | refine ⟨cdiv_c (by decide) (by decide), ?_⟩ | refine ⟨(by decide), ?_⟩ | refine ⟨Nat.le_of_ble_eq_true rfl, ?_⟩ | refine ⟨⟨by decide, by decide, by decide⟩, ?_⟩); (conv => whnf))))
  refine p_draw hS2 (by decide) (by decide) fun v3 S3 a3 b3 hS3 kk3 => ?_
  have k3 := k2.trans kk3
  ((conv => whnf); (repeat ((first | refine ⟨(by show (0 : Int) < _; first | decide | omega), ?_⟩ | refine ⟨cmul_r (by decide) (by decide), ?_⟩ | refine ⟨cmul_l (by decide) (by decide), ?_⟩ | refine ⟨cmul_l (by omega) (by omega), ?_⟩ | refine ⟨cdiv_v (by omega) (by omega), ?_⟩ | refine ⟨cdiv_c (by decide) (by decide), ?_⟩ | refine ⟨(by decide), ?_⟩ | refine ⟨Nat.le_of_ble_eq_true rfl, ?_⟩ | refine ⟨⟨by decide, by decide, by decide⟩, ?_⟩); (conv => whnf))))
  refine p_draw hS3 (by decide) (by decide) fun v4 S4 a4 b4 hS4 kk4 => ?_
  have k4 := k3.trans kk4
  ((conv => whnf); (repeat ((first | refine ⟨(by show (0 : Int) < _; first | decide | omega), ?_⟩ | refine ⟨cmul_r (by decide) (by decide), ?_⟩ | refine ⟨cmul_l (by decide) (by decide), ?_⟩ | refine ⟨cmul_l (by omega) (by omega), ?_⟩ | refine ⟨cdiv_v (by omega) (by omega), ?_⟩ | refine ⟨cdiv_c (by decide) (by decide), ?_⟩ | refine ⟨(by decide), ?_⟩ | refine ⟨Nat.le_of_ble_eq_true rfl, ?_⟩ | refine ⟨⟨by decide, by decide, by decide⟩, ?_⟩); (conv => whnf))))
  refine ix_int 0 65535 ?_ a4 b4 fun m m0 m1 => ?_
  · intro d hd
    simp only [List.mem_cons, List.not_mem_nil, or_false] at hd
    rcases hd with rfl | rfl | rfl <;> exact ⟨_, rfl, by omega, by omega⟩
  ((conv => whnf); (repeat ((first | refine ⟨(by show (0 : Int) < _; first | decide | omega), ?_⟩ | refine ⟨cmul_r (by decide) (by decide), ?_⟩ | refine ⟨cmul_l (by decide) (by decide), ?_⟩ | refine ⟨cmul_l (by omega) (by omega), ?_⟩ | refine ⟨cdiv_v (by omega) (by omega), ?_⟩ | refine ⟨cdiv_c (by decide) (by decide), ?_⟩ | refine ⟨(by decide), ?_⟩ | refine ⟨Nat.le_of_ble_eq_true rfl, ?_⟩ | refine ⟨⟨by decide, by decide, by decide⟩, ?_⟩); (conv => whnf))))
  have l4 := hS4.lt
  have k4' := k4.len
  generalize hY : S4 ++ [Ob.lst _] ++ [Ob.lst _] = Y
  have e0 : Y[S4.length]? = some _ := (congrArg (fun s : Sto => s[S4.length]?) hY.symm).trans (get_old S4 _ _)
  have e1 : Y[(S4 ++ [Ob.lst _]).length]? = some _ := (congrArg (fun s : Sto => s[(S4 ++ [Ob.lst _]).length]?) hY.symm).trans (get_new _ _)
  have kY : ∀ Z : Nat → Prop, Kp Z S4 Y := fun Z => by rw [← hY]; exact Kp.app.trans .app
  have hS5 : Src Y p := hS4.keep (kY fun _ => False) id
  have k5 : Kp (· = p) S Y := k4.trans (kY _)
  refine p_draw hS5 (by decide) (by decide) fun v6 S6 a6 b6 hS6 kk6 => ?_
  have k6 := k5.trans kk6
  have E0 := kk6.get (show ¬ S4.length = p by omega) e0
  have E1 := kk6.get (show ¬ (S4 ++ [Ob.lst _]).length = p by rw [List.length_append]; omega) e1
  have fin : ∀ b z m2 S9, 0 ≤ z → z < 6 → 0 ≤ m2 → m2 ≤ 65535 → Src S9 p → Kp (· = p) S S9 → q (dLay [⟨0, 1 + v1, b, m⟩, ⟨1 + v1 + v2, 1 + z, !b, m2⟩]) S9 := fun b z m2 S9 z0 z1 m20 m21 hS9 k9 => by
    refine k _ _ S9 ⟨fun i j g h hij hg hh => ?_, fun g hg => ?_, fun g hg => ?_, Nat.le_of_ble_eq_true rfl⟩ ?_ ?_ hS9 k9
    · have hj := (List.getElem?_eq_some_iff.mp hh).1
      have hj : j < 2 := hj
      have : i = 0 := by omega
      have : j = 1 := by omega
      subst i j
      cases hg
      cases hh
      show 0 + (1 + v1) ≤ 1 + v1 + v2
      omega
    · simp only [List.mem_cons, List.not_mem_nil, or_false] at hg
      rcases hg with rfl | rfl
      · exact ⟨by show 1 ≤ 1 + v1; omega, by show (0 : Int) ≤ 0; omega⟩
      · exact ⟨by show 1 ≤ 1 + z; omega, by show 0 ≤ 1 + v1 + v2; omega⟩
    · simp only [List.mem_cons, List.not_mem_nil, or_false] at hg
      rcases hg with rfl | rfl
      · exact ⟨m0, m1⟩
      · exact ⟨m20, m21⟩
    · show 0 < 1 + v1 + v2 + (1 + z)
      omega
    · show 1 + v1 + v2 + (1 + z) ≤ 20
      omega
  have h01 : v6 = 0 ∨ v6 = 1 := by omega
  rcases h01 with rfl | rfl
  · ((conv => whnf); (repeat ((first | refine ⟨(by show (0 : Int) < _; first | decide | omega), ?_⟩ | refine ⟨cmul_r (by decide) (by decide), ?_⟩ | refine ⟨cmul_l (by decide) (by decide), ?_⟩ | refine ⟨cmul_l (by omega) (by omega), ?_⟩ | refine ⟨cdiv_v (by omega) (by omega), ?_⟩ | refine ⟨cdiv_c (by decide) (by decide), ?_⟩ | refine ⟨(by decide), ?_⟩ | refine ⟨Nat.le_of_ble_eq_true rfl, ?_⟩ | refine ⟨⟨by decide, by decide, by decide⟩, ?_⟩); (conv => whnf))))
    rw [seqD_ref E0]
    ((conv => whnf); (repeat ((first | refine ⟨(by show (0 : Int) < _; first | decide | omega), ?_⟩ | refine ⟨cmul_r (by decide) (by decide), ?_⟩ | refine ⟨cmul_l (by decide) (by decide), ?_⟩ | refine ⟨cmul_l (by omega) (by omega), ?_⟩ | refine ⟨cdiv_v (by omega) (by omega), ?_⟩ | refine ⟨cdiv_c (by decide) (by decide), ?_⟩ | refine ⟨(by decide), ?_⟩ | refine ⟨Nat.le_of_ble_eq_true rfl, ?_⟩ | refine ⟨⟨by decide, by decide, by decide⟩, ?_⟩); (conv => whnf))))
    refine p_draw hS6 (by decide) (by decide) fun v7 S7 a7 b7 hS7 kk7 => ?_
    have k7 := k6.trans kk7
    ((conv => whnf); (repeat ((first | refine ⟨(by show (0 : Int) < _; first | decide | omega), ?_⟩ | refine ⟨cmul_r (by decide) (by decide), ?_⟩ | refine ⟨cmul_l (by decide) (by decide), ?_⟩ | refine ⟨cmul_l (by omega) (by omega), ?_⟩ | refine ⟨cdiv_v (by omega) (by omega), ?_⟩ | refine ⟨cdiv_c (by decide) (by decide), ?_⟩ | refine ⟨(by decide), ?_⟩ | refine ⟨Nat.le_of_ble_eq_true rfl, ?_⟩ | refine ⟨⟨by decide, by decide, by decide⟩, ?_⟩); (conv => whnf))))
    have E7 := kk7.get (show ¬ S4.length = p by omega) E0
    rw [seqD_ref E7]
    ((conv => whnf); (repeat ((first | refine ⟨(by show (0 : Int) < _; first | decide | omega), ?_⟩ | refine ⟨cmul_r (by decide) (by decide), ?_⟩ | refine ⟨cmul_l (by decide) (by decide), ?_⟩ | refine ⟨cmul_l (by omega) (by omega), ?_⟩ | refine ⟨cdiv_v (by omega) (by omega), ?_⟩ | refine ⟨cdiv_c (by decide) (by decide), ?_⟩ | refine ⟨(by decide), ?_⟩ | refine ⟨Nat.le_of_ble_eq_true rfl, ?_⟩ | refine ⟨⟨by decide, by decide, by decide⟩, ?_⟩); (conv => whnf))))
    refine p_draw hS7 (by decide) (by decide) fun v8 S8 a8 b8 hS8 kk8 => ?_
    have k8 := k7.trans kk8
    ((conv => whnf); (repeat ((first | refine ⟨(by show (0 : Int) < _; first | decide | omega), ?_⟩ | refine ⟨cmul_r (by decide) (by decide), ?_⟩ | refine ⟨cmul_l (by decide) (by decide), ?_⟩ | refine ⟨cmul_l (by omega) (by omega), ?_⟩ | refine ⟨cdiv_v (by omega) (by omega), ?_⟩ | refine ⟨cdiv_c (by decide) (by decide), ?_⟩ | refine ⟨(by decide), ?_⟩ | refine ⟨Nat.le_of_ble_eq_true rfl, ?_⟩ | refine ⟨⟨by decide, by decide, by decide⟩, ?_⟩); (conv => whnf))))
    refine ix_int 0 65535 ?_ a8 b8 fun m2 m20 m21 => ?_
    · intro d hd
      simp only [List.mem_cons, List.not_mem_nil, or_false] at hd
      rcases hd with rfl | rfl <;> exact ⟨_, rfl, by omega, by omega⟩
    exact fin false v7 m2 S8 a7 b7 m20 m21 hS8 k8
  · ((conv => whnf); (repeat ((first | refine ⟨(by show (0 : Int) < _; first | decide | omega), ?_⟩ | refine ⟨cmul_r (by decide) (by decide), ?_⟩ | refine ⟨cmul_l (by decide) (by decide), ?_⟩ | refine ⟨cmul_l (by omega) (by omega), ?_⟩ | refine ⟨cdiv_v (by omega) (by omega), ?_⟩ | refine ⟨cdiv_c (by decide) (by decide), ?_⟩ | refine ⟨(by decide), ?_⟩ | refine ⟨Nat.le_of_ble_eq_true rfl, ?_⟩ | refine ⟨⟨by decide, by decide, by decide⟩, ?_⟩); (conv => whnf))))
    rw [seqD_ref E1]
    ((conv => whnf); (repeat ((first | refine ⟨(by show (0 : Int) < _; first | decide | omega), ?_⟩ | refine ⟨cmul_r (by decide) (by decide), ?_⟩ | refine ⟨cmul_l (by decide) (by decide), ?_⟩ | refine ⟨cmul_l (by omega) (by omega), ?_⟩ | refine ⟨cdiv_v (by omega) (by omega), ?_⟩ | refine ⟨cdiv_c (by decide) (by decide), ?_⟩ | refine ⟨(by decide), ?_⟩ | refine ⟨Nat.le_of_ble_eq_true rfl, ?_⟩ | refine ⟨⟨by decide, by decide, by decide⟩, ?_⟩); (conv => whnf))))
    refine p_draw hS6 (by decide) (by decide) fun v7 S7 a7 b7 hS7 kk7 => ?_
    have k7 := k6.trans kk7
    ((conv => whnf); (repeat ((first | refine ⟨(by show (0 : Int) < _; first | decide | omega), ?_⟩ | refine ⟨cmul_r (by decide) (by decide), ?_⟩ | refine ⟨cmul_l (by decide) (by decide), ?_⟩ | refine ⟨cmul_l (by omega) (by omega), ?_⟩ | refine ⟨cdiv_v (by omega) (by omega), ?_⟩ | refine ⟨cdiv_c (by decide) (by decide), ?_⟩ | refine ⟨(by decide), ?_⟩ | refine ⟨Nat.le_of_ble_eq_true rfl, ?_⟩ | refine ⟨⟨by decide, by decide, by decide⟩, ?_⟩); (conv => whnf))))
    have E7 := kk7.get (show ¬ (S4 ++ [Ob.lst _]).length = p by rw [List.length_append]; omega) E1
    rw [seqD_ref E7]
    ((conv => whnf); (repeat ((first | refine ⟨(by show (0 : Int) < _; first | decide | omega), ?_⟩ | refine ⟨cmul_r (by decide) (by decide), ?_⟩ | refine ⟨cmul_l (by decide) (by decide), ?_⟩ | refine ⟨cmul_l (by omega) (by omega), ?_⟩ | refine ⟨cdiv_v (by omega) (by omega), ?_⟩ | refine ⟨cdiv_c (by decide) (by decide), ?_⟩ | refine ⟨(by decide), ?_⟩ | refine ⟨Nat.le_of_ble_eq_true rfl, ?_⟩ | refine ⟨⟨by decide, by decide, by decide⟩, ?_⟩); (conv => whnf))))
    refine p_draw hS7 (by decide) (by decide) fun v8 S8 a8 b8 hS8 kk8 => ?_
    have k8 := k7.trans kk8
    ((conv => whnf); (repeat ((first | refine ⟨(by show (0 : Int) < _; first | decide | omega), ?_⟩ | refine ⟨cmul_r (by decide) (by decide), ?_⟩ | refine ⟨cmul_l (by decide) (by decide), ?_⟩ | refine ⟨cmul_l (by omega) (by omega), ?_⟩ | refine ⟨cdiv_v (by omega) (by omega), ?_⟩ | refine ⟨cdiv_c (by decide) (by decide), ?_⟩ | refine ⟨(by decide), ?_⟩ | refine ⟨Nat.le_of_ble_eq_true rfl, ?_⟩ | refine ⟨⟨by decide, by decide, by decide⟩, ?_⟩); (conv => whnf))))
    refine ix_int 0 65535 ?_ a8 b8 fun m2 m20 m21 => ?_
    · intro d hd
      simp only [List.mem_cons, List.not_mem_nil, or_false] at hd
      rcases hd with rfl | rfl <;> exact ⟨_, rfl, by omega, by omega⟩
    exact fin true v7 m2 S8 a7 b7 m20 m21 hS8 k8
theorem find_first {α : Type} {p : α → Bool} : ∀ {l : List α} {i : Nat} {x : α}, l[i]? = some x → p x = true → (∀ (j : Nat) y, j < i → l[j]? = some y → p y = false) → l.find? p = some x
  | a :: l, 0, x, h, hp, _ => by
    cases h
    exact List.find?_cons_of_pos hp
  | a :: l, i + 1, x, h, hp, hn => by
    rw [List.find?_cons_of_neg (by rw [hn 0 a (Nat.succ_pos _) rfl]; exact Bool.false_ne_true)]
    exact find_first (by simpa using h) hp fun j y hj e => hn (j + 1) y (by omega) (by simpa using e)
def hasB (a : Int) (g : Rg) : Bool := decide (g.start ≤ a) && decide (a < g.start + g.size)
def atM (gs : List Rg) (a : Int) : Option Rg := gs.find? (hasB a)
def mostM : Option Rg → Int
  | none => -1
  | some g => g.most
def flowM : Option Rg → Str
  | none => ""
  | some g => fl g.sec
theorem p_most {gs : List Rg} {a : Int} {S : Sto} {q : DK} (k : q (.int (mostM (atM gs a))) S) : wp_law_most_at [dLay gs, .int a] S q := by
  rw [eq_law_most_at]
  ((conv => whnf); (repeat ((first | refine ⟨(by show (0 : Int) < _; first | decide | omega), ?_⟩ | refine ⟨cmul_r (by decide) (by decide), ?_⟩ | refine ⟨cmul_l (by decide) (by decide), ?_⟩ | refine ⟨cmul_l (by omega) (by omega), ?_⟩ | refine ⟨cdiv_v (by omega) (by omega), ?_⟩ | refine ⟨cdiv_c (by decide) (by decide), ?_⟩ | refine ⟨(by decide), ?_⟩ | refine ⟨Nat.le_of_ble_eq_true rfl, ?_⟩ | refine ⟨⟨by decide, by decide, by decide⟩, ?_⟩); (conv => whnf))))
  refine ⟨fun i ρ S' => ∃ u v w x, ρ = [some (dLay gs), some (.int a), u, v, w, x] ∧ S' = S ∧ ∀ (j : Nat) g, j < i → gs[j]? = some g → hasB a g = false, ⟨none, none, none, none, rfl, rfl, fun j g h => absurd h (Nat.not_lt_zero _)⟩, fun _ _ _ _ _ => trivial, ?_, ?_⟩
  · rintro i x ρ S' hx ⟨u, v, w, x, rfl, rfl, hn⟩
    rw [List.getElem?_map] at hx
    obtain ⟨g, hg, rfl⟩ := Option.map_eq_some_iff.mp hx
    have nxt : hasB a g = false → ∀ (j : Nat) g, j < i + 1 → gs[j]? = some g → hasB a g = false := fun h j g' hj hg' => by
      by_cases z : j = i
      · subst z
        rw [hg] at hg'
        cases hg'
        exact h
      · exact hn j g' (by omega) hg'
    ((conv => whnf); (repeat ((first | refine ⟨(by show (0 : Int) < _; first | decide | omega), ?_⟩ | refine ⟨cmul_r (by decide) (by decide), ?_⟩ | refine ⟨cmul_l (by decide) (by decide), ?_⟩ | refine ⟨cmul_l (by omega) (by omega), ?_⟩ | refine ⟨cdiv_v (by omega) (by omega), ?_⟩ | refine ⟨cdiv_c (by decide) (by decide), ?_⟩ | refine ⟨(by decide), ?_⟩ | refine ⟨Nat.le_of_ble_eq_true rfl, ?_⟩ | refine ⟨⟨by decide, by decide, by decide⟩, ?_⟩); (conv => whnf))))
    first | refine bcase (fun c1 => ?_) (fun c1 => ?_) | refine bcase0 (fun c1 => ?_) (fun c1 => ?_) | refine bcase1 (fun c1 => ?_) (fun c1 => ?_)
    · ((conv => whnf); (repeat ((first | refine ⟨(by show (0 : Int) < _; first | decide | omega), ?_⟩ | refine ⟨cmul_r (by decide) (by decide), ?_⟩ | refine ⟨cmul_l (by decide) (by decide), ?_⟩ | refine ⟨cmul_l (by omega) (by omega), ?_⟩ | refine ⟨cdiv_v (by omega) (by omega), ?_⟩ | refine ⟨cdiv_c (by decide) (by decide), ?_⟩ | refine ⟨(by decide), ?_⟩ | refine ⟨Nat.le_of_ble_eq_true rfl, ?_⟩ | refine ⟨⟨by decide, by decide, by decide⟩, ?_⟩); (conv => whnf))))
      first | refine bcase (fun c2 => ?_) (fun c2 => ?_) | refine bcase0 (fun c2 => ?_) (fun c2 => ?_) | refine bcase1 (fun c2 => ?_) (fun c2 => ?_)
      · rw [show atM gs a = some g from find_first hg (by unfold hasB; rw [decide_eq_true c1, decide_eq_true c2]; rfl) hn] at k
        exact k
      · exact ⟨_, _, _, _, rfl, rfl, nxt (by unfold hasB; rw [decide_eq_false c2, Bool.and_false])⟩
    · exact ⟨_, _, _, _, rfl, rfl, nxt (by unfold hasB; rw [decide_eq_false c1, Bool.false_and])⟩
  · rintro ρ S' ⟨u, v, w, x, rfl, rfl, hn⟩
    rw [show atM gs a = none from List.find?_eq_none.mpr fun g hg => by
      obtain ⟨j, hj⟩ := List.mem_iff_getElem?.mp hg
      have hl := (List.getElem?_eq_some_iff.mp hj).1
      rw [hn j g (by rw [List.length_map]; exact hl) hj]
      exact Bool.false_ne_true] at k
    exact k
theorem p_flow_at {gs : List Rg} {a : Int} {S : Sto} {q : DK} (k : q (.str (flowM (atM gs a))) S) : wp_law_flow_at [dLay gs, .int a] S q := by
  rw [eq_law_flow_at]
  ((conv => whnf); (repeat ((first | refine ⟨(by show (0 : Int) < _; first | decide | omega), ?_⟩ | refine ⟨cmul_r (by decide) (by decide), ?_⟩ | refine ⟨cmul_l (by decide) (by decide), ?_⟩ | refine ⟨cmul_l (by omega) (by omega), ?_⟩ | refine ⟨cdiv_v (by omega) (by omega), ?_⟩ | refine ⟨cdiv_c (by decide) (by decide), ?_⟩ | refine ⟨(by decide), ?_⟩ | refine ⟨Nat.le_of_ble_eq_true rfl, ?_⟩ | refine ⟨⟨by decide, by decide, by decide⟩, ?_⟩); (conv => whnf))))
  refine ⟨fun i ρ S' => ∃ u v w x, ρ = [some (dLay gs), some (.int a), u, v, w, x] ∧ S' = S ∧ ∀ (j : Nat) g, j < i → gs[j]? = some g → hasB a g = false, ⟨none, none, none, none, rfl, rfl, fun j g h => absurd h (Nat.not_lt_zero _)⟩, fun _ _ _ _ _ => trivial, ?_, ?_⟩
  · rintro i x ρ S' hx ⟨u, v, w, x, rfl, rfl, hn⟩
    rw [List.getElem?_map] at hx
    obtain ⟨g, hg, rfl⟩ := Option.map_eq_some_iff.mp hx
    have nxt : hasB a g = false → ∀ (j : Nat) g, j < i + 1 → gs[j]? = some g → hasB a g = false := fun h j g' hj hg' => by
      by_cases z : j = i
      · subst z
        rw [hg] at hg'
        cases hg'
        exact h
      · exact hn j g' (by omega) hg'
    ((conv => whnf); (repeat ((first | refine ⟨(by show (0 : Int) < _; first | decide | omega), ?_⟩ | refine ⟨cmul_r (by decide) (by decide), ?_⟩ | refine ⟨cmul_l (by decide) (by decide), ?_⟩ | refine ⟨cmul_l (by omega) (by omega), ?_⟩ | refine ⟨cdiv_v (by omega) (by omega), ?_⟩ | refine ⟨cdiv_c (by decide) (by decide), ?_⟩ | refine ⟨(by decide), ?_⟩ | refine ⟨Nat.le_of_ble_eq_true rfl, ?_⟩ | refine ⟨⟨by decide, by decide, by decide⟩, ?_⟩); (conv => whnf))))
    first | refine bcase (fun c1 => ?_) (fun c1 => ?_) | refine bcase0 (fun c1 => ?_) (fun c1 => ?_) | refine bcase1 (fun c1 => ?_) (fun c1 => ?_)
    · ((conv => whnf); (repeat ((first | refine ⟨(by show (0 : Int) < _; first | decide | omega), ?_⟩ | refine ⟨cmul_r (by decide) (by decide), ?_⟩ | refine ⟨cmul_l (by decide) (by decide), ?_⟩ | refine ⟨cmul_l (by omega) (by omega), ?_⟩ | refine ⟨cdiv_v (by omega) (by omega), ?_⟩ | refine ⟨cdiv_c (by decide) (by decide), ?_⟩ | refine ⟨(by decide), ?_⟩ | refine ⟨Nat.le_of_ble_eq_true rfl, ?_⟩ | refine ⟨⟨by decide, by decide, by decide⟩, ?_⟩); (conv => whnf))))
      first | refine bcase (fun c2 => ?_) (fun c2 => ?_) | refine bcase0 (fun c2 => ?_) (fun c2 => ?_) | refine bcase1 (fun c2 => ?_) (fun c2 => ?_)
      · rw [show atM gs a = some g from find_first hg (by unfold hasB; rw [decide_eq_true c1, decide_eq_true c2]; rfl) hn] at k
        exact k
      · exact ⟨_, _, _, _, rfl, rfl, nxt (by unfold hasB; rw [decide_eq_false c2, Bool.and_false])⟩
    · exact ⟨_, _, _, _, rfl, rfl, nxt (by unfold hasB; rw [decide_eq_false c1, Bool.false_and])⟩
  · rintro ρ S' ⟨u, v, w, x, rfl, rfl, hn⟩
    rw [show atM gs a = none from List.find?_eq_none.mpr fun g hg => by
      obtain ⟨j, hj⟩ := List.mem_iff_getElem?.mp hg
      have hl := (List.getElem?_eq_some_iff.mp hj).1
      rw [hn j g (by rw [List.length_map]; exact hl) hj]
      exact Bool.false_ne_true] at k
    exact k
theorem atM_some {gs : List Rg} {a : Int} {g : Rg} (h : atM gs a = some g) : g ∈ gs ∧ g.has a := by
  have h1 := List.find?_some h
  refine ⟨List.mem_of_find?_eq_some h, ?_⟩
  unfold hasB at h1
  simpa [Rg.has] using h1
theorem atM_of {gs : List Rg} (ok : LayOk gs) {a : Int} {g : Rg} (hm : g ∈ gs) (h : g.has a) : atM gs a = some g := by
  cases e : atM gs a with
  | none =>
    have := List.find?_eq_none.mp e g hm
    unfold hasB at this
    obtain ⟨h1, h2⟩ := h
    rw [decide_eq_true h1, decide_eq_true h2] at this
    exact absurd rfl this
  | some g' =>
    obtain ⟨m', h'⟩ := atM_some e
    obtain ⟨i, hi⟩ := List.mem_iff_getElem?.mp m'
    obtain ⟨j, hj⟩ := List.mem_iff_getElem?.mp hm
    have := has_uni ok hi hj h' h
    subst this
    rw [hi] at hj
    cases hj
    rfl
/-- two memories of a layout, equal where it is public -/
structure MemOk (gs : List Rg) (n : Nat) (L R : List Int) : Prop where
  len0 : L.length = n
  len1 : R.length = n
  word : ∀ (a : Nat) x y, L[a]? = some x → R[a]? = some y → 0 ≤ x ∧ 0 ≤ y ∧ x ≤ 65535 ∧ y ≤ 65535 ∧ ∀ g, atM gs a = some g → x ≤ g.most ∧ y ≤ g.most ∧ (g.sec = false → x = y)
theorem MemOk.add {gs : List Rg} {n : Nat} {L R : List Int} {x y : Int} (h : MemOk gs n L R) (w : 0 ≤ x ∧ 0 ≤ y ∧ x ≤ 65535 ∧ y ≤ 65535 ∧ ∀ g, atM gs n = some g → x ≤ g.most ∧ y ≤ g.most ∧ (g.sec = false → x = y)) : MemOk gs (n + 1) (L ++ [x]) (R ++ [y]) := by
  obtain ⟨l0, l1, hw⟩ := h
  refine ⟨by rw [List.length_append, l0]; rfl, by rw [List.length_append, l1]; rfl, fun a u v h1 h2 => ?_⟩
  by_cases z : a < n
  · rw [List.getElem?_append_left (by omega)] at h1 h2
    exact hw a u v h1 h2
  · have ha := (List.getElem?_eq_some_iff.mp h1).1
    rw [List.length_append, l0] at ha
    have ha : a < n + 1 := ha
    have : a = n := by omega
    subst this
    rw [List.getElem?_append_right (by omega), l0, Nat.sub_self] at h1
    rw [List.getElem?_append_right (by omega), l1, Nat.sub_self] at h2
    cases h1
    cases h2
    exact w
theorem p_memories {g h : Rg} {S : Sto} {p : Nat} {q : DK} (ok : LayOk [g, h]) (e0 : 0 < endM h) (e1 : endM h ≤ 20) (hS : Src S p) (k : ∀ L R n l r S', MemOk [g, h] (endM h).toNat L R → S.length ≤ l → S.length ≤ r → S.length ≤ n → l ≠ r → S'[n]? = some (.lst [.ref l, .ref r]) → S'[l]? = some (.lst (L.map D.int)) → S'[r]? = some (.lst (R.map D.int)) → Src S' p → Kp (· = p) S S' → q (.ref n) S') :
    wp_law_memories [.ref p, dLay [g, h]] S q := by
  have hp := hS.lt
  rw [eq_law_memories]
  ((conv => whnf); (repeat ((first | refine ⟨(by show (0 : Int) < _; first | decide | omega), ?_⟩ | refine ⟨cmul_r (by decide) (by decide), ?_⟩ | refine ⟨cmul_l (by decide) (by decide), ?_⟩ | refine ⟨cmul_l (by omega) (by omega), ?_⟩ | refine ⟨cdiv_v (by omega) (by omega), ?_⟩ | refine ⟨cdiv_c (by decide) (by decide), ?_⟩ | refine ⟨(by decide), ?_⟩ | refine ⟨Nat.le_of_ble_eq_true rfl, ?_⟩ | refine ⟨⟨by decide, by decide, by decide⟩, ?_⟩); (conv => whnf))))
  refine ⟨⟨by unfold endM at e0; omega, by unfold endM at e1; omega⟩, ?_⟩
  refine ⟨fun i ρ S' => ∃ (L R : List Int) (v5 v6 v7 v8 : Option D), ρ = [some (.ref p), some (dLay [g, h]), some (.int (endM h)), some (.ref S.length), some (.ref (S ++ [Ob.lst []]).length), v5, v6, v7, v8] ∧ S'[S.length]? = some (.lst (L.map D.int)) ∧ S'[(S ++ [Ob.lst []]).length]? = some (.lst (R.map D.int)) ∧ MemOk [g, h] i L R ∧ Src S' p ∧ Kp (· = p) S S', ?_, fun _ _ _ _ _ => trivial, ?_, ?_⟩
  · exact ⟨[], [], none, none, none, none, rfl, get_old _ _ _, get_new _ _, ⟨rfl, rfl, fun a x y h => by cases h⟩, hS.keep (X := fun _ => False) (Kp.app.trans .app) id, Kp.app.trans .app⟩
  · rintro i x ρ S0 hx ⟨L, R, v5, v6, v7, v8, rfl, eL, eR, hm, hS0, k0⟩
    have hi : i < (endM h).toNat := by
      have := (List.getElem?_eq_some_iff.mp hx).1
      rw [rngD_len] at this
      exact this
    have hx : (rngD 0 (endM h).toNat)[i]? = some x := hx
    rw [rngD_at hi, Int.zero_add] at hx
    cases hx
    ((conv => whnf); (repeat ((first | refine ⟨(by show (0 : Int) < _; first | decide | omega), ?_⟩ | refine ⟨cmul_r (by decide) (by decide), ?_⟩ | refine ⟨cmul_l (by decide) (by decide), ?_⟩ | refine ⟨cmul_l (by omega) (by omega), ?_⟩ | refine ⟨cdiv_v (by omega) (by omega), ?_⟩ | refine ⟨cdiv_c (by decide) (by decide), ?_⟩ | refine ⟨(by decide), ?_⟩ | refine ⟨Nat.le_of_ble_eq_true rfl, ?_⟩ | refine ⟨⟨by decide, by decide, by decide⟩, ?_⟩); (conv => whnf))))
    refine p_most ?_
    ((conv => whnf); (repeat ((first | refine ⟨(by show (0 : Int) < _; first | decide | omega), ?_⟩ | refine ⟨cmul_r (by decide) (by decide), ?_⟩ | refine ⟨cmul_l (by decide) (by decide), ?_⟩ | refine ⟨cmul_l (by omega) (by omega), ?_⟩ | refine ⟨cdiv_v (by omega) (by omega), ?_⟩ | refine ⟨cdiv_c (by decide) (by decide), ?_⟩ | refine ⟨(by decide), ?_⟩ | refine ⟨Nat.le_of_ble_eq_true rfl, ?_⟩ | refine ⟨⟨by decide, by decide, by decide⟩, ?_⟩); (conv => whnf))))
    rw [max_eq]
    have hmost : ∀ g', atM [g, h] i = some g' → 0 ≤ g'.most ∧ g'.most ≤ 65535 := fun g' e => ok.most g' (atM_some e).1
    have hM : 0 ≤ max 0 (mostM (atM [g, h] i)) ∧ max 0 (mostM (atM [g, h] i)) ≤ 65535 ∧ ∀ g', atM [g, h] i = some g' → max 0 (mostM (atM [g, h] i)) = g'.most := by
      cases e : atM [g, h] i with
      | none => exact ⟨by show 0 ≤ max 0 (-1 : Int); omega, by show max 0 (-1 : Int) ≤ _; omega, fun g' z => by cases z⟩
      | some g' =>
        have := hmost g' e
        exact ⟨by show 0 ≤ max 0 g'.most; omega, by show max 0 g'.most ≤ _; omega, fun g2 z => by cases z; show max 0 g'.most = g'.most; omega⟩
    generalize max 0 (mostM (atM [g, h] i)) = m at hM
    obtain ⟨m0, m1, m2⟩ := hM
    ((conv => whnf); (repeat ((first | refine ⟨(by show (0 : Int) < _; first | decide | omega), ?_⟩ | refine ⟨cmul_r (by decide) (by decide), ?_⟩ | refine ⟨cmul_l (by decide) (by decide), ?_⟩ | refine ⟨cmul_l (by omega) (by omega), ?_⟩ | refine ⟨cdiv_v (by omega) (by omega), ?_⟩ | refine ⟨cdiv_c (by decide) (by decide), ?_⟩ | refine ⟨(by decide), ?_⟩ | refine ⟨Nat.le_of_ble_eq_true rfl, ?_⟩ | refine ⟨⟨by decide, by decide, by decide⟩, ?_⟩); (conv => whnf))))
    refine p_draw hS0 (by omega) (by omega) fun v1 S1 a1 b1 hS1 kk1 => ?_
    have k1 := k0.trans kk1
    ((conv => whnf); (repeat ((first | refine ⟨(by show (0 : Int) < _; first | decide | omega), ?_⟩ | refine ⟨cmul_r (by decide) (by decide), ?_⟩ | refine ⟨cmul_l (by decide) (by decide), ?_⟩ | refine ⟨cmul_l (by omega) (by omega), ?_⟩ | refine ⟨cdiv_v (by omega) (by omega), ?_⟩ | refine ⟨cdiv_c (by decide) (by decide), ?_⟩ | refine ⟨(by decide), ?_⟩ | refine ⟨Nat.le_of_ble_eq_true rfl, ?_⟩ | refine ⟨⟨by decide, by decide, by decide⟩, ?_⟩); (conv => whnf))))
    refine p_draw hS1 (by decide) (by decide) fun v2 S2 a2 b2 hS2 kk2 => ?_
    have k2 := k1.trans kk2
    ((conv => whnf); (repeat ((first | refine ⟨(by show (0 : Int) < _; first | decide | omega), ?_⟩ | refine ⟨cmul_r (by decide) (by decide), ?_⟩ | refine ⟨cmul_l (by decide) (by decide), ?_⟩ | refine ⟨cmul_l (by omega) (by omega), ?_⟩ | refine ⟨cdiv_v (by omega) (by omega), ?_⟩ | refine ⟨cdiv_c (by decide) (by decide), ?_⟩ | refine ⟨(by decide), ?_⟩ | refine ⟨Nat.le_of_ble_eq_true rfl, ?_⟩ | refine ⟨⟨by decide, by decide, by decide⟩, ?_⟩); (conv => whnf))))
    refine ix_int 0 m ?_ a2 b2 fun w w0 w1 => ?_
    · intro d hd
      simp only [List.mem_cons, List.not_mem_nil, or_false] at hd
      rcases hd with rfl | rfl | rfl <;> exact ⟨_, rfl, by omega, by omega⟩
    ((conv => whnf); (repeat ((first | refine ⟨(by show (0 : Int) < _; first | decide | omega), ?_⟩ | refine ⟨cmul_r (by decide) (by decide), ?_⟩ | refine ⟨cmul_l (by decide) (by decide), ?_⟩ | refine ⟨cmul_l (by omega) (by omega), ?_⟩ | refine ⟨cdiv_v (by omega) (by omega), ?_⟩ | refine ⟨cdiv_c (by decide) (by decide), ?_⟩ | refine ⟨(by decide), ?_⟩ | refine ⟨Nat.le_of_ble_eq_true rfl, ?_⟩ | refine ⟨⟨by decide, by decide, by decide⟩, ?_⟩); (conv => whnf))))
    refine p_draw hS2 (by omega) (by omega) fun v3 S3 a3 b3 hS3 kk3 => ?_
    have k3 := k2.trans kk3
    ((conv => whnf); (repeat ((first | refine ⟨(by show (0 : Int) < _; first | decide | omega), ?_⟩ | refine ⟨cmul_r (by decide) (by decide), ?_⟩ | refine ⟨cmul_l (by decide) (by decide), ?_⟩ | refine ⟨cmul_l (by omega) (by omega), ?_⟩ | refine ⟨cdiv_v (by omega) (by omega), ?_⟩ | refine ⟨cdiv_c (by decide) (by decide), ?_⟩ | refine ⟨(by decide), ?_⟩ | refine ⟨Nat.le_of_ble_eq_true rfl, ?_⟩ | refine ⟨⟨by decide, by decide, by decide⟩, ?_⟩); (conv => whnf))))
    refine p_draw hS3 (by decide) (by decide) fun v4 S4 a4 b4 hS4 kk4 => ?_
    have k4 := k3.trans kk4
    ((conv => whnf); (repeat ((first | refine ⟨(by show (0 : Int) < _; first | decide | omega), ?_⟩ | refine ⟨cmul_r (by decide) (by decide), ?_⟩ | refine ⟨cmul_l (by decide) (by decide), ?_⟩ | refine ⟨cmul_l (by omega) (by omega), ?_⟩ | refine ⟨cdiv_v (by omega) (by omega), ?_⟩ | refine ⟨cdiv_c (by decide) (by decide), ?_⟩ | refine ⟨(by decide), ?_⟩ | refine ⟨Nat.le_of_ble_eq_true rfl, ?_⟩ | refine ⟨⟨by decide, by decide, by decide⟩, ?_⟩); (conv => whnf))))
    refine ix_int 0 m ?_ a4 b4 fun o o0 o1 => ?_
    · intro d hd
      simp only [List.mem_cons, List.not_mem_nil, or_false] at hd
      rcases hd with rfl | rfl <;> exact ⟨_, rfl, by omega, by omega⟩
    have nl : ¬ S.length = p := by omega
    have nr : ¬ (S ++ [Ob.lst []]).length = p := by rw [List.length_append]; omega
    have ll : (S ++ [Ob.lst []]).length = S.length + 1 := by rw [List.length_append]; rfl
    have fL := kk4.get nl (kk3.get nl (kk2.get nl (kk1.get nl eL)))
    have fR := kk4.get nr (kk3.get nr (kk2.get nr (kk1.get nr eR)))
    have step : ∀ o', 0 ≤ o' → o' ≤ m → (∀ g', atM [g, h] i = some g' → g'.sec = false → w = o') → ∀ (d : XD) (s5 s6 : Option D), d.nx = (fun ρ S' => ∃ (L R : List Int) (v5 v6 v7 v8 : Option D), ρ = [some (.ref p), some (dLay [g, h]), some (.int (endM h)), some (.ref S.length), some (.ref (S ++ [Ob.lst []]).length), v5, v6, v7, v8] ∧ S'[S.length]? = some (.lst (L.map D.int)) ∧ S'[(S ++ [Ob.lst []]).length]? = some (.lst (R.map D.int)) ∧ MemOk [g, h] (i + 1) L R ∧ Src S' p ∧ Kp (· = p) S S') →
        c_law_memories_1 d [some (.ref p), some (dLay [g, h]), some (.int (endM h)), some (.ref S.length), some (.ref (S ++ [Ob.lst []]).length), s5, s6, some (.int w), some (.int o')] S4 := by
      intro o' o0 o1 hpub d s5 s6 hd
      rw [eqc_law_memories_1]
      ((conv => whnf); (repeat ((first | refine ⟨(by show (0 : Int) < _; first | decide | omega), ?_⟩ | refine ⟨cmul_r (by decide) (by decide), ?_⟩ | refine ⟨cmul_l (by decide) (by decide), ?_⟩ | refine ⟨cmul_l (by omega) (by omega), ?_⟩ | refine ⟨cdiv_v (by omega) (by omega), ?_⟩ | refine ⟨cdiv_c (by decide) (by decide), ?_⟩ | refine ⟨(by decide), ?_⟩ | refine ⟨Nat.le_of_ble_eq_true rfl, ?_⟩ | refine ⟨⟨by decide, by decide, by decide⟩, ?_⟩); (conv => whnf))))
      rw [look_of fL]
      ((conv => whnf); (repeat ((first | refine ⟨(by show (0 : Int) < _; first | decide | omega), ?_⟩ | refine ⟨cmul_r (by decide) (by decide), ?_⟩ | refine ⟨cmul_l (by decide) (by decide), ?_⟩ | refine ⟨cmul_l (by omega) (by omega), ?_⟩ | refine ⟨cdiv_v (by omega) (by omega), ?_⟩ | refine ⟨cdiv_c (by decide) (by decide), ?_⟩ | refine ⟨(by decide), ?_⟩ | refine ⟨Nat.le_of_ble_eq_true rfl, ?_⟩ | refine ⟨⟨by decide, by decide, by decide⟩, ?_⟩); (conv => whnf))))
      rw [look_of fL]
      conv => whnf
      refine ⟨by rw [List.length_map, hm.len0]; omega, ?_⟩
      generalize h5 : S4.set S.length _ = S5
      have f5 : S5[S.length]? = some _ := (congrArg (fun s : Sto => s[S.length]?) h5.symm).trans (get_set fL)
      have k5 : ∀ Z : Nat → Prop, Z S.length → Kp Z S4 S5 := fun Z z => by rw [← h5]; exact .set z
      have g5 := (k5 (· = S.length) rfl).get (show ¬ (S ++ [Ob.lst []]).length = S.length by omega) fR
      ((conv => whnf); (repeat ((first | refine ⟨(by show (0 : Int) < _; first | decide | omega), ?_⟩ | refine ⟨cmul_r (by decide) (by decide), ?_⟩ | refine ⟨cmul_l (by decide) (by decide), ?_⟩ | refine ⟨cmul_l (by omega) (by omega), ?_⟩ | refine ⟨cdiv_v (by omega) (by omega), ?_⟩ | refine ⟨cdiv_c (by decide) (by decide), ?_⟩ | refine ⟨(by decide), ?_⟩ | refine ⟨Nat.le_of_ble_eq_true rfl, ?_⟩ | refine ⟨⟨by decide, by decide, by decide⟩, ?_⟩); (conv => whnf))))
      rw [look_of g5]
      ((conv => whnf); (repeat ((first | refine ⟨(by show (0 : Int) < _; first | decide | omega), ?_⟩ | refine ⟨cmul_r (by decide) (by decide), ?_⟩ | refine ⟨cmul_l (by decide) (by decide), ?_⟩ | refine ⟨cmul_l (by omega) (by omega), ?_⟩ | refine ⟨cdiv_v (by omega) (by omega), ?_⟩ | refine ⟨cdiv_c (by decide) (by decide), ?_⟩ | refine ⟨(by decide), ?_⟩ | refine ⟨Nat.le_of_ble_eq_true rfl, ?_⟩ | refine ⟨⟨by decide, by decide, by decide⟩, ?_⟩); (conv => whnf))))
      rw [look_of g5]
      conv => whnf
      refine ⟨by rw [List.length_map, hm.len1]; omega, ?_⟩
      generalize h6 : S5.set (S ++ [Ob.lst []]).length _ = S6
      have g6 : S6[(S ++ [Ob.lst []]).length]? = some _ := (congrArg (fun s : Sto => s[(S ++ [Ob.lst []]).length]?) h6.symm).trans (get_set g5)
      have k6 : ∀ Z : Nat → Prop, Z (S ++ [Ob.lst []]).length → Kp Z S5 S6 := fun Z z => by rw [← h6]; exact .set z
      have f6 := (k6 (· = (S ++ [Ob.lst []]).length) rfl).get (show ¬ S.length = (S ++ [Ob.lst []]).length by omega) f5
      show d.nx _ S6
      rw [hd]
      refine ⟨L ++ [w], R ++ [o'], _, _, _, _, rfl, ?_, ?_, hm.add ⟨w0, o0, by omega, by omega, fun g' e => ?_⟩, ?_, ?_⟩
      · rw [f6, List.map_append]
        rfl
      · rw [g6, List.map_append]
        rfl
      · have := m2 g' e
        exact ⟨by omega, by omega, fun z => hpub g' e z⟩
      · exact (hS4.keep (k5 (· = S.length) rfl) (by omega)).keep (k6 (· = (S ++ [Ob.lst []]).length) rfl) (by omega)
      · rw [← h6, ← h5]
        exact (k4.put (Nat.le_refl _)).put (by omega)
    ((conv => whnf); (repeat ((first | refine ⟨(by show (0 : Int) < _; first | decide | omega), ?_⟩ | refine ⟨cmul_r (by decide) (by decide), ?_⟩ | refine ⟨cmul_l (by decide) (by decide), ?_⟩ | refine ⟨cmul_l (by omega) (by omega), ?_⟩ | refine ⟨cdiv_v (by omega) (by omega), ?_⟩ | refine ⟨cdiv_c (by decide) (by decide), ?_⟩ | refine ⟨(by decide), ?_⟩ | refine ⟨Nat.le_of_ble_eq_true rfl, ?_⟩ | refine ⟨⟨by decide, by decide, by decide⟩, ?_⟩); (conv => whnf))))
    refine p_flow_at ?_
    ((conv => whnf); (repeat ((first | refine ⟨(by show (0 : Int) < _; first | decide | omega), ?_⟩ | refine ⟨cmul_r (by decide) (by decide), ?_⟩ | refine ⟨cmul_l (by decide) (by decide), ?_⟩ | refine ⟨cmul_l (by omega) (by omega), ?_⟩ | refine ⟨cdiv_v (by omega) (by omega), ?_⟩ | refine ⟨cdiv_c (by decide) (by decide), ?_⟩ | refine ⟨(by decide), ?_⟩ | refine ⟨Nat.le_of_ble_eq_true rfl, ?_⟩ | refine ⟨⟨by decide, by decide, by decide⟩, ?_⟩); (conv => whnf))))
    cases e : atM [g, h] i with
    | none =>
      ((conv => whnf); (repeat ((first | refine ⟨(by show (0 : Int) < _; first | decide | omega), ?_⟩ | refine ⟨cmul_r (by decide) (by decide), ?_⟩ | refine ⟨cmul_l (by decide) (by decide), ?_⟩ | refine ⟨cmul_l (by omega) (by omega), ?_⟩ | refine ⟨cdiv_v (by omega) (by omega), ?_⟩ | refine ⟨cdiv_c (by decide) (by decide), ?_⟩ | refine ⟨(by decide), ?_⟩ | refine ⟨Nat.le_of_ble_eq_true rfl, ?_⟩ | refine ⟨⟨by decide, by decide, by decide⟩, ?_⟩); (conv => whnf))))
      exact step o o0 o1 (fun g' z => by rw [e] at z; cases z) _ _ _ rfl
    | some g' =>
      cases hs : g'.sec
      · rw [show flowM (some g') = "public" by show fl g'.sec = _; rw [hs]; rfl]
        ((conv => whnf); (repeat ((first | refine ⟨(by show (0 : Int) < _; first | decide | omega), ?_⟩ | refine ⟨cmul_r (by decide) (by decide), ?_⟩ | refine ⟨cmul_l (by decide) (by decide), ?_⟩ | refine ⟨cmul_l (by omega) (by omega), ?_⟩ | refine ⟨cdiv_v (by omega) (by omega), ?_⟩ | refine ⟨cdiv_c (by decide) (by decide), ?_⟩ | refine ⟨(by decide), ?_⟩ | refine ⟨Nat.le_of_ble_eq_true rfl, ?_⟩ | refine ⟨⟨by decide, by decide, by decide⟩, ?_⟩); (conv => whnf))))
        exact step w w0 w1 (fun _ _ _ => rfl) _ _ _ rfl
      · rw [show flowM (some g') = "secret" by show fl g'.sec = _; rw [hs]; rfl]
        ((conv => whnf); (repeat ((first | refine ⟨(by show (0 : Int) < _; first | decide | omega), ?_⟩ | refine ⟨cmul_r (by decide) (by decide), ?_⟩ | refine ⟨cmul_l (by decide) (by decide), ?_⟩ | refine ⟨cmul_l (by omega) (by omega), ?_⟩ | refine ⟨cdiv_v (by omega) (by omega), ?_⟩ | refine ⟨cdiv_c (by decide) (by decide), ?_⟩ | refine ⟨(by decide), ?_⟩ | refine ⟨Nat.le_of_ble_eq_true rfl, ?_⟩ | refine ⟨⟨by decide, by decide, by decide⟩, ?_⟩); (conv => whnf))))
        exact step o o0 o1 (fun g2 z y => by rw [e] at z; cases z; rw [hs] at y; cases y) _ _ _ rfl
  · rintro ρ S0 ⟨L, R, v5, v6, v7, v8, rfl, eL, eR, hm, hS0, k0⟩
    rw [rngD_len] at hm
    ((conv => whnf); (repeat ((first | refine ⟨(by show (0 : Int) < _; first | decide | omega), ?_⟩ | refine ⟨cmul_r (by decide) (by decide), ?_⟩ | refine ⟨cmul_l (by decide) (by decide), ?_⟩ | refine ⟨cmul_l (by omega) (by omega), ?_⟩ | refine ⟨cdiv_v (by omega) (by omega), ?_⟩ | refine ⟨cdiv_c (by decide) (by decide), ?_⟩ | refine ⟨(by decide), ?_⟩ | refine ⟨Nat.le_of_ble_eq_true rfl, ?_⟩ | refine ⟨⟨by decide, by decide, by decide⟩, ?_⟩); (conv => whnf))))
    have ll : (S ++ [Ob.lst []]).length = S.length + 1 := by rw [List.length_append]; rfl
    exact k L R _ _ _ _ hm (Nat.le_refl _) (by omega) k0.len (by omega) (get_new _ _) (Kn.get .app eL) (Kn.get .app eR) (hS0.keep (X := fun _ => False) .app id) k0.add
end K68

set_option Elab.async false
set_option linter.all false
set_option maxRecDepth 100000
set_option maxHeartbeats 4000000
namespace K68
open PySem PySem.Spec PyProof.Rows L2 DT
/-- what a fact says of a word -/
def TrueF (f : Fa) (w : Int) (M : List Int) : Prop := f.lo ≤ w ∧ w ≤ f.hi ∧ (f.cell = -1 ∨ 0 ≤ f.cell ∧ ∃ m, M[f.cell.toNat]? = some m ∧ w = m + f.plus)
theorem ints_at {M : List Int} {i : Int} {m : Int} (h0 : 0 ≤ i) (h : M[i.toNat]? = some m) : atI (M.map D.int) i = some (.int m) := atI_pos h0 (by rw [List.getElem?_map, h]; rfl)
theorem p_true {f : Fa} {w : Int} {M : List Int} {n : Nat} {S : Sto} {q : DK} (e : S[n]? = some (.lst (M.map D.int))) (h : TrueF f w M) (k : q (.bl true) S) : wp_law_true [dFa f, .int w, .ref n] S q := by
  obtain ⟨h1, h2, h3⟩ := h
  rw [eq_law_true]
  ((conv => whnf); (repeat ((first | refine ⟨(by show (0 : Int) < _; first | decide | omega), ?_⟩ | refine ⟨cmul_r (by decide) (by decide), ?_⟩ | refine ⟨cmul_l (by decide) (by decide), ?_⟩ | refine ⟨cmul_l (by omega) (by omega), ?_⟩ | refine ⟨cdiv_v (by omega) (by omega), ?_⟩ | refine ⟨cdiv_c (by decide) (by decide), ?_⟩ | refine ⟨(by decide), ?_⟩ | refine ⟨Nat.le_of_ble_eq_true rfl, ?_⟩ | refine ⟨⟨by decide, by decide, by decide⟩, ?_⟩); (conv => whnf))))
  refine btrue (decide_eq_true h1) ?_
  ((conv => whnf); (repeat ((first | refine ⟨(by show (0 : Int) < _; first | decide | omega), ?_⟩ | refine ⟨cmul_r (by decide) (by decide), ?_⟩ | refine ⟨cmul_l (by decide) (by decide), ?_⟩ | refine ⟨cmul_l (by omega) (by omega), ?_⟩ | refine ⟨cdiv_v (by omega) (by omega), ?_⟩ | refine ⟨cdiv_c (by decide) (by decide), ?_⟩ | refine ⟨(by decide), ?_⟩ | refine ⟨Nat.le_of_ble_eq_true rfl, ?_⟩ | refine ⟨⟨by decide, by decide, by decide⟩, ?_⟩); (conv => whnf))))
  rw [decide_eq_true h2]
  ((conv => whnf); (repeat ((first | refine ⟨(by show (0 : Int) < _; first | decide | omega), ?_⟩ | refine ⟨cmul_r (by decide) (by decide), ?_⟩ | refine ⟨cmul_l (by decide) (by decide), ?_⟩ | refine ⟨cmul_l (by omega) (by omega), ?_⟩ | refine ⟨cdiv_v (by omega) (by omega), ?_⟩ | refine ⟨cdiv_c (by decide) (by decide), ?_⟩ | refine ⟨(by decide), ?_⟩ | refine ⟨Nat.le_of_ble_eq_true rfl, ?_⟩ | refine ⟨⟨by decide, by decide, by decide⟩, ?_⟩); (conv => whnf))))
  rcases h3 with h3 | ⟨h3, m, hm, rfl⟩
  · rw [decide_eq_true h3]
    exact k
  · rw [decide_eq_false (show ¬ f.cell = -1 by omega)]
    ((conv => whnf); (repeat ((first | refine ⟨(by show (0 : Int) < _; first | decide | omega), ?_⟩ | refine ⟨cmul_r (by decide) (by decide), ?_⟩ | refine ⟨cmul_l (by decide) (by decide), ?_⟩ | refine ⟨cmul_l (by omega) (by omega), ?_⟩ | refine ⟨cdiv_v (by omega) (by omega), ?_⟩ | refine ⟨cdiv_c (by decide) (by decide), ?_⟩ | refine ⟨(by decide), ?_⟩ | refine ⟨Nat.le_of_ble_eq_true rfl, ?_⟩ | refine ⟨⟨by decide, by decide, by decide⟩, ?_⟩); (conv => whnf))))
    rw [seqD_ref e]
    have hl := (List.getElem?_eq_some_iff.mp hm).1
    ((conv => whnf); (repeat ((first | refine ⟨(by show (0 : Int) < _; first | decide | omega), ?_⟩ | refine ⟨cmul_r (by decide) (by decide), ?_⟩ | refine ⟨cmul_l (by decide) (by decide), ?_⟩ | refine ⟨cmul_l (by omega) (by omega), ?_⟩ | refine ⟨cdiv_v (by omega) (by omega), ?_⟩ | refine ⟨cdiv_c (by decide) (by decide), ?_⟩ | refine ⟨(by decide), ?_⟩ | refine ⟨Nat.le_of_ble_eq_true rfl, ?_⟩ | refine ⟨⟨by decide, by decide, by decide⟩, ?_⟩); (conv => whnf))))
    rw [decide_eq_true (show f.cell < ((M.map D.int).length : Int) by rw [List.length_map]; omega)]
    ((conv => whnf); (repeat ((first | refine ⟨(by show (0 : Int) < _; first | decide | omega), ?_⟩ | refine ⟨cmul_r (by decide) (by decide), ?_⟩ | refine ⟨cmul_l (by decide) (by decide), ?_⟩ | refine ⟨cmul_l (by omega) (by omega), ?_⟩ | refine ⟨cdiv_v (by omega) (by omega), ?_⟩ | refine ⟨cdiv_c (by decide) (by decide), ?_⟩ | refine ⟨(by decide), ?_⟩ | refine ⟨Nat.le_of_ble_eq_true rfl, ?_⟩ | refine ⟨⟨by decide, by decide, by decide⟩, ?_⟩); (conv => whnf))))
    rw [seqD_ref e]
    ((conv => whnf); (repeat ((first | refine ⟨(by show (0 : Int) < _; first | decide | omega), ?_⟩ | refine ⟨cmul_r (by decide) (by decide), ?_⟩ | refine ⟨cmul_l (by decide) (by decide), ?_⟩ | refine ⟨cmul_l (by omega) (by omega), ?_⟩ | refine ⟨cdiv_v (by omega) (by omega), ?_⟩ | refine ⟨cdiv_c (by decide) (by decide), ?_⟩ | refine ⟨(by decide), ?_⟩ | refine ⟨Nat.le_of_ble_eq_true rfl, ?_⟩ | refine ⟨⟨by decide, by decide, by decide⟩, ?_⟩); (conv => whnf))))
    rw [ints_at h3 hm]
    ((conv => whnf); (repeat ((first | refine ⟨(by show (0 : Int) < _; first | decide | omega), ?_⟩ | refine ⟨cmul_r (by decide) (by decide), ?_⟩ | refine ⟨cmul_l (by decide) (by decide), ?_⟩ | refine ⟨cmul_l (by omega) (by omega), ?_⟩ | refine ⟨cdiv_v (by omega) (by omega), ?_⟩ | refine ⟨cdiv_c (by decide) (by decide), ?_⟩ | refine ⟨(by decide), ?_⟩ | refine ⟨Nat.le_of_ble_eq_true rfl, ?_⟩ | refine ⟨⟨by decide, by decide, by decide⟩, ?_⟩); (conv => whnf))))
    rw [decide_eq_true (show m + f.plus = m + f.plus from rfl)]
    exact k
def CellF (c u w : Int) (M : List Int) : Prop := c = -1 ∨ 0 ≤ c ∧ ∃ m, M[c.toNat]? = some m ∧ w = m + u
theorem p_value {gs : List Rg} {L R : List Int} {n l r N : Nat} {S : Sto} {p : Nat} {q : DK} (hm : MemOk gs N L R) (n0 : 0 < N) (n1 : N ≤ 20) (en : S[n]? = some (.lst [.ref l, .ref r])) (el : S[l]? = some (.lst (L.map D.int))) (er : S[r]? = some (.lst (R.map D.int))) (dn : n ≠ p) (dl : l ≠ p) (dr : r ≠ p) (hS : Src S p)
    (k : ∀ w o f S', wd w → wd o → okR f → TrueF f w L → TrueF f o R → (f.sec = false → w = o) → Kp (· = p) S S' → q (.ref S'.length) (S' ++ [.lst [.int w, .int o, dFa f]])) : wp_law_value [.ref p, .ref n] S q := by
  have t1 : ∀ (w o c u le gr : Int) (b : Bool) (x7 x6 : Option D) (S0 : Sto), wd w → wd o → 0 ≤ le → gr ≤ 65535 → le ≤ w → w ≤ gr → le ≤ o → o ≤ gr → -1 ≤ c → CellF c u w L → CellF c u o R → (b = false → w = o) → Kp (· = p) S S0 →
      c_law_value_1 { nx := fun _ S' => q .non S', rt := q } [some (.ref p), some (.ref n), some (.int w), some (.int o), some (.int c), some (.int u), x6, x7, some (.int le), some (.int gr), some (.str (fl b))] S0 := by
    intro w o c u le gr b x7 x6 S0 hw ho l0 g1 lw wg lo og c1 hc hd hb k0
    rw [eqc_law_value_1]
    ((conv => whnf); (repeat ((first | refine ⟨(by show (0 : Int) < _; first | decide | omega), ?_⟩ | refine ⟨cmul_r (by decide) (by decide), ?_⟩ | refine ⟨cmul_l (by decide) (by decide), ?_⟩ | refine ⟨cmul_l (by omega) (by omega), ?_⟩ | refine ⟨cdiv_v (by omega) (by omega), ?_⟩ | refine ⟨cdiv_c (by decide) (by decide), ?_⟩ | refine ⟨(by decide), ?_⟩ | refine ⟨Nat.le_of_ble_eq_true rfl, ?_⟩ | refine ⟨⟨by decide, by decide, by decide⟩, ?_⟩); (conv => whnf))))
    exact k w o ⟨b, le, gr, c, u⟩ S0 hw ho ⟨l0, by show le ≤ gr; omega, g1, c1⟩ ⟨lw, wg, hc⟩ ⟨lo, og, hd⟩ hb k0
  have t2 : ∀ (w o c u le gr : Int) (x7 x6 : Option D) (S0 : Sto), wd w → wd o → 0 ≤ le → gr ≤ 65535 → le ≤ w → w ≤ gr → le ≤ o → o ≤ gr → -1 ≤ c → CellF c u w L → CellF c u o R → Src S0 p → Kp (· = p) S S0 →
      c_law_value_2 { nx := fun _ S' => q .non S', rt := q } [some (.ref p), some (.ref n), some (.int w), some (.int o), some (.int c), some (.int u), x6, x7, some (.int le), some (.int gr), none] S0 := by
    intro w o c u le gr x7 x6 S0 hw ho l0 g1 lw wg lo og c1 hc hd hS0 k0
    rw [eqc_law_value_2]
    ((conv => whnf); (repeat ((first | refine ⟨(by show (0 : Int) < _; first | decide | omega), ?_⟩ | refine ⟨cmul_r (by decide) (by decide), ?_⟩ | refine ⟨cmul_l (by decide) (by decide), ?_⟩ | refine ⟨cmul_l (by omega) (by omega), ?_⟩ | refine ⟨cdiv_v (by omega) (by omega), ?_⟩ | refine ⟨cdiv_c (by decide) (by decide), ?_⟩ | refine ⟨(by decide), ?_⟩ | refine ⟨Nat.le_of_ble_eq_true rfl, ?_⟩ | refine ⟨⟨by decide, by decide, by decide⟩, ?_⟩); (conv => whnf))))
    first | refine bcase (fun z => ?_) (fun z => ?_) | refine bcase0 (fun z => ?_) (fun z => ?_) | refine bcase1 (fun z => ?_) (fun z => ?_)
    · ((conv => whnf); (repeat ((first | refine ⟨(by show (0 : Int) < _; first | decide | omega), ?_⟩ | refine ⟨cmul_r (by decide) (by decide), ?_⟩ | refine ⟨cmul_l (by decide) (by decide), ?_⟩ | refine ⟨cmul_l (by omega) (by omega), ?_⟩ | refine ⟨cdiv_v (by omega) (by omega), ?_⟩ | refine ⟨cdiv_c (by decide) (by decide), ?_⟩ | refine ⟨(by decide), ?_⟩ | refine ⟨Nat.le_of_ble_eq_true rfl, ?_⟩ | refine ⟨⟨by decide, by decide, by decide⟩, ?_⟩); (conv => whnf))))
      refine p_draw hS0 (by decide) (by decide) fun v1 S1 a1 b1 hS1 kk1 => ?_
      have k1 := k0.trans kk1
      ((conv => whnf); (repeat ((first | refine ⟨(by show (0 : Int) < _; first | decide | omega), ?_⟩ | refine ⟨cmul_r (by decide) (by decide), ?_⟩ | refine ⟨cmul_l (by decide) (by decide), ?_⟩ | refine ⟨cmul_l (by omega) (by omega), ?_⟩ | refine ⟨cdiv_v (by omega) (by omega), ?_⟩ | refine ⟨cdiv_c (by decide) (by decide), ?_⟩ | refine ⟨(by decide), ?_⟩ | refine ⟨Nat.le_of_ble_eq_true rfl, ?_⟩ | refine ⟨⟨by decide, by decide, by decide⟩, ?_⟩); (conv => whnf))))
      first | refine bcase (fun y => ?_) (fun y => ?_) | refine bcase0 (fun y => ?_) (fun y => ?_) | refine bcase1 (fun y => ?_) (fun y => ?_)
      · ((conv => whnf); (repeat ((first | refine ⟨(by show (0 : Int) < _; first | decide | omega), ?_⟩ | refine ⟨cmul_r (by decide) (by decide), ?_⟩ | refine ⟨cmul_l (by decide) (by decide), ?_⟩ | refine ⟨cmul_l (by omega) (by omega), ?_⟩ | refine ⟨cdiv_v (by omega) (by omega), ?_⟩ | refine ⟨cdiv_c (by decide) (by decide), ?_⟩ | refine ⟨(by decide), ?_⟩ | refine ⟨Nat.le_of_ble_eq_true rfl, ?_⟩ | refine ⟨⟨by decide, by decide, by decide⟩, ?_⟩); (conv => whnf))))
        exact t1 w o c u le gr false _ _ S1 hw ho l0 g1 lw wg lo og c1 hc hd (fun _ => z) k1
      · ((conv => whnf); (repeat ((first | refine ⟨(by show (0 : Int) < _; first | decide | omega), ?_⟩ | refine ⟨cmul_r (by decide) (by decide), ?_⟩ | refine ⟨cmul_l (by decide) (by decide), ?_⟩ | refine ⟨cmul_l (by omega) (by omega), ?_⟩ | refine ⟨cdiv_v (by omega) (by omega), ?_⟩ | refine ⟨cdiv_c (by decide) (by decide), ?_⟩ | refine ⟨(by decide), ?_⟩ | refine ⟨Nat.le_of_ble_eq_true rfl, ?_⟩ | refine ⟨⟨by decide, by decide, by decide⟩, ?_⟩); (conv => whnf))))
        exact t1 w o c u le gr true _ _ S1 hw ho l0 g1 lw wg lo og c1 hc hd (fun h => by cases h) k1
    · ((conv => whnf); (repeat ((first | refine ⟨(by show (0 : Int) < _; first | decide | omega), ?_⟩ | refine ⟨cmul_r (by decide) (by decide), ?_⟩ | refine ⟨cmul_l (by decide) (by decide), ?_⟩ | refine ⟨cmul_l (by omega) (by omega), ?_⟩ | refine ⟨cdiv_v (by omega) (by omega), ?_⟩ | refine ⟨cdiv_c (by decide) (by decide), ?_⟩ | refine ⟨(by decide), ?_⟩ | refine ⟨Nat.le_of_ble_eq_true rfl, ?_⟩ | refine ⟨⟨by decide, by decide, by decide⟩, ?_⟩); (conv => whnf))))
      exact t1 w o c u le gr true _ _ S0 hw ho l0 g1 lw wg lo og c1 hc hd (fun h => by cases h) k0
  have t3 : ∀ (w o c u : Int) (x7 x6 : Option D) (S0 : Sto), wd w → wd o → -1 ≤ c → CellF c u w L → CellF c u o R → Src S0 p → Kp (· = p) S S0 →
      c_law_value_3 { nx := fun _ S' => q .non S', rt := q } [some (.ref p), some (.ref n), some (.int w), some (.int o), some (.int c), some (.int u), x6, x7, none, none, none] S0 := by
    intro w o c u x7 x6 S0 hw ho c1 hc hd hS0 k0
    have hw' := hw
    have ho' := ho
    obtain ⟨w0, w1⟩ := hw
    obtain ⟨o0, o1⟩ := ho
    rw [eqc_law_value_3]
    ((conv => whnf); (repeat ((first | refine ⟨(by show (0 : Int) < _; first | decide | omega), ?_⟩ | refine ⟨cmul_r (by decide) (by decide), ?_⟩ | refine ⟨cmul_l (by decide) (by decide), ?_⟩ | refine ⟨cmul_l (by omega) (by omega), ?_⟩ | refine ⟨cdiv_v (by omega) (by omega), ?_⟩ | refine ⟨cdiv_c (by decide) (by decide), ?_⟩ | refine ⟨(by decide), ?_⟩ | refine ⟨Nat.le_of_ble_eq_true rfl, ?_⟩ | refine ⟨⟨by decide, by decide, by decide⟩, ?_⟩); (conv => whnf))))
    rw [min_eq]
    ((conv => whnf); (repeat ((first | refine ⟨(by show (0 : Int) < _; first | decide | omega), ?_⟩ | refine ⟨cmul_r (by decide) (by decide), ?_⟩ | refine ⟨cmul_l (by decide) (by decide), ?_⟩ | refine ⟨cmul_l (by omega) (by omega), ?_⟩ | refine ⟨cdiv_v (by omega) (by omega), ?_⟩ | refine ⟨cdiv_c (by decide) (by decide), ?_⟩ | refine ⟨(by decide), ?_⟩ | refine ⟨Nat.le_of_ble_eq_true rfl, ?_⟩ | refine ⟨⟨by decide, by decide, by decide⟩, ?_⟩); (conv => whnf))))
    rw [max_eq]
    ((conv => whnf); (repeat ((first | refine ⟨(by show (0 : Int) < _; first | decide | omega), ?_⟩ | refine ⟨cmul_r (by decide) (by decide), ?_⟩ | refine ⟨cmul_l (by decide) (by decide), ?_⟩ | refine ⟨cmul_l (by omega) (by omega), ?_⟩ | refine ⟨cdiv_v (by omega) (by omega), ?_⟩ | refine ⟨cdiv_c (by decide) (by decide), ?_⟩ | refine ⟨(by decide), ?_⟩ | refine ⟨Nat.le_of_ble_eq_true rfl, ?_⟩ | refine ⟨⟨by decide, by decide, by decide⟩, ?_⟩); (conv => whnf))))
    refine p_draw hS0 (by decide) (by decide) fun v1 S1 a1 b1 hS1 kk1 => ?_
    have k1 := k0.trans kk1
    ((conv => whnf); (repeat ((first | refine ⟨(by show (0 : Int) < _; first | decide | omega), ?_⟩ | refine ⟨cmul_r (by decide) (by decide), ?_⟩ | refine ⟨cmul_l (by decide) (by decide), ?_⟩ | refine ⟨cmul_l (by omega) (by omega), ?_⟩ | refine ⟨cdiv_v (by omega) (by omega), ?_⟩ | refine ⟨cdiv_c (by decide) (by decide), ?_⟩ | refine ⟨(by decide), ?_⟩ | refine ⟨Nat.le_of_ble_eq_true rfl, ?_⟩ | refine ⟨⟨by decide, by decide, by decide⟩, ?_⟩); (conv => whnf))))
    first | refine bcase (fun z => ?_) (fun z => ?_) | refine bcase0 (fun z => ?_) (fun z => ?_) | refine bcase1 (fun z => ?_) (fun z => ?_)
    · ((conv => whnf); (repeat ((first | refine ⟨(by show (0 : Int) < _; first | decide | omega), ?_⟩ | refine ⟨cmul_r (by decide) (by decide), ?_⟩ | refine ⟨cmul_l (by decide) (by decide), ?_⟩ | refine ⟨cmul_l (by omega) (by omega), ?_⟩ | refine ⟨cdiv_v (by omega) (by omega), ?_⟩ | refine ⟨cdiv_c (by decide) (by decide), ?_⟩ | refine ⟨(by decide), ?_⟩ | refine ⟨Nat.le_of_ble_eq_true rfl, ?_⟩ | refine ⟨⟨by decide, by decide, by decide⟩, ?_⟩); (conv => whnf))))
      refine p_draw hS1 (by omega) (by omega) fun v2 S2 a2 b2 hS2 kk2 => ?_
      have k2 := k1.trans kk2
      ((conv => whnf); (repeat ((first | refine ⟨(by show (0 : Int) < _; first | decide | omega), ?_⟩ | refine ⟨cmul_r (by decide) (by decide), ?_⟩ | refine ⟨cmul_l (by decide) (by decide), ?_⟩ | refine ⟨cmul_l (by omega) (by omega), ?_⟩ | refine ⟨cdiv_v (by omega) (by omega), ?_⟩ | refine ⟨cdiv_c (by decide) (by decide), ?_⟩ | refine ⟨(by decide), ?_⟩ | refine ⟨Nat.le_of_ble_eq_true rfl, ?_⟩ | refine ⟨⟨by decide, by decide, by decide⟩, ?_⟩); (conv => whnf))))
      refine p_draw hS2 (by decide) (by decide) fun v3 S3 a3 b3 hS3 kk3 => ?_
      have k3 := k2.trans kk3
      ((conv => whnf); (repeat ((first | refine ⟨(by show (0 : Int) < _; first | decide | omega), ?_⟩ | refine ⟨cmul_r (by decide) (by decide), ?_⟩ | refine ⟨cmul_l (by decide) (by decide), ?_⟩ | refine ⟨cmul_l (by omega) (by omega), ?_⟩ | refine ⟨cdiv_v (by omega) (by omega), ?_⟩ | refine ⟨cdiv_c (by decide) (by decide), ?_⟩ | refine ⟨(by decide), ?_⟩ | refine ⟨Nat.le_of_ble_eq_true rfl, ?_⟩ | refine ⟨⟨by decide, by decide, by decide⟩, ?_⟩); (conv => whnf))))
      refine ix_int 0 (min w o) ?_ a3 b3 fun le l0 l1 => ?_
      · intro d hd
        simp only [List.mem_cons, List.not_mem_nil, or_false] at hd
        rcases hd with rfl | rfl <;> exact ⟨_, rfl, by omega, by omega⟩
      ((conv => whnf); (repeat ((first | refine ⟨(by show (0 : Int) < _; first | decide | omega), ?_⟩ | refine ⟨cmul_r (by decide) (by decide), ?_⟩ | refine ⟨cmul_l (by decide) (by decide), ?_⟩ | refine ⟨cmul_l (by omega) (by omega), ?_⟩ | refine ⟨cdiv_v (by omega) (by omega), ?_⟩ | refine ⟨cdiv_c (by decide) (by decide), ?_⟩ | refine ⟨(by decide), ?_⟩ | refine ⟨Nat.le_of_ble_eq_true rfl, ?_⟩ | refine ⟨⟨by decide, by decide, by decide⟩, ?_⟩); (conv => whnf))))
      refine p_draw hS3 (by omega) (by omega) fun v4 S4 a4 b4 hS4 kk4 => ?_
      have k4 := k3.trans kk4
      ((conv => whnf); (repeat ((first | refine ⟨(by show (0 : Int) < _; first | decide | omega), ?_⟩ | refine ⟨cmul_r (by decide) (by decide), ?_⟩ | refine ⟨cmul_l (by decide) (by decide), ?_⟩ | refine ⟨cmul_l (by omega) (by omega), ?_⟩ | refine ⟨cdiv_v (by omega) (by omega), ?_⟩ | refine ⟨cdiv_c (by decide) (by decide), ?_⟩ | refine ⟨(by decide), ?_⟩ | refine ⟨Nat.le_of_ble_eq_true rfl, ?_⟩ | refine ⟨⟨by decide, by decide, by decide⟩, ?_⟩); (conv => whnf))))
      refine p_draw hS4 (by decide) (by decide) fun v5 S5 a5 b5 hS5 kk5 => ?_
      have k5 := k4.trans kk5
      ((conv => whnf); (repeat ((first | refine ⟨(by show (0 : Int) < _; first | decide | omega), ?_⟩ | refine ⟨cmul_r (by decide) (by decide), ?_⟩ | refine ⟨cmul_l (by decide) (by decide), ?_⟩ | refine ⟨cmul_l (by omega) (by omega), ?_⟩ | refine ⟨cdiv_v (by omega) (by omega), ?_⟩ | refine ⟨cdiv_c (by decide) (by decide), ?_⟩ | refine ⟨(by decide), ?_⟩ | refine ⟨Nat.le_of_ble_eq_true rfl, ?_⟩ | refine ⟨⟨by decide, by decide, by decide⟩, ?_⟩); (conv => whnf))))
      refine ix_int (max w o) 65535 ?_ a5 b5 fun gr g0 g1 => ?_
      · intro d hd
        simp only [List.mem_cons, List.not_mem_nil, or_false] at hd
        rcases hd with rfl | rfl <;> exact ⟨_, rfl, by omega, by omega⟩
      exact t2 w o c u le gr _ _ S5 hw' ho' l0 g1 (by omega) (by omega) (by omega) (by omega) c1 hc hd hS5 k5
    · ((conv => whnf); (repeat ((first | refine ⟨(by show (0 : Int) < _; first | decide | omega), ?_⟩ | refine ⟨cmul_r (by decide) (by decide), ?_⟩ | refine ⟨cmul_l (by decide) (by decide), ?_⟩ | refine ⟨cmul_l (by omega) (by omega), ?_⟩ | refine ⟨cdiv_v (by omega) (by omega), ?_⟩ | refine ⟨cdiv_c (by decide) (by decide), ?_⟩ | refine ⟨(by decide), ?_⟩ | refine ⟨Nat.le_of_ble_eq_true rfl, ?_⟩ | refine ⟨⟨by decide, by decide, by decide⟩, ?_⟩); (conv => whnf))))
      exact t2 w o c u (min w o) (max w o) _ _ S1 hw' ho' (by omega) (by omega) (by omega) (by omega) (by omega) (by omega) c1 hc hd hS1 k1
  have t4 : ∀ (w o : Int) (S0 : Sto), wd w → wd o → Src S0 p → Kp (· = p) S S0 →
      c_law_value_4 { nx := fun _ S' => q .non S', rt := q } [some (.ref p), some (.ref n), some (.int w), some (.int o), none, none, none, none, none, none, none] S0 := by
    intro w o S0 hw ho hS0 k0
    rw [eqc_law_value_4]
    ((conv => whnf); (repeat ((first | refine ⟨(by show (0 : Int) < _; first | decide | omega), ?_⟩ | refine ⟨cmul_r (by decide) (by decide), ?_⟩ | refine ⟨cmul_l (by decide) (by decide), ?_⟩ | refine ⟨cmul_l (by omega) (by omega), ?_⟩ | refine ⟨cdiv_v (by omega) (by omega), ?_⟩ | refine ⟨cdiv_c (by decide) (by decide), ?_⟩ | refine ⟨(by decide), ?_⟩ | refine ⟨Nat.le_of_ble_eq_true rfl, ?_⟩ | refine ⟨⟨by decide, by decide, by decide⟩, ?_⟩); (conv => whnf))))
    rw [seqD_ref (k0.get dn en)]
    ((conv => whnf); (repeat ((first | refine ⟨(by show (0 : Int) < _; first | decide | omega), ?_⟩ | refine ⟨cmul_r (by decide) (by decide), ?_⟩ | refine ⟨cmul_l (by decide) (by decide), ?_⟩ | refine ⟨cmul_l (by omega) (by omega), ?_⟩ | refine ⟨cdiv_v (by omega) (by omega), ?_⟩ | refine ⟨cdiv_c (by decide) (by decide), ?_⟩ | refine ⟨(by decide), ?_⟩ | refine ⟨Nat.le_of_ble_eq_true rfl, ?_⟩ | refine ⟨⟨by decide, by decide, by decide⟩, ?_⟩); (conv => whnf))))
    rw [seqD_ref (k0.get dl el)]
    ((conv => whnf); (repeat ((first | refine ⟨(by show (0 : Int) < _; first | decide | omega), ?_⟩ | refine ⟨cmul_r (by decide) (by decide), ?_⟩ | refine ⟨cmul_l (by decide) (by decide), ?_⟩ | refine ⟨cmul_l (by omega) (by omega), ?_⟩ | refine ⟨cdiv_v (by omega) (by omega), ?_⟩ | refine ⟨cdiv_c (by decide) (by decide), ?_⟩ | refine ⟨(by decide), ?_⟩ | refine ⟨Nat.le_of_ble_eq_true rfl, ?_⟩ | refine ⟨⟨by decide, by decide, by decide⟩, ?_⟩); (conv => whnf))))
    have lL : ((L.map D.int).length : Int) = N := by rw [List.length_map, hm.len0]
    rw [lL]
    refine p_draw hS0 (by omega) (by omega) fun v1 S1 a1 b1 hS1 kk1 => ?_
    have k1 := k0.trans kk1
    have hL : L[v1.toNat]? = some (L[v1.toNat]'(by rw [hm.len0]; omega)) := List.getElem?_eq_getElem _
    have hR : R[v1.toNat]? = some (R[v1.toNat]'(by rw [hm.len1]; omega)) := List.getElem?_eq_getElem _
    generalize L[v1.toNat]'(by rw [hm.len0]; omega) = x at hL
    generalize R[v1.toNat]'(by rw [hm.len1]; omega) = y at hR
    obtain ⟨x0, y0, x1, y1, _⟩ := hm.word _ x y hL hR
    ((conv => whnf); (repeat ((first | refine ⟨(by show (0 : Int) < _; first | decide | omega), ?_⟩ | refine ⟨cmul_r (by decide) (by decide), ?_⟩ | refine ⟨cmul_l (by decide) (by decide), ?_⟩ | refine ⟨cmul_l (by omega) (by omega), ?_⟩ | refine ⟨cdiv_v (by omega) (by omega), ?_⟩ | refine ⟨cdiv_c (by decide) (by decide), ?_⟩ | refine ⟨(by decide), ?_⟩ | refine ⟨Nat.le_of_ble_eq_true rfl, ?_⟩ | refine ⟨⟨by decide, by decide, by decide⟩, ?_⟩); (conv => whnf))))
    refine p_draw hS1 (by decide) (by decide) fun v2 S2 a2 b2 hS2 kk2 => ?_
    have k2 := k1.trans kk2
    ((conv => whnf); (repeat ((first | refine ⟨(by show (0 : Int) < _; first | decide | omega), ?_⟩ | refine ⟨cmul_r (by decide) (by decide), ?_⟩ | refine ⟨cmul_l (by decide) (by decide), ?_⟩ | refine ⟨cmul_l (by omega) (by omega), ?_⟩ | refine ⟨cdiv_v (by omega) (by omega), ?_⟩ | refine ⟨cdiv_c (by decide) (by decide), ?_⟩ | refine ⟨(by decide), ?_⟩ | refine ⟨Nat.le_of_ble_eq_true rfl, ?_⟩ | refine ⟨⟨by decide, by decide, by decide⟩, ?_⟩); (conv => whnf))))
    refine p_word hS2 fun v3 S3 a3 b3 hS3 kk3 => ?_
    have k3 := k2.trans kk3
    ((conv => whnf); (repeat ((first | refine ⟨(by show (0 : Int) < _; first | decide | omega), ?_⟩ | refine ⟨cmul_r (by decide) (by decide), ?_⟩ | refine ⟨cmul_l (by decide) (by decide), ?_⟩ | refine ⟨cmul_l (by omega) (by omega), ?_⟩ | refine ⟨cdiv_v (by omega) (by omega), ?_⟩ | refine ⟨cdiv_c (by decide) (by decide), ?_⟩ | refine ⟨(by decide), ?_⟩ | refine ⟨Nat.le_of_ble_eq_true rfl, ?_⟩ | refine ⟨⟨by decide, by decide, by decide⟩, ?_⟩); (conv => whnf))))
    refine p_draw hS3 (by decide) (by decide) fun v4 S4 a4 b4 hS4 kk4 => ?_
    have k4 := k3.trans kk4
    ((conv => whnf); (repeat ((first | refine ⟨(by show (0 : Int) < _; first | decide | omega), ?_⟩ | refine ⟨cmul_r (by decide) (by decide), ?_⟩ | refine ⟨cmul_l (by decide) (by decide), ?_⟩ | refine ⟨cmul_l (by omega) (by omega), ?_⟩ | refine ⟨cdiv_v (by omega) (by omega), ?_⟩ | refine ⟨cdiv_c (by decide) (by decide), ?_⟩ | refine ⟨(by decide), ?_⟩ | refine ⟨Nat.le_of_ble_eq_true rfl, ?_⟩ | refine ⟨⟨by decide, by decide, by decide⟩, ?_⟩); (conv => whnf))))
    refine ix_int 0 65535 ?_ a4 b4 fun u u0 u1 => ?_
    · intro d hd
      simp only [List.mem_cons, List.not_mem_nil, or_false] at hd
      rcases hd with rfl | rfl | rfl | rfl <;> exact ⟨_, rfl, by omega, by omega⟩
    ((conv => whnf); (repeat ((first | refine ⟨(by show (0 : Int) < _; first | decide | omega), ?_⟩ | refine ⟨cmul_r (by decide) (by decide), ?_⟩ | refine ⟨cmul_l (by decide) (by decide), ?_⟩ | refine ⟨cmul_l (by omega) (by omega), ?_⟩ | refine ⟨cdiv_v (by omega) (by omega), ?_⟩ | refine ⟨cdiv_c (by decide) (by decide), ?_⟩ | refine ⟨(by decide), ?_⟩ | refine ⟨Nat.le_of_ble_eq_true rfl, ?_⟩ | refine ⟨⟨by decide, by decide, by decide⟩, ?_⟩); (conv => whnf))))
    refine p_draw hS4 (by decide) (by decide) fun v5 S5 a5 b5 hS5 kk5 => ?_
    have k5 := k4.trans kk5
    ((conv => whnf); (repeat ((first | refine ⟨(by show (0 : Int) < _; first | decide | omega), ?_⟩ | refine ⟨cmul_r (by decide) (by decide), ?_⟩ | refine ⟨cmul_l (by decide) (by decide), ?_⟩ | refine ⟨cmul_l (by omega) (by omega), ?_⟩ | refine ⟨cdiv_v (by omega) (by omega), ?_⟩ | refine ⟨cdiv_c (by decide) (by decide), ?_⟩ | refine ⟨(by decide), ?_⟩ | refine ⟨Nat.le_of_ble_eq_true rfl, ?_⟩ | refine ⟨⟨by decide, by decide, by decide⟩, ?_⟩); (conv => whnf))))
    first | refine bcase (fun z => ?_) (fun z => ?_) | refine bcase0 (fun z => ?_) (fun z => ?_) | refine bcase1 (fun z => ?_) (fun z => ?_)
    · ((conv => whnf); (repeat ((first | refine ⟨(by show (0 : Int) < _; first | decide | omega), ?_⟩ | refine ⟨cmul_r (by decide) (by decide), ?_⟩ | refine ⟨cmul_l (by decide) (by decide), ?_⟩ | refine ⟨cmul_l (by omega) (by omega), ?_⟩ | refine ⟨cdiv_v (by omega) (by omega), ?_⟩ | refine ⟨cdiv_c (by decide) (by decide), ?_⟩ | refine ⟨(by decide), ?_⟩ | refine ⟨Nat.le_of_ble_eq_true rfl, ?_⟩ | refine ⟨⟨by decide, by decide, by decide⟩, ?_⟩); (conv => whnf))))
      rw [seqD_ref (k5.get dn en)]
      ((conv => whnf); (repeat ((first | refine ⟨(by show (0 : Int) < _; first | decide | omega), ?_⟩ | refine ⟨cmul_r (by decide) (by decide), ?_⟩ | refine ⟨cmul_l (by decide) (by decide), ?_⟩ | refine ⟨cmul_l (by omega) (by omega), ?_⟩ | refine ⟨cdiv_v (by omega) (by omega), ?_⟩ | refine ⟨cdiv_c (by decide) (by decide), ?_⟩ | refine ⟨(by decide), ?_⟩ | refine ⟨Nat.le_of_ble_eq_true rfl, ?_⟩ | refine ⟨⟨by decide, by decide, by decide⟩, ?_⟩); (conv => whnf))))
      rw [seqD_ref (k5.get dl el)]
      ((conv => whnf); (repeat ((first | refine ⟨(by show (0 : Int) < _; first | decide | omega), ?_⟩ | refine ⟨cmul_r (by decide) (by decide), ?_⟩ | refine ⟨cmul_l (by decide) (by decide), ?_⟩ | refine ⟨cmul_l (by omega) (by omega), ?_⟩ | refine ⟨cdiv_v (by omega) (by omega), ?_⟩ | refine ⟨cdiv_c (by decide) (by decide), ?_⟩ | refine ⟨(by decide), ?_⟩ | refine ⟨Nat.le_of_ble_eq_true rfl, ?_⟩ | refine ⟨⟨by decide, by decide, by decide⟩, ?_⟩); (conv => whnf))))
      rw [ints_at a1 hL]
      ((conv => whnf); (repeat ((first | refine ⟨(by show (0 : Int) < _; first | decide | omega), ?_⟩ | refine ⟨cmul_r (by decide) (by decide), ?_⟩ | refine ⟨cmul_l (by decide) (by decide), ?_⟩ | refine ⟨cmul_l (by omega) (by omega), ?_⟩ | refine ⟨cdiv_v (by omega) (by omega), ?_⟩ | refine ⟨cdiv_c (by decide) (by decide), ?_⟩ | refine ⟨(by decide), ?_⟩ | refine ⟨Nat.le_of_ble_eq_true rfl, ?_⟩ | refine ⟨⟨by decide, by decide, by decide⟩, ?_⟩); (conv => whnf))))
      rw [seqD_ref (k5.get dn en)]
      ((conv => whnf); (repeat ((first | refine ⟨(by show (0 : Int) < _; first | decide | omega), ?_⟩ | refine ⟨cmul_r (by decide) (by decide), ?_⟩ | refine ⟨cmul_l (by decide) (by decide), ?_⟩ | refine ⟨cmul_l (by omega) (by omega), ?_⟩ | refine ⟨cdiv_v (by omega) (by omega), ?_⟩ | refine ⟨cdiv_c (by decide) (by decide), ?_⟩ | refine ⟨(by decide), ?_⟩ | refine ⟨Nat.le_of_ble_eq_true rfl, ?_⟩ | refine ⟨⟨by decide, by decide, by decide⟩, ?_⟩); (conv => whnf))))
      rw [seqD_ref (k5.get dr er)]
      ((conv => whnf); (repeat ((first | refine ⟨(by show (0 : Int) < _; first | decide | omega), ?_⟩ | refine ⟨cmul_r (by decide) (by decide), ?_⟩ | refine ⟨cmul_l (by decide) (by decide), ?_⟩ | refine ⟨cmul_l (by omega) (by omega), ?_⟩ | refine ⟨cdiv_v (by omega) (by omega), ?_⟩ | refine ⟨cdiv_c (by decide) (by decide), ?_⟩ | refine ⟨(by decide), ?_⟩ | refine ⟨Nat.le_of_ble_eq_true rfl, ?_⟩ | refine ⟨⟨by decide, by decide, by decide⟩, ?_⟩); (conv => whnf))))
      rw [ints_at a1 hR]
      ((conv => whnf); (repeat ((first | refine ⟨(by show (0 : Int) < _; first | decide | omega), ?_⟩ | refine ⟨cmul_r (by decide) (by decide), ?_⟩ | refine ⟨cmul_l (by decide) (by decide), ?_⟩ | refine ⟨cmul_l (by omega) (by omega), ?_⟩ | refine ⟨cdiv_v (by omega) (by omega), ?_⟩ | refine ⟨cdiv_c (by decide) (by decide), ?_⟩ | refine ⟨(by decide), ?_⟩ | refine ⟨Nat.le_of_ble_eq_true rfl, ?_⟩ | refine ⟨⟨by decide, by decide, by decide⟩, ?_⟩); (conv => whnf))))
      rw [max_eq]
      first | refine bcase (fun z2 => ?_) (fun z2 => ?_) | refine bcase0 (fun z2 => ?_) (fun z2 => ?_) | refine bcase1 (fun z2 => ?_) (fun z2 => ?_)
      · ((conv => whnf); (repeat ((first | refine ⟨(by show (0 : Int) < _; first | decide | omega), ?_⟩ | refine ⟨cmul_r (by decide) (by decide), ?_⟩ | refine ⟨cmul_l (by decide) (by decide), ?_⟩ | refine ⟨cmul_l (by omega) (by omega), ?_⟩ | refine ⟨cdiv_v (by omega) (by omega), ?_⟩ | refine ⟨cdiv_c (by decide) (by decide), ?_⟩ | refine ⟨(by decide), ?_⟩ | refine ⟨Nat.le_of_ble_eq_true rfl, ?_⟩ | refine ⟨⟨by decide, by decide, by decide⟩, ?_⟩); (conv => whnf))))
        rw [seqD_ref (k5.get dn en)]
        ((conv => whnf); (repeat ((first | refine ⟨(by show (0 : Int) < _; first | decide | omega), ?_⟩ | refine ⟨cmul_r (by decide) (by decide), ?_⟩ | refine ⟨cmul_l (by decide) (by decide), ?_⟩ | refine ⟨cmul_l (by omega) (by omega), ?_⟩ | refine ⟨cdiv_v (by omega) (by omega), ?_⟩ | refine ⟨cdiv_c (by decide) (by decide), ?_⟩ | refine ⟨(by decide), ?_⟩ | refine ⟨Nat.le_of_ble_eq_true rfl, ?_⟩ | refine ⟨⟨by decide, by decide, by decide⟩, ?_⟩); (conv => whnf))))
        rw [seqD_ref (k5.get dl el)]
        ((conv => whnf); (repeat ((first | refine ⟨(by show (0 : Int) < _; first | decide | omega), ?_⟩ | refine ⟨cmul_r (by decide) (by decide), ?_⟩ | refine ⟨cmul_l (by decide) (by decide), ?_⟩ | refine ⟨cmul_l (by omega) (by omega), ?_⟩ | refine ⟨cdiv_v (by omega) (by omega), ?_⟩ | refine ⟨cdiv_c (by decide) (by decide), ?_⟩ | refine ⟨(by decide), ?_⟩ | refine ⟨Nat.le_of_ble_eq_true rfl, ?_⟩ | refine ⟨⟨by decide, by decide, by decide⟩, ?_⟩); (conv => whnf))))
        rw [ints_at a1 hL]
        ((conv => whnf); (repeat ((first | refine ⟨(by show (0 : Int) < _; first | decide | omega), ?_⟩ | refine ⟨cmul_r (by decide) (by decide), ?_⟩ | refine ⟨cmul_l (by decide) (by decide), ?_⟩ | refine ⟨cmul_l (by omega) (by omega), ?_⟩ | refine ⟨cdiv_v (by omega) (by omega), ?_⟩ | refine ⟨cdiv_c (by decide) (by decide), ?_⟩ | refine ⟨(by decide), ?_⟩ | refine ⟨Nat.le_of_ble_eq_true rfl, ?_⟩ | refine ⟨⟨by decide, by decide, by decide⟩, ?_⟩); (conv => whnf))))
        rw [seqD_ref (k5.get dn en)]
        ((conv => whnf); (repeat ((first | refine ⟨(by show (0 : Int) < _; first | decide | omega), ?_⟩ | refine ⟨cmul_r (by decide) (by decide), ?_⟩ | refine ⟨cmul_l (by decide) (by decide), ?_⟩ | refine ⟨cmul_l (by omega) (by omega), ?_⟩ | refine ⟨cdiv_v (by omega) (by omega), ?_⟩ | refine ⟨cdiv_c (by decide) (by decide), ?_⟩ | refine ⟨(by decide), ?_⟩ | refine ⟨Nat.le_of_ble_eq_true rfl, ?_⟩ | refine ⟨⟨by decide, by decide, by decide⟩, ?_⟩); (conv => whnf))))
        rw [seqD_ref (k5.get dr er)]
        ((conv => whnf); (repeat ((first | refine ⟨(by show (0 : Int) < _; first | decide | omega), ?_⟩ | refine ⟨cmul_r (by decide) (by decide), ?_⟩ | refine ⟨cmul_l (by decide) (by decide), ?_⟩ | refine ⟨cmul_l (by omega) (by omega), ?_⟩ | refine ⟨cdiv_v (by omega) (by omega), ?_⟩ | refine ⟨cdiv_c (by decide) (by decide), ?_⟩ | refine ⟨(by decide), ?_⟩ | refine ⟨Nat.le_of_ble_eq_true rfl, ?_⟩ | refine ⟨⟨by decide, by decide, by decide⟩, ?_⟩); (conv => whnf))))
        rw [ints_at a1 hR]
        ((conv => whnf); (repeat ((first | refine ⟨(by show (0 : Int) < _; first | decide | omega), ?_⟩ | refine ⟨cmul_r (by decide) (by decide), ?_⟩ | refine ⟨cmul_l (by decide) (by decide), ?_⟩ | refine ⟨cmul_l (by omega) (by omega), ?_⟩ | refine ⟨cdiv_v (by omega) (by omega), ?_⟩ | refine ⟨cdiv_c (by decide) (by decide), ?_⟩ | refine ⟨(by decide), ?_⟩ | refine ⟨Nat.le_of_ble_eq_true rfl, ?_⟩ | refine ⟨⟨by decide, by decide, by decide⟩, ?_⟩); (conv => whnf))))
        exact t3 (x + u) (y + u) v1 u _ _ S5 ⟨by omega, by omega⟩ ⟨by omega, by omega⟩ (by omega) (.inr ⟨a1, x, hL, rfl⟩) (.inr ⟨a1, y, hR, rfl⟩) hS5 k5
      · ((conv => whnf); (repeat ((first | refine ⟨(by show (0 : Int) < _; first | decide | omega), ?_⟩ | refine ⟨cmul_r (by decide) (by decide), ?_⟩ | refine ⟨cmul_l (by decide) (by decide), ?_⟩ | refine ⟨cmul_l (by omega) (by omega), ?_⟩ | refine ⟨cdiv_v (by omega) (by omega), ?_⟩ | refine ⟨cdiv_c (by decide) (by decide), ?_⟩ | refine ⟨(by decide), ?_⟩ | refine ⟨Nat.le_of_ble_eq_true rfl, ?_⟩ | refine ⟨⟨by decide, by decide, by decide⟩, ?_⟩); (conv => whnf))))
        exact t3 w o (-1) 0 _ _ S5 hw ho (by omega) (.inl rfl) (.inl rfl) hS5 k5
    · ((conv => whnf); (repeat ((first | refine ⟨(by show (0 : Int) < _; first | decide | omega), ?_⟩ | refine ⟨cmul_r (by decide) (by decide), ?_⟩ | refine ⟨cmul_l (by decide) (by decide), ?_⟩ | refine ⟨cmul_l (by omega) (by omega), ?_⟩ | refine ⟨cdiv_v (by omega) (by omega), ?_⟩ | refine ⟨cdiv_c (by decide) (by decide), ?_⟩ | refine ⟨(by decide), ?_⟩ | refine ⟨Nat.le_of_ble_eq_true rfl, ?_⟩ | refine ⟨⟨by decide, by decide, by decide⟩, ?_⟩); (conv => whnf))))
      exact t3 w o (-1) 0 _ _ S5 hw ho (by omega) (.inl rfl) (.inl rfl) hS5 k5
  have hS0 := hS
  have k0 : Kp (· = p) S S := .rfl
  rw [eq_law_value]
  ((conv => whnf); (repeat ((first | refine ⟨(by show (0 : Int) < _; first | decide | omega), ?_⟩ | refine ⟨cmul_r (by decide) (by decide), ?_⟩ | refine ⟨cmul_l (by decide) (by decide), ?_⟩ | refine ⟨cmul_l (by omega) (by omega), ?_⟩ | refine ⟨cdiv_v (by omega) (by omega), ?_⟩ | refine ⟨cdiv_c (by decide) (by decide), ?_⟩ | refine ⟨(by decide), ?_⟩ | refine ⟨Nat.le_of_ble_eq_true rfl, ?_⟩ | refine ⟨⟨by decide, by decide, by decide⟩, ?_⟩); (conv => whnf))))
  refine p_word hS0 fun v1 S1 a1 b1 hS1 kk1 => ?_
  have k1 := k0.trans kk1
  ((conv => whnf); (repeat ((first | refine ⟨(by show (0 : Int) < _; first | decide | omega), ?_⟩ | refine ⟨cmul_r (by decide) (by decide), ?_⟩ | refine ⟨cmul_l (by decide) (by decide), ?_⟩ | refine ⟨cmul_l (by omega) (by omega), ?_⟩ | refine ⟨cdiv_v (by omega) (by omega), ?_⟩ | refine ⟨cdiv_c (by decide) (by decide), ?_⟩ | refine ⟨(by decide), ?_⟩ | refine ⟨Nat.le_of_ble_eq_true rfl, ?_⟩ | refine ⟨⟨by decide, by decide, by decide⟩, ?_⟩); (conv => whnf))))
  refine p_draw hS1 (by decide) (by decide) fun v2 S2 a2 b2 hS2 kk2 => ?_
  have k2 := k1.trans kk2
  ((conv => whnf); (repeat ((first | refine ⟨(by show (0 : Int) < _; first | decide | omega), ?_⟩ | refine ⟨cmul_r (by decide) (by decide), ?_⟩ | refine ⟨cmul_l (by decide) (by decide), ?_⟩ | refine ⟨cmul_l (by omega) (by omega), ?_⟩ | refine ⟨cdiv_v (by omega) (by omega), ?_⟩ | refine ⟨cdiv_c (by decide) (by decide), ?_⟩ | refine ⟨(by decide), ?_⟩ | refine ⟨Nat.le_of_ble_eq_true rfl, ?_⟩ | refine ⟨⟨by decide, by decide, by decide⟩, ?_⟩); (conv => whnf))))
  refine p_draw hS2 (by decide) (by decide) fun v3 S3 a3 b3 hS3 kk3 => ?_
  have k3 := k2.trans kk3
  ((conv => whnf); (repeat ((first | refine ⟨(by show (0 : Int) < _; first | decide | omega), ?_⟩ | refine ⟨cmul_r (by decide) (by decide), ?_⟩ | refine ⟨cmul_l (by decide) (by decide), ?_⟩ | refine ⟨cmul_l (by omega) (by omega), ?_⟩ | refine ⟨cdiv_v (by omega) (by omega), ?_⟩ | refine ⟨cdiv_c (by decide) (by decide), ?_⟩ | refine ⟨(by decide), ?_⟩ | refine ⟨Nat.le_of_ble_eq_true rfl, ?_⟩ | refine ⟨⟨by decide, by decide, by decide⟩, ?_⟩); (conv => whnf))))
  refine ix_int 0 65535 ?_ a3 b3 fun w w0 w1 => ?_
  · intro d hd
    simp only [List.mem_cons, List.not_mem_nil, or_false] at hd
    rcases hd with rfl | rfl <;> exact ⟨_, rfl, by omega, by omega⟩
  ((conv => whnf); (repeat ((first | refine ⟨(by show (0 : Int) < _; first | decide | omega), ?_⟩ | refine ⟨cmul_r (by decide) (by decide), ?_⟩ | refine ⟨cmul_l (by decide) (by decide), ?_⟩ | refine ⟨cmul_l (by omega) (by omega), ?_⟩ | refine ⟨cdiv_v (by omega) (by omega), ?_⟩ | refine ⟨cdiv_c (by decide) (by decide), ?_⟩ | refine ⟨(by decide), ?_⟩ | refine ⟨Nat.le_of_ble_eq_true rfl, ?_⟩ | refine ⟨⟨by decide, by decide, by decide⟩, ?_⟩); (conv => whnf))))
  refine p_draw hS3 (by decide) (by decide) fun v4 S4 a4 b4 hS4 kk4 => ?_
  have k4 := k3.trans kk4
  ((conv => whnf); (repeat ((first | refine ⟨(by show (0 : Int) < _; first | decide | omega), ?_⟩ | refine ⟨cmul_r (by decide) (by decide), ?_⟩ | refine ⟨cmul_l (by decide) (by decide), ?_⟩ | refine ⟨cmul_l (by omega) (by omega), ?_⟩ | refine ⟨cdiv_v (by omega) (by omega), ?_⟩ | refine ⟨cdiv_c (by decide) (by decide), ?_⟩ | refine ⟨(by decide), ?_⟩ | refine ⟨Nat.le_of_ble_eq_true rfl, ?_⟩ | refine ⟨⟨by decide, by decide, by decide⟩, ?_⟩); (conv => whnf))))
  first | refine bcase (fun z => ?_) (fun z => ?_) | refine bcase0 (fun z => ?_) (fun z => ?_) | refine bcase1 (fun z => ?_) (fun z => ?_)
  · ((conv => whnf); (repeat ((first | refine ⟨(by show (0 : Int) < _; first | decide | omega), ?_⟩ | refine ⟨cmul_r (by decide) (by decide), ?_⟩ | refine ⟨cmul_l (by decide) (by decide), ?_⟩ | refine ⟨cmul_l (by omega) (by omega), ?_⟩ | refine ⟨cdiv_v (by omega) (by omega), ?_⟩ | refine ⟨cdiv_c (by decide) (by decide), ?_⟩ | refine ⟨(by decide), ?_⟩ | refine ⟨Nat.le_of_ble_eq_true rfl, ?_⟩ | refine ⟨⟨by decide, by decide, by decide⟩, ?_⟩); (conv => whnf))))
    refine p_word hS4 fun v5 S5 a5 b5 hS5 kk5 => ?_
    have k5 := k4.trans kk5
    ((conv => whnf); (repeat ((first | refine ⟨(by show (0 : Int) < _; first | decide | omega), ?_⟩ | refine ⟨cmul_r (by decide) (by decide), ?_⟩ | refine ⟨cmul_l (by decide) (by decide), ?_⟩ | refine ⟨cmul_l (by omega) (by omega), ?_⟩ | refine ⟨cdiv_v (by omega) (by omega), ?_⟩ | refine ⟨cdiv_c (by decide) (by decide), ?_⟩ | refine ⟨(by decide), ?_⟩ | refine ⟨Nat.le_of_ble_eq_true rfl, ?_⟩ | refine ⟨⟨by decide, by decide, by decide⟩, ?_⟩); (conv => whnf))))
    refine p_draw hS5 (by decide) (by decide) fun v6 S6 a6 b6 hS6 kk6 => ?_
    have k6 := k5.trans kk6
    ((conv => whnf); (repeat ((first | refine ⟨(by show (0 : Int) < _; first | decide | omega), ?_⟩ | refine ⟨cmul_r (by decide) (by decide), ?_⟩ | refine ⟨cmul_l (by decide) (by decide), ?_⟩ | refine ⟨cmul_l (by omega) (by omega), ?_⟩ | refine ⟨cdiv_v (by omega) (by omega), ?_⟩ | refine ⟨cdiv_c (by decide) (by decide), ?_⟩ | refine ⟨(by decide), ?_⟩ | refine ⟨Nat.le_of_ble_eq_true rfl, ?_⟩ | refine ⟨⟨by decide, by decide, by decide⟩, ?_⟩); (conv => whnf))))
    refine p_draw hS6 (by decide) (by decide) fun v7 S7 a7 b7 hS7 kk7 => ?_
    have k7 := k6.trans kk7
    ((conv => whnf); (repeat ((first | refine ⟨(by show (0 : Int) < _; first | decide | omega), ?_⟩ | refine ⟨cmul_r (by decide) (by decide), ?_⟩ | refine ⟨cmul_l (by decide) (by decide), ?_⟩ | refine ⟨cmul_l (by omega) (by omega), ?_⟩ | refine ⟨cdiv_v (by omega) (by omega), ?_⟩ | refine ⟨cdiv_c (by decide) (by decide), ?_⟩ | refine ⟨(by decide), ?_⟩ | refine ⟨Nat.le_of_ble_eq_true rfl, ?_⟩ | refine ⟨⟨by decide, by decide, by decide⟩, ?_⟩); (conv => whnf))))
    refine ix_int 0 65535 ?_ a7 b7 fun o o0 o1 => ?_
    · intro d hd
      simp only [List.mem_cons, List.not_mem_nil, or_false] at hd
      rcases hd with rfl | rfl <;> exact ⟨_, rfl, by omega, by omega⟩
    exact t4 w o S7 ⟨w0, w1⟩ ⟨o0, o1⟩ hS7 k7
  · ((conv => whnf); (repeat ((first | refine ⟨(by show (0 : Int) < _; first | decide | omega), ?_⟩ | refine ⟨cmul_r (by decide) (by decide), ?_⟩ | refine ⟨cmul_l (by decide) (by decide), ?_⟩ | refine ⟨cmul_l (by omega) (by omega), ?_⟩ | refine ⟨cdiv_v (by omega) (by omega), ?_⟩ | refine ⟨cdiv_c (by decide) (by decide), ?_⟩ | refine ⟨(by decide), ?_⟩ | refine ⟨Nat.le_of_ble_eq_true rfl, ?_⟩ | refine ⟨⟨by decide, by decide, by decide⟩, ?_⟩); (conv => whnf))))
    exact t4 w w S4 ⟨w0, w1⟩ ⟨w0, w1⟩ hS4 k4
end K68

set_option Elab.async false
set_option linter.all false
set_option maxRecDepth 100000
set_option maxHeartbeats 4000000
namespace K68
open PySem PySem.Spec PyProof.Rows L2 DT
def insNames : List Str := ["set", "move", "add", "addc", "sub", "subc", "mul", "high", "div", "and", "or", "xor", "less", "downby", "down", "up", "carry", "clear", "load", "store"]
def two (x : Int × Int) : Ob := .lst [.int x.1, .int x.2]
def notOther : Ins → Prop
  | .other _ _ => False
  | _ => True
theorem p_instr {g h : Rg} {S : Sto} {p : Nat} {q : DK} (e0 : 0 < endM h) (e1 : endM h ≤ 20) (hS : Src S p) (k : ∀ (i : Ins) S', i.ok → notOther i → Src S' p → Kp (· = p) S S' → q i.d S') : wp_law_instruction [.ref p, dLay [g, h]] S q := by
  have hp := hS.lt
  unfold endM at e0 e1
  have t1 : ∀ n ∈ insNames, ∀ (r s t : Int) (z : D) (S0 : Sto), rg r → rg s → rg t → Src S0 p → Kp (· = p) S S0 →
      c_law_instruction_1 { nx := fun _ S' => q .non S', rt := q } [some (.ref p), some (dLay [g, h]), some z, some (.str n), some (.int r), some (.int s), some (.int t)] S0 := by
    intro n hn r s t z S0 hr hs ht hS0 k0
    rw [eqc_law_instruction_1]
    unfold insNames at hn
    simp only [List.mem_cons, List.not_mem_nil, or_false] at hn
    rcases hn with rfl | rfl | rfl | rfl | rfl | rfl | rfl | rfl | rfl | rfl | rfl | rfl | rfl | rfl | rfl | rfl | rfl | rfl | rfl | rfl
    case inl =>
      ((conv => whnf); (repeat ((first | refine ⟨(by show (0 : Int) < _; first | decide | omega), ?_⟩ | refine ⟨cmul_r (by decide) (by decide), ?_⟩ | refine ⟨cmul_l (by decide) (by decide), ?_⟩ | refine ⟨cmul_l (by omega) (by omega), ?_⟩ | refine ⟨cdiv_v (by omega) (by omega), ?_⟩ | refine ⟨cdiv_c (by decide) (by decide), ?_⟩ | refine ⟨(by decide), ?_⟩ | refine ⟨Nat.le_of_ble_eq_true rfl, ?_⟩ | refine ⟨⟨by decide, by decide, by decide⟩, ?_⟩); (conv => whnf))))
      refine p_word hS0 fun v1 S1 a1 b1 hS1 kk1 => ?_
      have k1 := k0.trans kk1
      ((conv => whnf); (repeat ((first | refine ⟨(by show (0 : Int) < _; first | decide | omega), ?_⟩ | refine ⟨cmul_r (by decide) (by decide), ?_⟩ | refine ⟨cmul_l (by decide) (by decide), ?_⟩ | refine ⟨cmul_l (by omega) (by omega), ?_⟩ | refine ⟨cdiv_v (by omega) (by omega), ?_⟩ | refine ⟨cdiv_c (by decide) (by decide), ?_⟩ | refine ⟨(by decide), ?_⟩ | refine ⟨Nat.le_of_ble_eq_true rfl, ?_⟩ | refine ⟨⟨by decide, by decide, by decide⟩, ?_⟩); (conv => whnf))))
      exact k (.set r v1) S1 ⟨hr, a1, b1⟩ trivial hS1 k1
    case inr.inl =>
      ((conv => whnf); (repeat ((first | refine ⟨(by show (0 : Int) < _; first | decide | omega), ?_⟩ | refine ⟨cmul_r (by decide) (by decide), ?_⟩ | refine ⟨cmul_l (by decide) (by decide), ?_⟩ | refine ⟨cmul_l (by omega) (by omega), ?_⟩ | refine ⟨cdiv_v (by omega) (by omega), ?_⟩ | refine ⟨cdiv_c (by decide) (by decide), ?_⟩ | refine ⟨(by decide), ?_⟩ | refine ⟨Nat.le_of_ble_eq_true rfl, ?_⟩ | refine ⟨⟨by decide, by decide, by decide⟩, ?_⟩); (conv => whnf))))
      exact k (.move r s) S0 ⟨hr, hs⟩ trivial hS0 k0
    all_goals first
      | (((conv => whnf); (repeat ((first | refine ⟨(by show (0 : Int) < _; first | decide | omega), ?_⟩ | refine ⟨cmul_r (by decide) (by decide), ?_⟩ | refine ⟨cmul_l (by decide) (by decide), ?_⟩ | refine ⟨cmul_l (by omega) (by omega), ?_⟩ | refine ⟨cdiv_v (by omega) (by omega), ?_⟩ | refine ⟨cdiv_c (by decide) (by decide), ?_⟩ | refine ⟨(by decide), ?_⟩ | refine ⟨Nat.le_of_ble_eq_true rfl, ?_⟩ | refine ⟨⟨by decide, by decide, by decide⟩, ?_⟩); (conv => whnf)))); exact k (.ar _ r s t) S0 ⟨by decide, hr, hs, ht⟩ trivial hS0 k0)
      | (((conv => whnf); (repeat ((first | refine ⟨(by show (0 : Int) < _; first | decide | omega), ?_⟩ | refine ⟨cmul_r (by decide) (by decide), ?_⟩ | refine ⟨cmul_l (by decide) (by decide), ?_⟩ | refine ⟨cmul_l (by omega) (by omega), ?_⟩ | refine ⟨cdiv_v (by omega) (by omega), ?_⟩ | refine ⟨cdiv_c (by decide) (by decide), ?_⟩ | refine ⟨(by decide), ?_⟩ | refine ⟨Nat.le_of_ble_eq_true rfl, ?_⟩ | refine ⟨⟨by decide, by decide, by decide⟩, ?_⟩); (conv => whnf)))); exact k (.carry r) S0 hr trivial hS0 k0)
      | (((conv => whnf); (repeat ((first | refine ⟨(by show (0 : Int) < _; first | decide | omega), ?_⟩ | refine ⟨cmul_r (by decide) (by decide), ?_⟩ | refine ⟨cmul_l (by decide) (by decide), ?_⟩ | refine ⟨cmul_l (by omega) (by omega), ?_⟩ | refine ⟨cdiv_v (by omega) (by omega), ?_⟩ | refine ⟨cdiv_c (by decide) (by decide), ?_⟩ | refine ⟨(by decide), ?_⟩ | refine ⟨Nat.le_of_ble_eq_true rfl, ?_⟩ | refine ⟨⟨by decide, by decide, by decide⟩, ?_⟩); (conv => whnf)))); exact k .clear S0 trivial trivial hS0 k0)
      | skip
    all_goals ((conv => whnf); (repeat ((first | refine ⟨(by show (0 : Int) < _; first | decide | omega), ?_⟩ | refine ⟨cmul_r (by decide) (by decide), ?_⟩ | refine ⟨cmul_l (by decide) (by decide), ?_⟩ | refine ⟨cmul_l (by omega) (by omega), ?_⟩ | refine ⟨cdiv_v (by omega) (by omega), ?_⟩ | refine ⟨cdiv_c (by decide) (by decide), ?_⟩ | refine ⟨(by decide), ?_⟩ | refine ⟨Nat.le_of_ble_eq_true rfl, ?_⟩ | refine ⟨⟨by decide, by decide, by decide⟩, ?_⟩); (conv => whnf))))
    · refine p_draw hS0 (by decide) (by decide) fun v1 S1 a1 b1 hS1 kk1 => ?_
      have k1 := k0.trans kk1
      ((conv => whnf); (repeat ((first | refine ⟨(by show (0 : Int) < _; first | decide | omega), ?_⟩ | refine ⟨cmul_r (by decide) (by decide), ?_⟩ | refine ⟨cmul_l (by decide) (by decide), ?_⟩ | refine ⟨cmul_l (by omega) (by omega), ?_⟩ | refine ⟨cdiv_v (by omega) (by omega), ?_⟩ | refine ⟨cdiv_c (by decide) (by decide), ?_⟩ | refine ⟨(by decide), ?_⟩ | refine ⟨Nat.le_of_ble_eq_true rfl, ?_⟩ | refine ⟨⟨by decide, by decide, by decide⟩, ?_⟩); (conv => whnf))))
      exact k (.sh "down" r s v1) S1 ⟨.inl rfl, hr, hs, a1, b1⟩ trivial hS1 k1
    · refine p_draw hS0 (by decide) (by decide) fun v1 S1 a1 b1 hS1 kk1 => ?_
      have k1 := k0.trans kk1
      ((conv => whnf); (repeat ((first | refine ⟨(by show (0 : Int) < _; first | decide | omega), ?_⟩ | refine ⟨cmul_r (by decide) (by decide), ?_⟩ | refine ⟨cmul_l (by decide) (by decide), ?_⟩ | refine ⟨cmul_l (by omega) (by omega), ?_⟩ | refine ⟨cdiv_v (by omega) (by omega), ?_⟩ | refine ⟨cdiv_c (by decide) (by decide), ?_⟩ | refine ⟨(by decide), ?_⟩ | refine ⟨Nat.le_of_ble_eq_true rfl, ?_⟩ | refine ⟨⟨by decide, by decide, by decide⟩, ?_⟩); (conv => whnf))))
      exact k (.sh "up" r s v1) S1 ⟨.inr rfl, hr, hs, a1, b1⟩ trivial hS1 k1
    · refine p_draw hS0 (by omega) (by omega) fun v1 S1 a1 b1 hS1 kk1 => ?_
      exact k (.load r s v1) S1 ⟨hr, hs, a1⟩ trivial hS1 (k0.trans kk1)
    · refine p_draw hS0 (by omega) (by omega) fun v1 S1 a1 b1 hS1 kk1 => ?_
      exact k (.store r s v1) S1 ⟨hr, hs, a1⟩ trivial hS1 (k0.trans kk1)
  rw [eq_law_instruction]
  ((conv => whnf); (repeat ((first | refine ⟨(by show (0 : Int) < _; first | decide | omega), ?_⟩ | refine ⟨cmul_r (by decide) (by decide), ?_⟩ | refine ⟨cmul_l (by decide) (by decide), ?_⟩ | refine ⟨cmul_l (by omega) (by omega), ?_⟩ | refine ⟨cdiv_v (by omega) (by omega), ?_⟩ | refine ⟨cdiv_c (by decide) (by decide), ?_⟩ | refine ⟨(by decide), ?_⟩ | refine ⟨Nat.le_of_ble_eq_true rfl, ?_⟩ | refine ⟨⟨by decide, by decide, by decide⟩, ?_⟩); (conv => whnf))))
  rw [look_of (get_old _ _ _), look_of (get_new _ _)]
  conv => whnf
  refine ⟨Nat.le_of_ble_eq_true rfl, ?_⟩
  generalize hX : S ++ [Ob.lst _] ++ [Ob.lst _] = X
  have kX : ∀ Z : Nat → Prop, Kp Z S X := fun Z => by rw [← hX]; exact Kp.app.trans .app
  have lX := (kX fun _ => False).len
  generalize hY : X ++ [Ob.lst _] = Y
  have e0 : Y[X.length]? = some _ := (congrArg (fun s : Sto => s[X.length]?) hY.symm).trans (get_new X _)
  have kY : ∀ Z : Nat → Prop, Kp Z S Y := fun Z => (kX Z).trans (by rw [← hY]; exact .app)
  have hS0 : Src Y p := hS.keep (kY fun _ => False) id
  have k0 : Kp (· = p) S Y := kY _
  ((conv => whnf); (repeat ((first | refine ⟨(by show (0 : Int) < _; first | decide | omega), ?_⟩ | refine ⟨cmul_r (by decide) (by decide), ?_⟩ | refine ⟨cmul_l (by decide) (by decide), ?_⟩ | refine ⟨cmul_l (by omega) (by omega), ?_⟩ | refine ⟨cdiv_v (by omega) (by omega), ?_⟩ | refine ⟨cdiv_c (by decide) (by decide), ?_⟩ | refine ⟨(by decide), ?_⟩ | refine ⟨Nat.le_of_ble_eq_true rfl, ?_⟩ | refine ⟨⟨by decide, by decide, by decide⟩, ?_⟩); (conv => whnf))))
  refine p_draw hS0 (by decide) (by decide) fun v1 S1 a1 b1 hS1 kk1 => ?_
  have k1 := k0.trans kk1
  ((conv => whnf); (repeat ((first | refine ⟨(by show (0 : Int) < _; first | decide | omega), ?_⟩ | refine ⟨cmul_r (by decide) (by decide), ?_⟩ | refine ⟨cmul_l (by decide) (by decide), ?_⟩ | refine ⟨cmul_l (by omega) (by omega), ?_⟩ | refine ⟨cdiv_v (by omega) (by omega), ?_⟩ | refine ⟨cdiv_c (by decide) (by decide), ?_⟩ | refine ⟨(by decide), ?_⟩ | refine ⟨Nat.le_of_ble_eq_true rfl, ?_⟩ | refine ⟨⟨by decide, by decide, by decide⟩, ?_⟩); (conv => whnf))))
  have e1 := kk1.get (show ¬ X.length = p by omega) e0
  first | rw [look_of e1] | rw [seqD_ref e1]
  conv => whnf
  refine ix_all (fun d => ∃ n, d = .str n ∧ n ∈ insNames) ?_ a1 b1 ?_
  · intro d hd
    refine (show ∀ d ∈ (["set", "move", "add", "addc", "sub", "subc", "mul", "high", "div", "and", "or", "xor", "less", "downby", "down", "up", "carry", "clear", "load", "load", "load", "load", "store", "store", "store", "store"] : List Str).map D.str, ∃ n, d = .str n ∧ n ∈ insNames from fun d hd => ?_) d hd
    obtain ⟨n, hn, rfl⟩ := List.mem_map.mp hd
    refine ⟨n, rfl, ?_⟩
    clear hd
    revert n
    decide +kernel
  rintro _ ⟨n, rfl, hn⟩
  ((conv => whnf); (repeat ((first | refine ⟨(by show (0 : Int) < _; first | decide | omega), ?_⟩ | refine ⟨cmul_r (by decide) (by decide), ?_⟩ | refine ⟨cmul_l (by decide) (by decide), ?_⟩ | refine ⟨cmul_l (by omega) (by omega), ?_⟩ | refine ⟨cdiv_v (by omega) (by omega), ?_⟩ | refine ⟨cdiv_c (by decide) (by decide), ?_⟩ | refine ⟨(by decide), ?_⟩ | refine ⟨Nat.le_of_ble_eq_true rfl, ?_⟩ | refine ⟨⟨by decide, by decide, by decide⟩, ?_⟩); (conv => whnf))))
  refine p_draw hS1 (by decide) (by decide) fun v2 S2 a2 b2 hS2 kk2 => ?_
  have k2 := k1.trans kk2
  ((conv => whnf); (repeat ((first | refine ⟨(by show (0 : Int) < _; first | decide | omega), ?_⟩ | refine ⟨cmul_r (by decide) (by decide), ?_⟩ | refine ⟨cmul_l (by decide) (by decide), ?_⟩ | refine ⟨cmul_l (by omega) (by omega), ?_⟩ | refine ⟨cdiv_v (by omega) (by omega), ?_⟩ | refine ⟨cdiv_c (by decide) (by decide), ?_⟩ | refine ⟨(by decide), ?_⟩ | refine ⟨Nat.le_of_ble_eq_true rfl, ?_⟩ | refine ⟨⟨by decide, by decide, by decide⟩, ?_⟩); (conv => whnf))))
  refine p_draw hS2 (by decide) (by decide) fun v3 S3 a3 b3 hS3 kk3 => ?_
  have k3 := k2.trans kk3
  ((conv => whnf); (repeat ((first | refine ⟨(by show (0 : Int) < _; first | decide | omega), ?_⟩ | refine ⟨cmul_r (by decide) (by decide), ?_⟩ | refine ⟨cmul_l (by decide) (by decide), ?_⟩ | refine ⟨cmul_l (by omega) (by omega), ?_⟩ | refine ⟨cdiv_v (by omega) (by omega), ?_⟩ | refine ⟨cdiv_c (by decide) (by decide), ?_⟩ | refine ⟨(by decide), ?_⟩ | refine ⟨Nat.le_of_ble_eq_true rfl, ?_⟩ | refine ⟨⟨by decide, by decide, by decide⟩, ?_⟩); (conv => whnf))))
  refine p_draw hS3 (by decide) (by decide) fun v4 S4 a4 b4 hS4 kk4 => ?_
  have k4 := k3.trans kk4
  ((conv => whnf); (repeat ((first | refine ⟨(by show (0 : Int) < _; first | decide | omega), ?_⟩ | refine ⟨cmul_r (by decide) (by decide), ?_⟩ | refine ⟨cmul_l (by decide) (by decide), ?_⟩ | refine ⟨cmul_l (by omega) (by omega), ?_⟩ | refine ⟨cdiv_v (by omega) (by omega), ?_⟩ | refine ⟨cdiv_c (by decide) (by decide), ?_⟩ | refine ⟨(by decide), ?_⟩ | refine ⟨Nat.le_of_ble_eq_true rfl, ?_⟩ | refine ⟨⟨by decide, by decide, by decide⟩, ?_⟩); (conv => whnf))))
  refine p_draw hS4 (by decide) (by decide) fun v5 S5 a5 b5 hS5 kk5 => ?_
  have k5 := k4.trans kk5
  ((conv => whnf); (repeat ((first | refine ⟨(by show (0 : Int) < _; first | decide | omega), ?_⟩ | refine ⟨cmul_r (by decide) (by decide), ?_⟩ | refine ⟨cmul_l (by decide) (by decide), ?_⟩ | refine ⟨cmul_l (by omega) (by omega), ?_⟩ | refine ⟨cdiv_v (by omega) (by omega), ?_⟩ | refine ⟨cdiv_c (by decide) (by decide), ?_⟩ | refine ⟨(by decide), ?_⟩ | refine ⟨Nat.le_of_ble_eq_true rfl, ?_⟩ | refine ⟨⟨by decide, by decide, by decide⟩, ?_⟩); (conv => whnf))))
  have ht : ∀ j, atI [D.int v4, D.int v3] j = some (.int v4) ∨ atI [D.int v4, D.int v3] j = some (.int v3) → True := fun _ _ => trivial
  refine ix_int 0 15 ?_ ?_ ?_ fun t t0 t1' => ?_
  · intro d hd
    simp only [List.mem_cons, List.not_mem_nil, or_false] at hd
    rcases hd with rfl | rfl <;> exact ⟨_, rfl, by omega, by omega⟩
  · split <;> omega
  · show _ < ((2 : Nat) : Int)
    split <;> omega
  ((conv => whnf); (repeat ((first | refine ⟨(by show (0 : Int) < _; first | decide | omega), ?_⟩ | refine ⟨cmul_r (by decide) (by decide), ?_⟩ | refine ⟨cmul_l (by decide) (by decide), ?_⟩ | refine ⟨cmul_l (by omega) (by omega), ?_⟩ | refine ⟨cdiv_v (by omega) (by omega), ?_⟩ | refine ⟨cdiv_c (by decide) (by decide), ?_⟩ | refine ⟨(by decide), ?_⟩ | refine ⟨Nat.le_of_ble_eq_true rfl, ?_⟩ | refine ⟨⟨by decide, by decide, by decide⟩, ?_⟩); (conv => whnf))))
  refine p_draw hS5 (by decide) (by decide) fun v6 S6 a6 b6 hS6 kk6 => ?_
  have k6 := k5.trans kk6
  ((conv => whnf); (repeat ((first | refine ⟨(by show (0 : Int) < _; first | decide | omega), ?_⟩ | refine ⟨cmul_r (by decide) (by decide), ?_⟩ | refine ⟨cmul_l (by decide) (by decide), ?_⟩ | refine ⟨cmul_l (by omega) (by omega), ?_⟩ | refine ⟨cdiv_v (by omega) (by omega), ?_⟩ | refine ⟨cdiv_c (by decide) (by decide), ?_⟩ | refine ⟨(by decide), ?_⟩ | refine ⟨Nat.le_of_ble_eq_true rfl, ?_⟩ | refine ⟨⟨by decide, by decide, by decide⟩, ?_⟩); (conv => whnf))))
  first | refine bcase (fun c => ?_) (fun c => ?_) | refine bcase0 (fun c => ?_) (fun c => ?_) | refine bcase1 (fun c => ?_) (fun c => ?_)
  · ((conv => whnf); (repeat ((first | refine ⟨(by show (0 : Int) < _; first | decide | omega), ?_⟩ | refine ⟨cmul_r (by decide) (by decide), ?_⟩ | refine ⟨cmul_l (by decide) (by decide), ?_⟩ | refine ⟨cmul_l (by omega) (by omega), ?_⟩ | refine ⟨cdiv_v (by omega) (by omega), ?_⟩ | refine ⟨cdiv_c (by decide) (by decide), ?_⟩ | refine ⟨(by decide), ?_⟩ | refine ⟨Nat.le_of_ble_eq_true rfl, ?_⟩ | refine ⟨⟨by decide, by decide, by decide⟩, ?_⟩); (conv => whnf))))
    exact t1 n hn v2 v2 t _ S6 ⟨a2, b2⟩ ⟨a2, b2⟩ ⟨t0, by omega⟩ hS6 k6
  · ((conv => whnf); (repeat ((first | refine ⟨(by show (0 : Int) < _; first | decide | omega), ?_⟩ | refine ⟨cmul_r (by decide) (by decide), ?_⟩ | refine ⟨cmul_l (by decide) (by decide), ?_⟩ | refine ⟨cmul_l (by omega) (by omega), ?_⟩ | refine ⟨cdiv_v (by omega) (by omega), ?_⟩ | refine ⟨cdiv_c (by decide) (by decide), ?_⟩ | refine ⟨(by decide), ?_⟩ | refine ⟨Nat.le_of_ble_eq_true rfl, ?_⟩ | refine ⟨⟨by decide, by decide, by decide⟩, ?_⟩); (conv => whnf))))
    exact t1 n hn v2 v3 t _ S6 ⟨a2, b2⟩ ⟨a3, b3⟩ ⟨t0, by omega⟩ hS6 k6
theorem if_dec {p : Prop} {d1 d2 : Decidable p} : (if @decide p d1 = true then (1 : Int) else 0) = @ite _ p d2 1 0 := by
  by_cases h : p <;> simp [h]
theorem p_compute_ar {n : Str} {a b c : Int} {S : Sto} {q : DK} (hn : n ∈ ar12) (ha : wd a) (hb : wd b) (hc : c = 0 ∨ c = 1) (k : q (.ref S.length) (S ++ [two (compM n a b c)])) : wp_law_compute [.str n, .int a, .int b, .int c] S q := by
  obtain ⟨a0, a1⟩ := ha
  obtain ⟨b0, b1⟩ := hb
  unfold ar12 at hn
  simp only [List.mem_cons, List.not_mem_nil, or_false] at hn
  have e1 : c * (if (false ^^ decide (("add" : Str) = "addc")) = true then (1 : Int) else 0) = 0 := by
    rw [if_neg (by decide)]
    omega
  have e2 : c * (if (false ^^ decide (("addc" : Str) = "addc")) = true then (1 : Int) else 0) = c := by
    rw [if_pos (by decide)]
    omega
  have e3 : c * (if (false ^^ decide (("sub" : Str) = "subc")) = true then (1 : Int) else 0) = 0 := by
    rw [if_neg (by decide)]
    omega
  have e4 : c * (if (false ^^ decide (("subc" : Str) = "subc")) = true then (1 : Int) else 0) = c := by
    rw [if_pos (by decide)]
    omega
  rw [eq_law_compute]
  rcases hn with rfl | rfl | rfl | rfl | rfl | rfl | rfl | rfl | rfl | rfl | rfl | rfl
  · ((conv => whnf); (repeat ((first | refine ⟨(by show (0 : Int) < _; first | decide | omega), ?_⟩ | refine ⟨cmul_r (by decide) (by decide), ?_⟩ | refine ⟨cmul_l (by decide) (by decide), ?_⟩ | refine ⟨cmul_l (by omega) (by omega), ?_⟩ | refine ⟨cdiv_v (by omega) (by omega), ?_⟩ | refine ⟨cdiv_c (by decide) (by decide), ?_⟩ | refine ⟨(by decide), ?_⟩ | refine ⟨Nat.le_of_ble_eq_true rfl, ?_⟩ | refine ⟨⟨by decide, by decide, by decide⟩, ?_⟩); (conv => whnf))))
    rw [e1, Int.add_zero]
    exact k
  · ((conv => whnf); (repeat ((first | refine ⟨(by show (0 : Int) < _; first | decide | omega), ?_⟩ | refine ⟨cmul_r (by decide) (by decide), ?_⟩ | refine ⟨cmul_l (by decide) (by decide), ?_⟩ | refine ⟨cmul_l (by omega) (by omega), ?_⟩ | refine ⟨cdiv_v (by omega) (by omega), ?_⟩ | refine ⟨cdiv_c (by decide) (by decide), ?_⟩ | refine ⟨(by decide), ?_⟩ | refine ⟨Nat.le_of_ble_eq_true rfl, ?_⟩ | refine ⟨⟨by decide, by decide, by decide⟩, ?_⟩); (conv => whnf))))
    rw [e2]
    exact k
  · ((conv => whnf); (repeat ((first | refine ⟨(by show (0 : Int) < _; first | decide | omega), ?_⟩ | refine ⟨cmul_r (by decide) (by decide), ?_⟩ | refine ⟨cmul_l (by decide) (by decide), ?_⟩ | refine ⟨cmul_l (by omega) (by omega), ?_⟩ | refine ⟨cdiv_v (by omega) (by omega), ?_⟩ | refine ⟨cdiv_c (by decide) (by decide), ?_⟩ | refine ⟨(by decide), ?_⟩ | refine ⟨Nat.le_of_ble_eq_true rfl, ?_⟩ | refine ⟨⟨by decide, by decide, by decide⟩, ?_⟩); (conv => whnf))))
    rw [e3, Int.sub_zero, if_dec]
    exact k
  · ((conv => whnf); (repeat ((first | refine ⟨(by show (0 : Int) < _; first | decide | omega), ?_⟩ | refine ⟨cmul_r (by decide) (by decide), ?_⟩ | refine ⟨cmul_l (by decide) (by decide), ?_⟩ | refine ⟨cmul_l (by omega) (by omega), ?_⟩ | refine ⟨cdiv_v (by omega) (by omega), ?_⟩ | refine ⟨cdiv_c (by decide) (by decide), ?_⟩ | refine ⟨(by decide), ?_⟩ | refine ⟨Nat.le_of_ble_eq_true rfl, ?_⟩ | refine ⟨⟨by decide, by decide, by decide⟩, ?_⟩); (conv => whnf))))
    rw [e4, if_dec]
    exact k
  · ((conv => whnf); (repeat ((first | refine ⟨(by show (0 : Int) < _; first | decide | omega), ?_⟩ | refine ⟨cmul_r (by decide) (by decide), ?_⟩ | refine ⟨cmul_l (by decide) (by decide), ?_⟩ | refine ⟨cmul_l (by omega) (by omega), ?_⟩ | refine ⟨cdiv_v (by omega) (by omega), ?_⟩ | refine ⟨cdiv_c (by decide) (by decide), ?_⟩ | refine ⟨(by decide), ?_⟩ | refine ⟨Nat.le_of_ble_eq_true rfl, ?_⟩ | refine ⟨⟨by decide, by decide, by decide⟩, ?_⟩); (conv => whnf))))
    exact k
  · ((conv => whnf); (repeat ((first | refine ⟨(by show (0 : Int) < _; first | decide | omega), ?_⟩ | refine ⟨cmul_r (by decide) (by decide), ?_⟩ | refine ⟨cmul_l (by decide) (by decide), ?_⟩ | refine ⟨cmul_l (by omega) (by omega), ?_⟩ | refine ⟨cdiv_v (by omega) (by omega), ?_⟩ | refine ⟨cdiv_c (by decide) (by decide), ?_⟩ | refine ⟨(by decide), ?_⟩ | refine ⟨Nat.le_of_ble_eq_true rfl, ?_⟩ | refine ⟨⟨by decide, by decide, by decide⟩, ?_⟩); (conv => whnf))))
    exact k
  · have k : q (.ref S.length) (S ++ [two (if b = 0 then 65535 else a / b, c)]) := k
    ((conv => whnf); (repeat ((first | refine ⟨(by show (0 : Int) < _; first | decide | omega), ?_⟩ | refine ⟨cmul_r (by decide) (by decide), ?_⟩ | refine ⟨cmul_l (by decide) (by decide), ?_⟩ | refine ⟨cmul_l (by omega) (by omega), ?_⟩ | refine ⟨cdiv_v (by omega) (by omega), ?_⟩ | refine ⟨cdiv_c (by decide) (by decide), ?_⟩ | refine ⟨(by decide), ?_⟩ | refine ⟨Nat.le_of_ble_eq_true rfl, ?_⟩ | refine ⟨⟨by decide, by decide, by decide⟩, ?_⟩); (conv => whnf))))
    first | refine bcase (fun z => ?_) (fun z => ?_) | refine bcase0 (fun z => ?_) (fun z => ?_) | refine bcase1 (fun z => ?_) (fun z => ?_)
    · rw [if_pos z] at k
      exact k
    · rw [if_neg z] at k
      ((conv => whnf); (repeat ((first | refine ⟨(by show (0 : Int) < _; first | decide | omega), ?_⟩ | refine ⟨cmul_r (by decide) (by decide), ?_⟩ | refine ⟨cmul_l (by decide) (by decide), ?_⟩ | refine ⟨cmul_l (by omega) (by omega), ?_⟩ | refine ⟨cdiv_v (by omega) (by omega), ?_⟩ | refine ⟨cdiv_c (by decide) (by decide), ?_⟩ | refine ⟨(by decide), ?_⟩ | refine ⟨Nat.le_of_ble_eq_true rfl, ?_⟩ | refine ⟨⟨by decide, by decide, by decide⟩, ?_⟩); (conv => whnf))))
      exact k
  · ((conv => whnf); (repeat ((first | refine ⟨(by show (0 : Int) < _; first | decide | omega), ?_⟩ | refine ⟨cmul_r (by decide) (by decide), ?_⟩ | refine ⟨cmul_l (by decide) (by decide), ?_⟩ | refine ⟨cmul_l (by omega) (by omega), ?_⟩ | refine ⟨cdiv_v (by omega) (by omega), ?_⟩ | refine ⟨cdiv_c (by decide) (by decide), ?_⟩ | refine ⟨(by decide), ?_⟩ | refine ⟨Nat.le_of_ble_eq_true rfl, ?_⟩ | refine ⟨⟨by decide, by decide, by decide⟩, ?_⟩); (conv => whnf))))
    exact k
  · ((conv => whnf); (repeat ((first | refine ⟨(by show (0 : Int) < _; first | decide | omega), ?_⟩ | refine ⟨cmul_r (by decide) (by decide), ?_⟩ | refine ⟨cmul_l (by decide) (by decide), ?_⟩ | refine ⟨cmul_l (by omega) (by omega), ?_⟩ | refine ⟨cdiv_v (by omega) (by omega), ?_⟩ | refine ⟨cdiv_c (by decide) (by decide), ?_⟩ | refine ⟨(by decide), ?_⟩ | refine ⟨Nat.le_of_ble_eq_true rfl, ?_⟩ | refine ⟨⟨by decide, by decide, by decide⟩, ?_⟩); (conv => whnf))))
    exact k
  · ((conv => whnf); (repeat ((first | refine ⟨(by show (0 : Int) < _; first | decide | omega), ?_⟩ | refine ⟨cmul_r (by decide) (by decide), ?_⟩ | refine ⟨cmul_l (by decide) (by decide), ?_⟩ | refine ⟨cmul_l (by omega) (by omega), ?_⟩ | refine ⟨cdiv_v (by omega) (by omega), ?_⟩ | refine ⟨cdiv_c (by decide) (by decide), ?_⟩ | refine ⟨(by decide), ?_⟩ | refine ⟨Nat.le_of_ble_eq_true rfl, ?_⟩ | refine ⟨⟨by decide, by decide, by decide⟩, ?_⟩); (conv => whnf))))
    exact k
  · ((conv => whnf); (repeat ((first | refine ⟨(by show (0 : Int) < _; first | decide | omega), ?_⟩ | refine ⟨cmul_r (by decide) (by decide), ?_⟩ | refine ⟨cmul_l (by decide) (by decide), ?_⟩ | refine ⟨cmul_l (by omega) (by omega), ?_⟩ | refine ⟨cdiv_v (by omega) (by omega), ?_⟩ | refine ⟨cdiv_c (by decide) (by decide), ?_⟩ | refine ⟨(by decide), ?_⟩ | refine ⟨Nat.le_of_ble_eq_true rfl, ?_⟩ | refine ⟨⟨by decide, by decide, by decide⟩, ?_⟩); (conv => whnf))))
    rw [if_dec]
    exact k
  · ((conv => whnf); (repeat ((first | refine ⟨(by show (0 : Int) < _; first | decide | omega), ?_⟩ | refine ⟨cmul_r (by decide) (by decide), ?_⟩ | refine ⟨cmul_l (by decide) (by decide), ?_⟩ | refine ⟨cmul_l (by omega) (by omega), ?_⟩ | refine ⟨cdiv_v (by omega) (by omega), ?_⟩ | refine ⟨cdiv_c (by decide) (by decide), ?_⟩ | refine ⟨(by decide), ?_⟩ | refine ⟨Nat.le_of_ble_eq_true rfl, ?_⟩ | refine ⟨⟨by decide, by decide, by decide⟩, ?_⟩); (conv => whnf))))
    refine ⟨by show 0 ≤ b % 16; omega, ?_⟩
    exact k
theorem p_compute_sh {n : Str} {a b c : Int} {S : Sto} {q : DK} (hn : n = "down" ∨ n = "up") (ha : wd a) (hb : rg b) (k : q (.ref S.length) (S ++ [two (compM n a b c)])) : wp_law_compute [.str n, .int a, .int b, .int c] S q := by
  obtain ⟨a0, a1⟩ := ha
  obtain ⟨b0, b1⟩ := hb
  rw [eq_law_compute]
  rcases hn with rfl | rfl
  · ((conv => whnf); (repeat ((first | refine ⟨(by show (0 : Int) < _; first | decide | omega), ?_⟩ | refine ⟨cmul_r (by decide) (by decide), ?_⟩ | refine ⟨cmul_l (by decide) (by decide), ?_⟩ | refine ⟨cmul_l (by omega) (by omega), ?_⟩ | refine ⟨cdiv_v (by omega) (by omega), ?_⟩ | refine ⟨cdiv_c (by decide) (by decide), ?_⟩ | refine ⟨(by decide), ?_⟩ | refine ⟨Nat.le_of_ble_eq_true rfl, ?_⟩ | refine ⟨⟨by decide, by decide, by decide⟩, ?_⟩); (conv => whnf))))
    refine ⟨by show 0 ≤ b % 16; omega, ?_⟩
    exact k
  · ((conv => whnf); (repeat ((first | refine ⟨(by show (0 : Int) < _; first | decide | omega), ?_⟩ | refine ⟨cmul_r (by decide) (by decide), ?_⟩ | refine ⟨cmul_l (by decide) (by decide), ?_⟩ | refine ⟨cmul_l (by omega) (by omega), ?_⟩ | refine ⟨cdiv_v (by omega) (by omega), ?_⟩ | refine ⟨cdiv_c (by decide) (by decide), ?_⟩ | refine ⟨(by decide), ?_⟩ | refine ⟨Nat.le_of_ble_eq_true rfl, ?_⟩ | refine ⟨⟨by decide, by decide, by decide⟩, ?_⟩); (conv => whnf))))
    refine ⟨cshl a0 a1 b0 (by omega), ?_⟩
    ((conv => whnf); (repeat ((first | refine ⟨(by show (0 : Int) < _; first | decide | omega), ?_⟩ | refine ⟨cmul_r (by decide) (by decide), ?_⟩ | refine ⟨cmul_l (by decide) (by decide), ?_⟩ | refine ⟨cmul_l (by omega) (by omega), ?_⟩ | refine ⟨cdiv_v (by omega) (by omega), ?_⟩ | refine ⟨cdiv_c (by decide) (by decide), ?_⟩ | refine ⟨(by decide), ?_⟩ | refine ⟨Nat.le_of_ble_eq_true rfl, ?_⟩ | refine ⟨⟨by decide, by decide, by decide⟩, ?_⟩); (conv => whnf))))
    exact k
def atW (W : List Int) (r : Int) : Int := W.getD r.toNat 0
/-- one instruction done: the carry, the words, the memory behind it -/
def doneM (gs : List Rg) (W M : List Int) (c : Int) : Ins → Option (Int × List Int × List Int)
  | .clear => some (0, W, M)
  | .set r w => some (c, W.set r.toNat w, M)
  | .move r s => some (c, W.set r.toNat (atW W s), M)
  | .carry r => some (c, W.set r.toNat c, M)
  | .load r s d => match atM gs (atW W s + d) with
    | none => none
    | some _ => some (c, W.set r.toNat (atW M (atW W s + d)), M)
  | .store r s d => match atM gs (atW W s + d) with
    | none => none
    | some g => if g.most < atW W r then none else some (c, W, M.set (atW W s + d).toNat (atW W r))
  | .sh n r s k => some ((compM n (atW W s) k c).2, W.set r.toNat (compM n (atW W s) k c).1, M)
  | .ar n r s t => some ((compM n (atW W s) (atW W t) c).2, W.set r.toNat (compM n (atW W s) (atW W t) c).1, M)
  | .other _ _ => none
theorem atW_at {W : List Int} {r : Int} (h0 : 0 ≤ r) (h1 : r < W.length) : atI (W.map D.int) r = some (.int (atW W r)) := by
  refine ints_at h0 ?_
  unfold atW
  rw [List.getD_eq_getElem?_getD, List.getElem?_eq_getElem (by omega)]
  rfl
theorem atW_get {W : List Int} {r : Int} (h0 : 0 ≤ r) (h1 : r < W.length) : W[r.toNat]? = some (atW W r) := by
  unfold atW
  rw [List.getD_eq_getElem?_getD, List.getElem?_eq_getElem (by omega)]
  rfl
theorem p_done {gs : List Rg} {i : Ins} {W M : List Int} {c : Int} {lw lm N : Nat} {S : Sto} {q : DK} (ok : LayOk gs) (hN : ∀ g ∈ gs, g.start + g.size ≤ N) (hi : i.ok) (ho : notOther i) (lW : W.length = 16) (lM : M.length = N) (hw : ∀ w ∈ W, wd w) (hm : ∀ x ∈ M, wd x) (hc : c = 0 ∨ c = 1) (ne : lw ≠ lm)
    (eW : S[lw]? = some (.lst (W.map D.int))) (eM : S[lm]? = some (.lst (M.map D.int))) (kf : doneM gs W M c i = none → q (.int (-1)) S)
    (k : ∀ c' W' M' S', doneM gs W M c i = some (c', W', M') → Kp (fun n => n = lw ∨ n = lm) S S' → S'[lw]? = some (.lst (W'.map D.int)) → S'[lm]? = some (.lst (M'.map D.int)) → q (.int c') S') : wp_law_done [dLay gs, i.d, .ref lw, .ref lm, .int c] S q := by
  have ixr : ∀ r, rg r → ixN (W.map D.int).length r = some r.toNat := fun r hr => by
    unfold ixN
    rw [List.length_map, lW, if_pos hr.1, if_pos (show r < ((16 : Nat) : Int) from hr.2)]
  have at_ : ∀ r, rg r → atI (W.map D.int) r = some (.int (atW W r)) := fun r hr => atW_at hr.1 (by rw [lW]; exact hr.2)
  have wW : ∀ r, rg r → wd (atW W r) := fun r hr => hw _ (List.mem_of_getElem? (atW_get hr.1 (by rw [lW]; exact hr.2)))
  have setW : ∀ (r v c' : Int) (S0 : Sto), rg r → Kp (fun n => n = lw ∨ n = lm) S S0 → S0[lw]? = some (.lst (W.map D.int)) → S0[lm]? = some (.lst (M.map D.int)) → doneM gs W M c i = some (c', W.set r.toNat v, M) → q (.int c') (S0.set lw (.lst ((W.map D.int).set r.toNat (.int v)))) := fun r v c' S0 hr k0 e1 e2 hd => by
    refine k c' _ _ _ hd (k0.trans (.set (.inl rfl))) ?_ ((Kp.set (X := (· = lw)) rfl).get (fun z => ne z.symm) e2)
    rw [get_set e1, List.map_set]
  rw [eq_law_done]
  cases i with
  | clear => exact k 0 W M S rfl .rfl eW eM
  | set r w =>
    ((conv => whnf); (repeat ((first | refine ⟨(by show (0 : Int) < _; first | decide | omega), ?_⟩ | refine ⟨cmul_r (by decide) (by decide), ?_⟩ | refine ⟨cmul_l (by decide) (by decide), ?_⟩ | refine ⟨cmul_l (by omega) (by omega), ?_⟩ | refine ⟨cdiv_v (by omega) (by omega), ?_⟩ | refine ⟨cdiv_c (by decide) (by decide), ?_⟩ | refine ⟨(by decide), ?_⟩ | refine ⟨Nat.le_of_ble_eq_true rfl, ?_⟩ | refine ⟨⟨by decide, by decide, by decide⟩, ?_⟩); (conv => whnf))))
    rw [look_of eW]
    conv => whnf
    rw [ixr r hi.1]
    conv => whnf
    rw [eqc_law_done_2]
    ((conv => whnf); (repeat ((first | refine ⟨(by show (0 : Int) < _; first | decide | omega), ?_⟩ | refine ⟨cmul_r (by decide) (by decide), ?_⟩ | refine ⟨cmul_l (by decide) (by decide), ?_⟩ | refine ⟨cmul_l (by omega) (by omega), ?_⟩ | refine ⟨cdiv_v (by omega) (by omega), ?_⟩ | refine ⟨cdiv_c (by decide) (by decide), ?_⟩ | refine ⟨(by decide), ?_⟩ | refine ⟨Nat.le_of_ble_eq_true rfl, ?_⟩ | refine ⟨⟨by decide, by decide, by decide⟩, ?_⟩); (conv => whnf))))
    exact setW r w c S hi.1 .rfl eW eM rfl
  | move r s =>
    ((conv => whnf); (repeat ((first | refine ⟨(by show (0 : Int) < _; first | decide | omega), ?_⟩ | refine ⟨cmul_r (by decide) (by decide), ?_⟩ | refine ⟨cmul_l (by decide) (by decide), ?_⟩ | refine ⟨cmul_l (by omega) (by omega), ?_⟩ | refine ⟨cdiv_v (by omega) (by omega), ?_⟩ | refine ⟨cdiv_c (by decide) (by decide), ?_⟩ | refine ⟨(by decide), ?_⟩ | refine ⟨Nat.le_of_ble_eq_true rfl, ?_⟩ | refine ⟨⟨by decide, by decide, by decide⟩, ?_⟩); (conv => whnf))))
    rw [seqD_ref eW]
    ((conv => whnf); (repeat ((first | refine ⟨(by show (0 : Int) < _; first | decide | omega), ?_⟩ | refine ⟨cmul_r (by decide) (by decide), ?_⟩ | refine ⟨cmul_l (by decide) (by decide), ?_⟩ | refine ⟨cmul_l (by omega) (by omega), ?_⟩ | refine ⟨cdiv_v (by omega) (by omega), ?_⟩ | refine ⟨cdiv_c (by decide) (by decide), ?_⟩ | refine ⟨(by decide), ?_⟩ | refine ⟨Nat.le_of_ble_eq_true rfl, ?_⟩ | refine ⟨⟨by decide, by decide, by decide⟩, ?_⟩); (conv => whnf))))
    rw [at_ s hi.2]
    ((conv => whnf); (repeat ((first | refine ⟨(by show (0 : Int) < _; first | decide | omega), ?_⟩ | refine ⟨cmul_r (by decide) (by decide), ?_⟩ | refine ⟨cmul_l (by decide) (by decide), ?_⟩ | refine ⟨cmul_l (by omega) (by omega), ?_⟩ | refine ⟨cdiv_v (by omega) (by omega), ?_⟩ | refine ⟨cdiv_c (by decide) (by decide), ?_⟩ | refine ⟨(by decide), ?_⟩ | refine ⟨Nat.le_of_ble_eq_true rfl, ?_⟩ | refine ⟨⟨by decide, by decide, by decide⟩, ?_⟩); (conv => whnf))))
    rw [look_of eW]
    conv => whnf
    rw [ixr r hi.1]
    conv => whnf
    rw [eqc_law_done_2]
    ((conv => whnf); (repeat ((first | refine ⟨(by show (0 : Int) < _; first | decide | omega), ?_⟩ | refine ⟨cmul_r (by decide) (by decide), ?_⟩ | refine ⟨cmul_l (by decide) (by decide), ?_⟩ | refine ⟨cmul_l (by omega) (by omega), ?_⟩ | refine ⟨cdiv_v (by omega) (by omega), ?_⟩ | refine ⟨cdiv_c (by decide) (by decide), ?_⟩ | refine ⟨(by decide), ?_⟩ | refine ⟨Nat.le_of_ble_eq_true rfl, ?_⟩ | refine ⟨⟨by decide, by decide, by decide⟩, ?_⟩); (conv => whnf))))
    exact setW r _ c S hi.1 .rfl eW eM rfl
  | carry r =>
    ((conv => whnf); (repeat ((first | refine ⟨(by show (0 : Int) < _; first | decide | omega), ?_⟩ | refine ⟨cmul_r (by decide) (by decide), ?_⟩ | refine ⟨cmul_l (by decide) (by decide), ?_⟩ | refine ⟨cmul_l (by omega) (by omega), ?_⟩ | refine ⟨cdiv_v (by omega) (by omega), ?_⟩ | refine ⟨cdiv_c (by decide) (by decide), ?_⟩ | refine ⟨(by decide), ?_⟩ | refine ⟨Nat.le_of_ble_eq_true rfl, ?_⟩ | refine ⟨⟨by decide, by decide, by decide⟩, ?_⟩); (conv => whnf))))
    rw [look_of eW]
    conv => whnf
    rw [ixr r hi]
    conv => whnf
    rw [eqc_law_done_2]
    ((conv => whnf); (repeat ((first | refine ⟨(by show (0 : Int) < _; first | decide | omega), ?_⟩ | refine ⟨cmul_r (by decide) (by decide), ?_⟩ | refine ⟨cmul_l (by decide) (by decide), ?_⟩ | refine ⟨cmul_l (by omega) (by omega), ?_⟩ | refine ⟨cdiv_v (by omega) (by omega), ?_⟩ | refine ⟨cdiv_c (by decide) (by decide), ?_⟩ | refine ⟨(by decide), ?_⟩ | refine ⟨Nat.le_of_ble_eq_true rfl, ?_⟩ | refine ⟨⟨by decide, by decide, by decide⟩, ?_⟩); (conv => whnf))))
    exact setW r _ c S hi .rfl eW eM rfl
  | load r s d =>
    obtain ⟨hr, hs, d0⟩ := hi
    have ws := wW s hs
    ((conv => whnf); (repeat ((first | refine ⟨(by show (0 : Int) < _; first | decide | omega), ?_⟩ | refine ⟨cmul_r (by decide) (by decide), ?_⟩ | refine ⟨cmul_l (by decide) (by decide), ?_⟩ | refine ⟨cmul_l (by omega) (by omega), ?_⟩ | refine ⟨cdiv_v (by omega) (by omega), ?_⟩ | refine ⟨cdiv_c (by decide) (by decide), ?_⟩ | refine ⟨(by decide), ?_⟩ | refine ⟨Nat.le_of_ble_eq_true rfl, ?_⟩ | refine ⟨⟨by decide, by decide, by decide⟩, ?_⟩); (conv => whnf))))
    rw [seqD_ref eW]
    ((conv => whnf); (repeat ((first | refine ⟨(by show (0 : Int) < _; first | decide | omega), ?_⟩ | refine ⟨cmul_r (by decide) (by decide), ?_⟩ | refine ⟨cmul_l (by decide) (by decide), ?_⟩ | refine ⟨cmul_l (by omega) (by omega), ?_⟩ | refine ⟨cdiv_v (by omega) (by omega), ?_⟩ | refine ⟨cdiv_c (by decide) (by decide), ?_⟩ | refine ⟨(by decide), ?_⟩ | refine ⟨Nat.le_of_ble_eq_true rfl, ?_⟩ | refine ⟨⟨by decide, by decide, by decide⟩, ?_⟩); (conv => whnf))))
    rw [at_ s hs]
    ((conv => whnf); (repeat ((first | refine ⟨(by show (0 : Int) < _; first | decide | omega), ?_⟩ | refine ⟨cmul_r (by decide) (by decide), ?_⟩ | refine ⟨cmul_l (by decide) (by decide), ?_⟩ | refine ⟨cmul_l (by omega) (by omega), ?_⟩ | refine ⟨cdiv_v (by omega) (by omega), ?_⟩ | refine ⟨cdiv_c (by decide) (by decide), ?_⟩ | refine ⟨(by decide), ?_⟩ | refine ⟨Nat.le_of_ble_eq_true rfl, ?_⟩ | refine ⟨⟨by decide, by decide, by decide⟩, ?_⟩); (conv => whnf))))
    refine p_most ?_
    cases e : atM gs (atW W s + d) with
    | none => exact kf (by show (match atM gs (atW W s + d) with | none => none | some _ => _) = none; rw [e])
    | some g =>
      obtain ⟨hg, h1, h2⟩ := atM_some e
      have n1 := hN g hg
      have m0 := (ok.most g hg).1
      have e2 : atI (M.map D.int) (atW W s + d) = some (.int (atW M (atW W s + d))) := atW_at (by have := (ok.sized g hg).2; omega) (by omega)
      ((conv => whnf); (repeat ((first | refine ⟨(by show (0 : Int) < _; first | decide | omega), ?_⟩ | refine ⟨cmul_r (by decide) (by decide), ?_⟩ | refine ⟨cmul_l (by decide) (by decide), ?_⟩ | refine ⟨cmul_l (by omega) (by omega), ?_⟩ | refine ⟨cdiv_v (by omega) (by omega), ?_⟩ | refine ⟨cdiv_c (by decide) (by decide), ?_⟩ | refine ⟨(by decide), ?_⟩ | refine ⟨Nat.le_of_ble_eq_true rfl, ?_⟩ | refine ⟨⟨by decide, by decide, by decide⟩, ?_⟩); (conv => whnf))))
      refine bfalse (decide_eq_false (show ¬ g.most < 0 by omega)) ?_
      ((conv => whnf); (repeat ((first | refine ⟨(by show (0 : Int) < _; first | decide | omega), ?_⟩ | refine ⟨cmul_r (by decide) (by decide), ?_⟩ | refine ⟨cmul_l (by decide) (by decide), ?_⟩ | refine ⟨cmul_l (by omega) (by omega), ?_⟩ | refine ⟨cdiv_v (by omega) (by omega), ?_⟩ | refine ⟨cdiv_c (by decide) (by decide), ?_⟩ | refine ⟨(by decide), ?_⟩ | refine ⟨Nat.le_of_ble_eq_true rfl, ?_⟩ | refine ⟨⟨by decide, by decide, by decide⟩, ?_⟩); (conv => whnf))))
      rw [seqD_ref eM]
      ((conv => whnf); (repeat ((first | refine ⟨(by show (0 : Int) < _; first | decide | omega), ?_⟩ | refine ⟨cmul_r (by decide) (by decide), ?_⟩ | refine ⟨cmul_l (by decide) (by decide), ?_⟩ | refine ⟨cmul_l (by omega) (by omega), ?_⟩ | refine ⟨cdiv_v (by omega) (by omega), ?_⟩ | refine ⟨cdiv_c (by decide) (by decide), ?_⟩ | refine ⟨(by decide), ?_⟩ | refine ⟨Nat.le_of_ble_eq_true rfl, ?_⟩ | refine ⟨⟨by decide, by decide, by decide⟩, ?_⟩); (conv => whnf))))
      rw [e2]
      ((conv => whnf); (repeat ((first | refine ⟨(by show (0 : Int) < _; first | decide | omega), ?_⟩ | refine ⟨cmul_r (by decide) (by decide), ?_⟩ | refine ⟨cmul_l (by decide) (by decide), ?_⟩ | refine ⟨cmul_l (by omega) (by omega), ?_⟩ | refine ⟨cdiv_v (by omega) (by omega), ?_⟩ | refine ⟨cdiv_c (by decide) (by decide), ?_⟩ | refine ⟨(by decide), ?_⟩ | refine ⟨Nat.le_of_ble_eq_true rfl, ?_⟩ | refine ⟨⟨by decide, by decide, by decide⟩, ?_⟩); (conv => whnf))))
      rw [look_of eW]
      conv => whnf
      rw [ixr r hr]
      conv => whnf
      rw [eqc_law_done_2]
      ((conv => whnf); (repeat ((first | refine ⟨(by show (0 : Int) < _; first | decide | omega), ?_⟩ | refine ⟨cmul_r (by decide) (by decide), ?_⟩ | refine ⟨cmul_l (by decide) (by decide), ?_⟩ | refine ⟨cmul_l (by omega) (by omega), ?_⟩ | refine ⟨cdiv_v (by omega) (by omega), ?_⟩ | refine ⟨cdiv_c (by decide) (by decide), ?_⟩ | refine ⟨(by decide), ?_⟩ | refine ⟨Nat.le_of_ble_eq_true rfl, ?_⟩ | refine ⟨⟨by decide, by decide, by decide⟩, ?_⟩); (conv => whnf))))
      exact setW r _ c S hr .rfl eW eM (by show (match atM gs (atW W s + d) with | none => none | some _ => _) = _; rw [e])
  | store r s d =>
    obtain ⟨hr, hs, d0⟩ := hi
    have ws := wW s hs
    ((conv => whnf); (repeat ((first | refine ⟨(by show (0 : Int) < _; first | decide | omega), ?_⟩ | refine ⟨cmul_r (by decide) (by decide), ?_⟩ | refine ⟨cmul_l (by decide) (by decide), ?_⟩ | refine ⟨cmul_l (by omega) (by omega), ?_⟩ | refine ⟨cdiv_v (by omega) (by omega), ?_⟩ | refine ⟨cdiv_c (by decide) (by decide), ?_⟩ | refine ⟨(by decide), ?_⟩ | refine ⟨Nat.le_of_ble_eq_true rfl, ?_⟩ | refine ⟨⟨by decide, by decide, by decide⟩, ?_⟩); (conv => whnf))))
    rw [seqD_ref eW]
    ((conv => whnf); (repeat ((first | refine ⟨(by show (0 : Int) < _; first | decide | omega), ?_⟩ | refine ⟨cmul_r (by decide) (by decide), ?_⟩ | refine ⟨cmul_l (by decide) (by decide), ?_⟩ | refine ⟨cmul_l (by omega) (by omega), ?_⟩ | refine ⟨cdiv_v (by omega) (by omega), ?_⟩ | refine ⟨cdiv_c (by decide) (by decide), ?_⟩ | refine ⟨(by decide), ?_⟩ | refine ⟨Nat.le_of_ble_eq_true rfl, ?_⟩ | refine ⟨⟨by decide, by decide, by decide⟩, ?_⟩); (conv => whnf))))
    rw [at_ s hs]
    ((conv => whnf); (repeat ((first | refine ⟨(by show (0 : Int) < _; first | decide | omega), ?_⟩ | refine ⟨cmul_r (by decide) (by decide), ?_⟩ | refine ⟨cmul_l (by decide) (by decide), ?_⟩ | refine ⟨cmul_l (by omega) (by omega), ?_⟩ | refine ⟨cdiv_v (by omega) (by omega), ?_⟩ | refine ⟨cdiv_c (by decide) (by decide), ?_⟩ | refine ⟨(by decide), ?_⟩ | refine ⟨Nat.le_of_ble_eq_true rfl, ?_⟩ | refine ⟨⟨by decide, by decide, by decide⟩, ?_⟩); (conv => whnf))))
    refine p_most ?_
    cases e : atM gs (atW W s + d) with
    | none => exact kf (by show (match atM gs (atW W s + d) with | none => none | some g => _) = none; rw [e])
    | some g =>
      obtain ⟨hg, h1, h2⟩ := atM_some e
      have n1 := hN g hg
      have m0 := (ok.most g hg).1
      have s0 := (ok.sized g hg).2
      have hd : doneM gs W M c (.store r s d) = if g.most < atW W r then none else some (c, W, M.set (atW W s + d).toNat (atW W r)) := by
        show (match atM gs (atW W s + d) with | none => none | some g => _) = _
        rw [e]
      ((conv => whnf); (repeat ((first | refine ⟨(by show (0 : Int) < _; first | decide | omega), ?_⟩ | refine ⟨cmul_r (by decide) (by decide), ?_⟩ | refine ⟨cmul_l (by decide) (by decide), ?_⟩ | refine ⟨cmul_l (by omega) (by omega), ?_⟩ | refine ⟨cdiv_v (by omega) (by omega), ?_⟩ | refine ⟨cdiv_c (by decide) (by decide), ?_⟩ | refine ⟨(by decide), ?_⟩ | refine ⟨Nat.le_of_ble_eq_true rfl, ?_⟩ | refine ⟨⟨by decide, by decide, by decide⟩, ?_⟩); (conv => whnf))))
      refine bfalse (decide_eq_false (show ¬ g.most < 0 by omega)) ?_
      ((conv => whnf); (repeat ((first | refine ⟨(by show (0 : Int) < _; first | decide | omega), ?_⟩ | refine ⟨cmul_r (by decide) (by decide), ?_⟩ | refine ⟨cmul_l (by decide) (by decide), ?_⟩ | refine ⟨cmul_l (by omega) (by omega), ?_⟩ | refine ⟨cdiv_v (by omega) (by omega), ?_⟩ | refine ⟨cdiv_c (by decide) (by decide), ?_⟩ | refine ⟨(by decide), ?_⟩ | refine ⟨Nat.le_of_ble_eq_true rfl, ?_⟩ | refine ⟨⟨by decide, by decide, by decide⟩, ?_⟩); (conv => whnf))))
      rw [seqD_ref eW]
      ((conv => whnf); (repeat ((first | refine ⟨(by show (0 : Int) < _; first | decide | omega), ?_⟩ | refine ⟨cmul_r (by decide) (by decide), ?_⟩ | refine ⟨cmul_l (by decide) (by decide), ?_⟩ | refine ⟨cmul_l (by omega) (by omega), ?_⟩ | refine ⟨cdiv_v (by omega) (by omega), ?_⟩ | refine ⟨cdiv_c (by decide) (by decide), ?_⟩ | refine ⟨(by decide), ?_⟩ | refine ⟨Nat.le_of_ble_eq_true rfl, ?_⟩ | refine ⟨⟨by decide, by decide, by decide⟩, ?_⟩); (conv => whnf))))
      rw [at_ r hr]
      ((conv => whnf); (repeat ((first | refine ⟨(by show (0 : Int) < _; first | decide | omega), ?_⟩ | refine ⟨cmul_r (by decide) (by decide), ?_⟩ | refine ⟨cmul_l (by decide) (by decide), ?_⟩ | refine ⟨cmul_l (by omega) (by omega), ?_⟩ | refine ⟨cdiv_v (by omega) (by omega), ?_⟩ | refine ⟨cdiv_c (by decide) (by decide), ?_⟩ | refine ⟨(by decide), ?_⟩ | refine ⟨Nat.le_of_ble_eq_true rfl, ?_⟩ | refine ⟨⟨by decide, by decide, by decide⟩, ?_⟩); (conv => whnf))))
      first | refine bcase (fun z => ?_) (fun z => ?_) | refine bcase0 (fun z => ?_) (fun z => ?_) | refine bcase1 (fun z => ?_) (fun z => ?_)
      · have z : g.most < atW W r := z
        exact kf (by rw [hd, if_pos z])
      · have z : ¬ g.most < atW W r := z
        rw [if_neg z] at hd
        ((conv => whnf); (repeat ((first | refine ⟨(by show (0 : Int) < _; first | decide | omega), ?_⟩ | refine ⟨cmul_r (by decide) (by decide), ?_⟩ | refine ⟨cmul_l (by decide) (by decide), ?_⟩ | refine ⟨cmul_l (by omega) (by omega), ?_⟩ | refine ⟨cdiv_v (by omega) (by omega), ?_⟩ | refine ⟨cdiv_c (by decide) (by decide), ?_⟩ | refine ⟨(by decide), ?_⟩ | refine ⟨Nat.le_of_ble_eq_true rfl, ?_⟩ | refine ⟨⟨by decide, by decide, by decide⟩, ?_⟩); (conv => whnf))))
        rw [seqD_ref eW]
        ((conv => whnf); (repeat ((first | refine ⟨(by show (0 : Int) < _; first | decide | omega), ?_⟩ | refine ⟨cmul_r (by decide) (by decide), ?_⟩ | refine ⟨cmul_l (by decide) (by decide), ?_⟩ | refine ⟨cmul_l (by omega) (by omega), ?_⟩ | refine ⟨cdiv_v (by omega) (by omega), ?_⟩ | refine ⟨cdiv_c (by decide) (by decide), ?_⟩ | refine ⟨(by decide), ?_⟩ | refine ⟨Nat.le_of_ble_eq_true rfl, ?_⟩ | refine ⟨⟨by decide, by decide, by decide⟩, ?_⟩); (conv => whnf))))
        rw [at_ r hr]
        ((conv => whnf); (repeat ((first | refine ⟨(by show (0 : Int) < _; first | decide | omega), ?_⟩ | refine ⟨cmul_r (by decide) (by decide), ?_⟩ | refine ⟨cmul_l (by decide) (by decide), ?_⟩ | refine ⟨cmul_l (by omega) (by omega), ?_⟩ | refine ⟨cdiv_v (by omega) (by omega), ?_⟩ | refine ⟨cdiv_c (by decide) (by decide), ?_⟩ | refine ⟨(by decide), ?_⟩ | refine ⟨Nat.le_of_ble_eq_true rfl, ?_⟩ | refine ⟨⟨by decide, by decide, by decide⟩, ?_⟩); (conv => whnf))))
        rw [look_of eM]
        conv => whnf
        rw [show ixN (M.map D.int).length (atW W s + d) = some (atW W s + d).toNat from by
          unfold ixN
          rw [List.length_map, if_pos (by omega), if_pos (by omega)]]
        conv => whnf
        rw [eqc_law_done_2]
        ((conv => whnf); (repeat ((first | refine ⟨(by show (0 : Int) < _; first | decide | omega), ?_⟩ | refine ⟨cmul_r (by decide) (by decide), ?_⟩ | refine ⟨cmul_l (by decide) (by decide), ?_⟩ | refine ⟨cmul_l (by omega) (by omega), ?_⟩ | refine ⟨cdiv_v (by omega) (by omega), ?_⟩ | refine ⟨cdiv_c (by decide) (by decide), ?_⟩ | refine ⟨(by decide), ?_⟩ | refine ⟨Nat.le_of_ble_eq_true rfl, ?_⟩ | refine ⟨⟨by decide, by decide, by decide⟩, ?_⟩); (conv => whnf))))
        refine k c _ _ _ hd (.set (.inr rfl)) ((Kp.set (X := (· = lm)) rfl).get ne eW) ?_
        rw [get_set eM, List.map_set]
  | other n xs => exact ho.elim
  | sh n r s kk =>
    obtain ⟨hn, hr, hs, hk⟩ := hi
    have ws := wW s hs
    have hcp := fun S q => @p_compute_sh n (atW W s) kk c S q hn ws hk
    rcases hn with rfl | rfl
    all_goals
      ((conv => whnf); (repeat ((first | refine ⟨(by show (0 : Int) < _; first | decide | omega), ?_⟩ | refine ⟨cmul_r (by decide) (by decide), ?_⟩ | refine ⟨cmul_l (by decide) (by decide), ?_⟩ | refine ⟨cmul_l (by omega) (by omega), ?_⟩ | refine ⟨cdiv_v (by omega) (by omega), ?_⟩ | refine ⟨cdiv_c (by decide) (by decide), ?_⟩ | refine ⟨(by decide), ?_⟩ | refine ⟨Nat.le_of_ble_eq_true rfl, ?_⟩ | refine ⟨⟨by decide, by decide, by decide⟩, ?_⟩); (conv => whnf))))
      rw [eqc_law_done_1]
      ((conv => whnf); (repeat ((first | refine ⟨(by show (0 : Int) < _; first | decide | omega), ?_⟩ | refine ⟨cmul_r (by decide) (by decide), ?_⟩ | refine ⟨cmul_l (by decide) (by decide), ?_⟩ | refine ⟨cmul_l (by omega) (by omega), ?_⟩ | refine ⟨cdiv_v (by omega) (by omega), ?_⟩ | refine ⟨cdiv_c (by decide) (by decide), ?_⟩ | refine ⟨(by decide), ?_⟩ | refine ⟨Nat.le_of_ble_eq_true rfl, ?_⟩ | refine ⟨⟨by decide, by decide, by decide⟩, ?_⟩); (conv => whnf))))
      rw [seqD_ref eW]
      ((conv => whnf); (repeat ((first | refine ⟨(by show (0 : Int) < _; first | decide | omega), ?_⟩ | refine ⟨cmul_r (by decide) (by decide), ?_⟩ | refine ⟨cmul_l (by decide) (by decide), ?_⟩ | refine ⟨cmul_l (by omega) (by omega), ?_⟩ | refine ⟨cdiv_v (by omega) (by omega), ?_⟩ | refine ⟨cdiv_c (by decide) (by decide), ?_⟩ | refine ⟨(by decide), ?_⟩ | refine ⟨Nat.le_of_ble_eq_true rfl, ?_⟩ | refine ⟨⟨by decide, by decide, by decide⟩, ?_⟩); (conv => whnf))))
      rw [at_ s hs]
      ((conv => whnf); (repeat ((first | refine ⟨(by show (0 : Int) < _; first | decide | omega), ?_⟩ | refine ⟨cmul_r (by decide) (by decide), ?_⟩ | refine ⟨cmul_l (by decide) (by decide), ?_⟩ | refine ⟨cmul_l (by omega) (by omega), ?_⟩ | refine ⟨cdiv_v (by omega) (by omega), ?_⟩ | refine ⟨cdiv_c (by decide) (by decide), ?_⟩ | refine ⟨(by decide), ?_⟩ | refine ⟨Nat.le_of_ble_eq_true rfl, ?_⟩ | refine ⟨⟨by decide, by decide, by decide⟩, ?_⟩); (conv => whnf))))
      refine hcp _ _ ?_
      ((conv => whnf); (repeat ((first | refine ⟨(by show (0 : Int) < _; first | decide | omega), ?_⟩ | refine ⟨cmul_r (by decide) (by decide), ?_⟩ | refine ⟨cmul_l (by decide) (by decide), ?_⟩ | refine ⟨cmul_l (by omega) (by omega), ?_⟩ | refine ⟨cdiv_v (by omega) (by omega), ?_⟩ | refine ⟨cdiv_c (by decide) (by decide), ?_⟩ | refine ⟨(by decide), ?_⟩ | refine ⟨Nat.le_of_ble_eq_true rfl, ?_⟩ | refine ⟨⟨by decide, by decide, by decide⟩, ?_⟩); (conv => whnf))))
      rw [seqD_ref (show (S ++ [two _])[S.length]? = some (.lst [.int _, .int _]) from get_new _ _)]
      ((conv => whnf); (repeat ((first | refine ⟨(by show (0 : Int) < _; first | decide | omega), ?_⟩ | refine ⟨cmul_r (by decide) (by decide), ?_⟩ | refine ⟨cmul_l (by decide) (by decide), ?_⟩ | refine ⟨cmul_l (by omega) (by omega), ?_⟩ | refine ⟨cdiv_v (by omega) (by omega), ?_⟩ | refine ⟨cdiv_c (by decide) (by decide), ?_⟩ | refine ⟨(by decide), ?_⟩ | refine ⟨Nat.le_of_ble_eq_true rfl, ?_⟩ | refine ⟨⟨by decide, by decide, by decide⟩, ?_⟩); (conv => whnf))))
      rw [look_of (Kn.get .app eW)]
      conv => whnf
      rw [ixr r hr]
      conv => whnf
      generalize hY : List.set (S ++ [two _]) lw _ = Y
      have lw' := lt_of_get eW
      have eY := (congrArg (fun s : Sto => s[S.length]?) hY.symm).trans ((Kp.set (X := (· = lw)) rfl).get (show ¬ S.length = lw by omega) (get_new S (two _)))
      ((conv => whnf); (repeat ((first | refine ⟨(by show (0 : Int) < _; first | decide | omega), ?_⟩ | refine ⟨cmul_r (by decide) (by decide), ?_⟩ | refine ⟨cmul_l (by decide) (by decide), ?_⟩ | refine ⟨cmul_l (by omega) (by omega), ?_⟩ | refine ⟨cdiv_v (by omega) (by omega), ?_⟩ | refine ⟨cdiv_c (by decide) (by decide), ?_⟩ | refine ⟨(by decide), ?_⟩ | refine ⟨Nat.le_of_ble_eq_true rfl, ?_⟩ | refine ⟨⟨by decide, by decide, by decide⟩, ?_⟩); (conv => whnf))))
      rw [seqD_ref (show Y[S.length]? = some (.lst [.int _, .int _]) from eY)]
      ((conv => whnf); (repeat ((first | refine ⟨(by show (0 : Int) < _; first | decide | omega), ?_⟩ | refine ⟨cmul_r (by decide) (by decide), ?_⟩ | refine ⟨cmul_l (by decide) (by decide), ?_⟩ | refine ⟨cmul_l (by omega) (by omega), ?_⟩ | refine ⟨cdiv_v (by omega) (by omega), ?_⟩ | refine ⟨cdiv_c (by decide) (by decide), ?_⟩ | refine ⟨(by decide), ?_⟩ | refine ⟨Nat.le_of_ble_eq_true rfl, ?_⟩ | refine ⟨⟨by decide, by decide, by decide⟩, ?_⟩); (conv => whnf))))
      rw [eqc_law_done_2]
      ((conv => whnf); (repeat ((first | refine ⟨(by show (0 : Int) < _; first | decide | omega), ?_⟩ | refine ⟨cmul_r (by decide) (by decide), ?_⟩ | refine ⟨cmul_l (by decide) (by decide), ?_⟩ | refine ⟨cmul_l (by omega) (by omega), ?_⟩ | refine ⟨cdiv_v (by omega) (by omega), ?_⟩ | refine ⟨cdiv_c (by decide) (by decide), ?_⟩ | refine ⟨(by decide), ?_⟩ | refine ⟨Nat.le_of_ble_eq_true rfl, ?_⟩ | refine ⟨⟨by decide, by decide, by decide⟩, ?_⟩); (conv => whnf))))
      rw [← hY]
      exact setW r _ _ (S ++ [two _]) hr .app (Kn.get .app eW) (Kn.get .app eM) rfl
  | ar n r s t =>
    obtain ⟨hn, hr, hs, ht⟩ := hi
    have ws := wW s hs
    have wt := wW t ht
    have hcp := fun S q => @p_compute_ar n (atW W s) (atW W t) c S q hn ws wt hc
    unfold ar12 at hn
    simp only [List.mem_cons, List.not_mem_nil, or_false] at hn
    rcases hn with rfl | rfl | rfl | rfl | rfl | rfl | rfl | rfl | rfl | rfl | rfl | rfl
    all_goals
      ((conv => whnf); (repeat ((first | refine ⟨(by show (0 : Int) < _; first | decide | omega), ?_⟩ | refine ⟨cmul_r (by decide) (by decide), ?_⟩ | refine ⟨cmul_l (by decide) (by decide), ?_⟩ | refine ⟨cmul_l (by omega) (by omega), ?_⟩ | refine ⟨cdiv_v (by omega) (by omega), ?_⟩ | refine ⟨cdiv_c (by decide) (by decide), ?_⟩ | refine ⟨(by decide), ?_⟩ | refine ⟨Nat.le_of_ble_eq_true rfl, ?_⟩ | refine ⟨⟨by decide, by decide, by decide⟩, ?_⟩); (conv => whnf))))
      rw [seqD_ref eW]
      ((conv => whnf); (repeat ((first | refine ⟨(by show (0 : Int) < _; first | decide | omega), ?_⟩ | refine ⟨cmul_r (by decide) (by decide), ?_⟩ | refine ⟨cmul_l (by decide) (by decide), ?_⟩ | refine ⟨cmul_l (by omega) (by omega), ?_⟩ | refine ⟨cdiv_v (by omega) (by omega), ?_⟩ | refine ⟨cdiv_c (by decide) (by decide), ?_⟩ | refine ⟨(by decide), ?_⟩ | refine ⟨Nat.le_of_ble_eq_true rfl, ?_⟩ | refine ⟨⟨by decide, by decide, by decide⟩, ?_⟩); (conv => whnf))))
      rw [at_ t ht]
      ((conv => whnf); (repeat ((first | refine ⟨(by show (0 : Int) < _; first | decide | omega), ?_⟩ | refine ⟨cmul_r (by decide) (by decide), ?_⟩ | refine ⟨cmul_l (by decide) (by decide), ?_⟩ | refine ⟨cmul_l (by omega) (by omega), ?_⟩ | refine ⟨cdiv_v (by omega) (by omega), ?_⟩ | refine ⟨cdiv_c (by decide) (by decide), ?_⟩ | refine ⟨(by decide), ?_⟩ | refine ⟨Nat.le_of_ble_eq_true rfl, ?_⟩ | refine ⟨⟨by decide, by decide, by decide⟩, ?_⟩); (conv => whnf))))
      rw [eqc_law_done_1]
      ((conv => whnf); (repeat ((first | refine ⟨(by show (0 : Int) < _; first | decide | omega), ?_⟩ | refine ⟨cmul_r (by decide) (by decide), ?_⟩ | refine ⟨cmul_l (by decide) (by decide), ?_⟩ | refine ⟨cmul_l (by omega) (by omega), ?_⟩ | refine ⟨cdiv_v (by omega) (by omega), ?_⟩ | refine ⟨cdiv_c (by decide) (by decide), ?_⟩ | refine ⟨(by decide), ?_⟩ | refine ⟨Nat.le_of_ble_eq_true rfl, ?_⟩ | refine ⟨⟨by decide, by decide, by decide⟩, ?_⟩); (conv => whnf))))
      rw [seqD_ref eW]
      ((conv => whnf); (repeat ((first | refine ⟨(by show (0 : Int) < _; first | decide | omega), ?_⟩ | refine ⟨cmul_r (by decide) (by decide), ?_⟩ | refine ⟨cmul_l (by decide) (by decide), ?_⟩ | refine ⟨cmul_l (by omega) (by omega), ?_⟩ | refine ⟨cdiv_v (by omega) (by omega), ?_⟩ | refine ⟨cdiv_c (by decide) (by decide), ?_⟩ | refine ⟨(by decide), ?_⟩ | refine ⟨Nat.le_of_ble_eq_true rfl, ?_⟩ | refine ⟨⟨by decide, by decide, by decide⟩, ?_⟩); (conv => whnf))))
      rw [at_ s hs]
      ((conv => whnf); (repeat ((first | refine ⟨(by show (0 : Int) < _; first | decide | omega), ?_⟩ | refine ⟨cmul_r (by decide) (by decide), ?_⟩ | refine ⟨cmul_l (by decide) (by decide), ?_⟩ | refine ⟨cmul_l (by omega) (by omega), ?_⟩ | refine ⟨cdiv_v (by omega) (by omega), ?_⟩ | refine ⟨cdiv_c (by decide) (by decide), ?_⟩ | refine ⟨(by decide), ?_⟩ | refine ⟨Nat.le_of_ble_eq_true rfl, ?_⟩ | refine ⟨⟨by decide, by decide, by decide⟩, ?_⟩); (conv => whnf))))
      refine hcp _ _ ?_
      ((conv => whnf); (repeat ((first | refine ⟨(by show (0 : Int) < _; first | decide | omega), ?_⟩ | refine ⟨cmul_r (by decide) (by decide), ?_⟩ | refine ⟨cmul_l (by decide) (by decide), ?_⟩ | refine ⟨cmul_l (by omega) (by omega), ?_⟩ | refine ⟨cdiv_v (by omega) (by omega), ?_⟩ | refine ⟨cdiv_c (by decide) (by decide), ?_⟩ | refine ⟨(by decide), ?_⟩ | refine ⟨Nat.le_of_ble_eq_true rfl, ?_⟩ | refine ⟨⟨by decide, by decide, by decide⟩, ?_⟩); (conv => whnf))))
      rw [seqD_ref (show (S ++ [two _])[S.length]? = some (.lst [.int _, .int _]) from get_new _ _)]
      ((conv => whnf); (repeat ((first | refine ⟨(by show (0 : Int) < _; first | decide | omega), ?_⟩ | refine ⟨cmul_r (by decide) (by decide), ?_⟩ | refine ⟨cmul_l (by decide) (by decide), ?_⟩ | refine ⟨cmul_l (by omega) (by omega), ?_⟩ | refine ⟨cdiv_v (by omega) (by omega), ?_⟩ | refine ⟨cdiv_c (by decide) (by decide), ?_⟩ | refine ⟨(by decide), ?_⟩ | refine ⟨Nat.le_of_ble_eq_true rfl, ?_⟩ | refine ⟨⟨by decide, by decide, by decide⟩, ?_⟩); (conv => whnf))))
      rw [look_of (Kn.get .app eW)]
      conv => whnf
      rw [ixr r hr]
      conv => whnf
      generalize hY : List.set (S ++ [two _]) lw _ = Y
      have lw' := lt_of_get eW
      have eY := (congrArg (fun s : Sto => s[S.length]?) hY.symm).trans ((Kp.set (X := (· = lw)) rfl).get (show ¬ S.length = lw by omega) (get_new S (two _)))
      ((conv => whnf); (repeat ((first | refine ⟨(by show (0 : Int) < _; first | decide | omega), ?_⟩ | refine ⟨cmul_r (by decide) (by decide), ?_⟩ | refine ⟨cmul_l (by decide) (by decide), ?_⟩ | refine ⟨cmul_l (by omega) (by omega), ?_⟩ | refine ⟨cdiv_v (by omega) (by omega), ?_⟩ | refine ⟨cdiv_c (by decide) (by decide), ?_⟩ | refine ⟨(by decide), ?_⟩ | refine ⟨Nat.le_of_ble_eq_true rfl, ?_⟩ | refine ⟨⟨by decide, by decide, by decide⟩, ?_⟩); (conv => whnf))))
      rw [seqD_ref (show Y[S.length]? = some (.lst [.int _, .int _]) from eY)]
      ((conv => whnf); (repeat ((first | refine ⟨(by show (0 : Int) < _; first | decide | omega), ?_⟩ | refine ⟨cmul_r (by decide) (by decide), ?_⟩ | refine ⟨cmul_l (by decide) (by decide), ?_⟩ | refine ⟨cmul_l (by omega) (by omega), ?_⟩ | refine ⟨cdiv_v (by omega) (by omega), ?_⟩ | refine ⟨cdiv_c (by decide) (by decide), ?_⟩ | refine ⟨(by decide), ?_⟩ | refine ⟨Nat.le_of_ble_eq_true rfl, ?_⟩ | refine ⟨⟨by decide, by decide, by decide⟩, ?_⟩); (conv => whnf))))
      rw [eqc_law_done_2]
      ((conv => whnf); (repeat ((first | refine ⟨(by show (0 : Int) < _; first | decide | omega), ?_⟩ | refine ⟨cmul_r (by decide) (by decide), ?_⟩ | refine ⟨cmul_l (by decide) (by decide), ?_⟩ | refine ⟨cmul_l (by omega) (by omega), ?_⟩ | refine ⟨cdiv_v (by omega) (by omega), ?_⟩ | refine ⟨cdiv_c (by decide) (by decide), ?_⟩ | refine ⟨(by decide), ?_⟩ | refine ⟨Nat.le_of_ble_eq_true rfl, ?_⟩ | refine ⟨⟨by decide, by decide, by decide⟩, ?_⟩); (conv => whnf))))
      rw [← hY]
      exact setW r _ _ (S ++ [two _]) hr .app (Kn.get .app eW) (Kn.get .app eM) rfl
end K68

set_option Elab.async false
set_option linter.all false
set_option maxRecDepth 100000
set_option maxHeartbeats 4000000
namespace K68
open PySem PySem.Spec PyProof.Rows L2 DT
def Both (f : Fa) (w u : Int) (L R : List Int) : Prop := TrueF f w L ∧ TrueF f u R ∧ (f.sec = false → w = u)
def Sound (fs : List Fa) (W U L R : List Int) : Prop := ∀ (k : Nat) f w u, fs[k]? = some f → W[k]? = some w → U[k]? = some u → Both f w u L R
theorem Sound.at_ {fs : List Fa} {W U L R : List Int} (h : Sound fs W U L R) (l : fs.length = 16) (lW : W.length = 16) (lU : U.length = 16) {r : Int} (hr : rg r) : Both (atF fs r) (atW W r) (atW U r) L R := by
  refine h r.toNat _ _ _ ?_ (atW_get hr.1 (by rw [lW]; exact hr.2)) (atW_get hr.1 (by rw [lU]; exact hr.2))
  obtain ⟨h0, h1⟩ := hr
  unfold atF
  rw [List.getD_eq_getElem?_getD, List.getElem?_eq_getElem (by omega)]
  rfl
theorem get_set_cases {α : Type} {l : List α} {i k : Nat} {x y : α} (h : (l.set i x)[k]? = some y) : (k = i ∧ y = x) ∨ (k ≠ i ∧ l[k]? = some y) := by
  by_cases z : i = k
  · subst z
    have hl := (List.getElem?_eq_some_iff.mp h).1
    rw [List.length_set] at hl
    rw [List.getElem?_set_self hl] at h
    cases h
    exact .inl ⟨rfl, rfl⟩
  · rw [List.getElem?_set_ne z] at h
    exact .inr ⟨fun y => z y.symm, h⟩
theorem Sound.set {fs : List Fa} {W U L R : List Int} (h : Sound fs W U L R) {f : Fa} {w u : Int} (i : Nat) (b : Both f w u L R) : Sound (fs.set i f) (W.set i w) (U.set i u) L R := by
  intro k f' w' u' h1 h2 h3
  rcases get_set_cases h1 with ⟨e1, rfl⟩ | ⟨n1, h1⟩
  · rcases get_set_cases h2 with ⟨_, rfl⟩ | ⟨n2, _⟩
    · rcases get_set_cases h3 with ⟨_, rfl⟩ | ⟨n3, _⟩
      · exact b
      · exact absurd e1 n3
    · exact absurd e1 n2
  · rcases get_set_cases h2 with ⟨e2, _⟩ | ⟨_, h2⟩
    · exact absurd e2 n1
    · rcases get_set_cases h3 with ⟨e3, _⟩ | ⟨_, h3⟩
      · exact absurd e3 n1
      · exact h k f' w' u' h1 h2 h3
theorem comp_keeps {n : Str} {a b c : Int} (h : caB n = false) : (compM n a b c).2 = c := by
  have h : ¬ n ∈ (["add", "addc", "sub", "subc"] : List Str) := of_decide_eq_false h
  simp only [List.mem_cons, List.not_mem_nil, or_false, not_or] at h
  obtain ⟨h1, h2, h3, h4⟩ := h
  unfold compM
  rw [if_neg h1, if_neg h2, if_neg h3, if_neg h4]
  split
  · rfl
  · split
    · rfl
    · split
      · rfl
      · split
        · rfl
        · split
          · rfl
          · split
            · rfl
            · split
              · rfl
              · split <;> rfl
/-- the operands of no chained operation: the carry does not tell -/
theorem comp_same {n : Str} {a b c c' : Int} (hn : n ∈ ar12) (h : chB n = false) : (compM n a b c).1 = (compM n a b c').1 ∧ (caB n = true → (compM n a b c).2 = (compM n a b c').2) := by
  unfold ar12 at hn
  simp only [List.mem_cons, List.not_mem_nil, or_false] at hn
  rcases hn with rfl | rfl | rfl | rfl | rfl | rfl | rfl | rfl | rfl | rfl | rfl | rfl
  all_goals first
    | exact absurd h (by decide)
    | exact ⟨rfl, fun _ => rfl⟩
    | exact ⟨rfl, fun z => absurd z (by decide)⟩
theorem sh_same {n : Str} {a k c c' : Int} (hn : n = "down" ∨ n = "up") : (compM n a k c).1 = (compM n a k c').1 := by
  rcases hn with rfl | rfl <;> rfl
structure After (gs : List Rg) (fs : List Fa) (c : Bool) (i : Ins) (W U L R : List Int) (c1 c2 : Int) : Prop where
  sound : Sound (nextF gs fs c i) W U L R
  flow : nextC gs fs c i = false → c1 = c2
  lenW : W.length = 16
  lenU : U.length = 16
  wordW : ∀ w ∈ W, wd w
  wordU : ∀ w ∈ U, wd w
  bit1 : c1 = 0 ∨ c1 = 1
  bit2 : c2 = 0 ∨ c2 = 1
theorem wd_set {W : List Int} {i : Nat} {w : Int} (h : ∀ w ∈ W, wd w) (hw : wd w) : ∀ x ∈ W.set i w, wd x := fun x hx => by
  rcases List.mem_or_eq_of_mem_set hx with z | z
  · exact h x z
  · rw [z]
    exact hw
theorem after {gs : List Rg} {fs : List Fa} {c : Bool} {i : Ins} {N : Nat} {W U L R W' U' L' R' : List Int} {c1 c2 d1 d2 : Int} (ok : LayOk gs) (hN : ∀ g ∈ gs, g.start + g.size ≤ N) (hm : MemOk gs N L R) (l : fs.length = 16) (kf : ∀ f ∈ fs, okR f) (hi : i.ok) (ho : notOther i)
    (hp : (∃ r s d, i = .load r s d ∨ i = .store r s d) → ∀ r s d, (i = .load r s d ∨ i = .store r s d) → (atF fs s).sec = false)
    (hs : Sound fs W U L R) (hc : c = false → c1 = c2) (lW : W.length = 16) (lU : U.length = 16) (wW : ∀ w ∈ W, wd w) (wU : ∀ w ∈ U, wd w) (b1 : c1 = 0 ∨ c1 = 1) (b2 : c2 = 0 ∨ c2 = 1)
    (e1 : doneM gs W L c1 i = some (d1, W', L')) (e2 : doneM gs U R c2 i = some (d2, U', R')) : After gs fs c i W' U' L' R' d1 d2 ∧ ((¬ ∃ r s d, i = .store r s d) → L' = L ∧ R' = R) ∧ L'.length = L.length ∧ R'.length = R.length := by
  have wdW : ∀ r, rg r → wd (atW W r) := fun r hr => wW _ (List.mem_of_getElem? (atW_get hr.1 (by rw [lW]; exact hr.2)))
  have wdU : ∀ r, rg r → wd (atW U r) := fun r hr => wU _ (List.mem_of_getElem? (atW_get hr.1 (by rw [lU]; exact hr.2)))
  have put : ∀ (r w u : Int) (f : Fa), nextF gs fs c i = fs.set r.toNat f → nextC gs fs c i = c → Both f w u L R → wd w → wd u → After gs fs c i (W.set r.toNat w) (U.set r.toNat u) L R c1 c2 := fun r w u f hF hC b hw hu =>
    ⟨by rw [hF]; exact hs.set _ b, by rw [hC]; exact hc, by rw [List.length_set, lW], by rw [List.length_set, lU], wd_set wW hw, wd_set wU hu, b1, b2⟩
  cases i with
  | clear =>
    cases e1
    cases e2
    exact ⟨⟨hs, fun _ => rfl, lW, lU, wW, wU, .inl rfl, .inl rfl⟩, fun _ => ⟨rfl, rfl⟩, rfl, rfl⟩
  | set r w =>
    cases e1
    cases e2
    exact ⟨put r w w _ rfl rfl ⟨⟨Int.le_refl _, Int.le_refl _, .inl rfl⟩, ⟨Int.le_refl _, Int.le_refl _, .inl rfl⟩, fun _ => rfl⟩ hi.2 hi.2, fun _ => ⟨rfl, rfl⟩, rfl, rfl⟩
  | move r s =>
    cases e1
    cases e2
    exact ⟨put r _ _ _ rfl rfl (hs.at_ l lW lU hi.2) (wdW s hi.2) (wdU s hi.2), fun _ => ⟨rfl, rfl⟩, rfl, rfl⟩
  | carry r =>
    cases e1
    cases e2
    have w1 : ∀ d : Int, d = 0 ∨ d = 1 → 0 ≤ d ∧ d ≤ 1 := fun d h => by omega
    have x1 := w1 c1 b1
    have x2 := w1 c2 b2
    exact ⟨put r c1 c2 _ rfl rfl ⟨⟨x1.1, x1.2, .inl rfl⟩, ⟨x2.1, x2.2, .inl rfl⟩, fun z => hc z⟩ ⟨x1.1, by omega⟩ ⟨x2.1, by omega⟩, fun _ => ⟨rfl, rfl⟩, rfl, rfl⟩
  | other n xs => exact ho.elim
  | load r s d =>
    obtain ⟨hr, hss, d0⟩ := hi
    obtain ⟨⟨t1, t2, _⟩, ⟨t3, t4, _⟩, t5⟩ := hs.at_ l lW lU hss
    have same := t5 (hp ⟨r, s, d, .inl rfl⟩ r s d (.inl rfl))
    have kfs := kf _ (atF_mem l hss)
    have w0 := wdW s hss
    have e1 : (match atM gs (atW W s + d) with | none => none | some _ => some (c1, W.set r.toNat (atW L (atW W s + d)), L)) = some (d1, W', L') := e1
    have e2 : (match atM gs (atW U s + d) with | none => none | some _ => some (c2, U.set r.toNat (atW R (atW U s + d)), R)) = some (d2, U', R') := e2
    rw [← same] at e2
    cases ha : atM gs (atW W s + d) with
    | none => rw [ha] at e1; cases e1
    | some g =>
      rw [ha] at e1 e2
      cases e1
      cases e2
      obtain ⟨hg, g1, g2⟩ := atM_some ha
      have n1 := hN g hg
      have s0 := (ok.sized g hg).2
      have x1 := atW_get (W := L) (r := atW W s + d) (by omega) (by rw [hm.len0]; omega)
      have x2 := atW_get (W := R) (r := atW W s + d) (by omega) (by rw [hm.len1]; omega)
      obtain ⟨y1, y2, y3, y4, y5⟩ := hm.word _ _ _ x1 x2
      refine ⟨put r _ _ (loadM gs ((atF fs s).lo + d) ((atF fs s).hi + d)) rfl rfl ?_ ⟨y1, y3⟩ ⟨y2, y4⟩, fun _ => ⟨rfl, rfl⟩, rfl, rfl⟩
      unfold loadM
      cases hsf : safeM gs ((atF fs s).lo + d) ((atF fs s).hi + d) with
      | none => exact ⟨⟨y1, y3, .inl rfl⟩, ⟨y2, y4, .inl rfl⟩, fun z => by cases z⟩
      | some g' =>
        have q1 := List.find?_some hsf
        have q2 := List.mem_of_find?_eq_some hsf
        simp at q1
        have hh : g'.has (atW W s + d) := ⟨by omega, by omega⟩
        have y6 := y5 g' (by rw [show (((atW W s + d).toNat : Nat) : Int) = atW W s + d by omega]; exact atM_of ok q2 hh)
        dsimp only
        split
        · rename_i ee
          refine ⟨⟨y1, y6.1, .inr ⟨by show 0 ≤ (atF fs s).lo + d; have := kfs.1; omega, ?_⟩⟩, ⟨y2, y6.2.1, .inr ⟨by show 0 ≤ (atF fs s).lo + d; have := kfs.1; omega, ?_⟩⟩, fun z => y6.2.2 z⟩
          · exact ⟨_, by show L[((atF fs s).lo + d).toNat]? = _; rw [show (atF fs s).lo + d = atW W s + d by omega]; exact x1, (Int.add_zero _).symm⟩
          · exact ⟨_, by show R[((atF fs s).lo + d).toNat]? = _; rw [show (atF fs s).lo + d = atW W s + d by omega]; exact x2, (Int.add_zero _).symm⟩
        · exact ⟨⟨y1, y6.1, .inl rfl⟩, ⟨y2, y6.2.1, .inl rfl⟩, fun z => y6.2.2 z⟩
  | store r s d =>
    obtain ⟨hr, hss, d0⟩ := hi
    obtain ⟨⟨t1, t2, _⟩, ⟨t3, t4, _⟩, t5⟩ := hs.at_ l lW lU hss
    have same := t5 (hp ⟨r, s, d, .inr rfl⟩ r s d (.inr rfl))
    have w0 := wdW s hss
    have e1 : (match atM gs (atW W s + d) with | none => none | some g => if g.most < atW W r then none else some (c1, W, L.set (atW W s + d).toNat (atW W r))) = some (d1, W', L') := e1
    have e2 : (match atM gs (atW U s + d) with | none => none | some g => if g.most < atW U r then none else some (c2, U, R.set (atW U s + d).toNat (atW U r))) = some (d2, U', R') := e2
    rw [← same] at e2
    cases ha : atM gs (atW W s + d) with
    | none => rw [ha] at e1; cases e1
    | some g =>
      rw [ha] at e1 e2
      dsimp only at e1 e2
      split at e1
      · cases e1
      split at e2
      · cases e2
      cases e1
      cases e2
      refine ⟨⟨fun k f w u h1 h2 h3 => ?_, hc, lW, lU, wW, wU, b1, b2⟩, fun z => absurd ⟨r, s, d, rfl⟩ z, by rw [List.length_set], by rw [List.length_set]⟩
      have h1 : (fs.map (cutF ((atF fs s).lo + d) ((atF fs s).hi + d)))[k]? = some f := h1
      rw [List.getElem?_map] at h1
      obtain ⟨f', hf', rfl⟩ := Option.map_eq_some_iff.mp h1
      obtain ⟨⟨u1, u2, u3⟩, ⟨u4, u5, u6⟩, u7⟩ := hs k f' w u hf' h2 h3
      unfold cutF
      split
      · exact ⟨⟨u1, u2, .inl rfl⟩, ⟨u4, u5, .inl rfl⟩, u7⟩
      · rename_i nc
        refine ⟨⟨u1, u2, ?_⟩, ⟨u4, u5, ?_⟩, u7⟩
        · rcases u3 with z | ⟨z, m, hm1, hm2⟩
          · exact .inl z
          · have ne : (atW W s + d).toNat ≠ f'.cell.toNat := by
              obtain ⟨w0, w1⟩ := w0
              omega
            exact .inr ⟨z, m, by rw [List.getElem?_set_ne ne]; exact hm1, hm2⟩
        · rcases u6 with z | ⟨z, m, hm1, hm2⟩
          · exact .inl z
          · have ne : (atW W s + d).toNat ≠ f'.cell.toNat := by
              obtain ⟨w0, w1⟩ := w0
              omega
            exact .inr ⟨z, m, by rw [List.getElem?_set_ne ne]; exact hm1, hm2⟩
  | sh n r s k =>
    obtain ⟨hn, hr, hss, hk⟩ := hi
    obtain ⟨⟨t1, t2, _⟩, ⟨t3, t4, _⟩, t5⟩ := hs.at_ l lW lU hss
    have kfs := kf _ (atF_mem l hss)
    obtain ⟨p1, p2, p3⟩ := sh_in (c := c1) hn kfs ⟨t1, t2⟩ hk
    obtain ⟨q1, q2, q3⟩ := sh_in (c := c2) hn kfs ⟨t3, t4⟩ hk
    have e1 : some ((compM n (atW W s) k c1).2, W.set r.toNat (compM n (atW W s) k c1).1, L) = some (d1, W', L') := e1
    have e2 : some ((compM n (atW U s) k c2).2, U.set r.toNat (compM n (atW U s) k c2).1, R) = some (d2, U', R') := e2
    cases e1
    cases e2
    rw [p3, q3]
    refine ⟨put r _ _ ⟨(atF fs s).sec, _, _, -1, 0⟩ rfl rfl ⟨⟨p1.1, p1.2, .inl rfl⟩, ⟨q1.1, q1.2, .inl rfl⟩, fun z => ?_⟩ p2 q2, fun _ => ⟨rfl, rfl⟩, rfl, rfl⟩
    rw [t5 z]
    exact sh_same hn
  | ar n r s t =>
    obtain ⟨hn, hr, hss, ht⟩ := hi
    obtain ⟨⟨t1, t2, t8⟩, ⟨t3, t4, t9⟩, t5⟩ := hs.at_ l lW lU hss
    obtain ⟨⟨v1, v2, _⟩, ⟨v3, v4, _⟩, v5⟩ := hs.at_ l lW lU ht
    have ks := kf _ (atF_mem l hss)
    have kt := kf _ (atF_mem l ht)
    obtain ⟨p1, p2, p3⟩ := comp_in (c := c1) hn ks kt ⟨t1, t2⟩ ⟨v1, v2⟩ b1
    obtain ⟨q1, q2, q3⟩ := comp_in (c := c2) hn ks kt ⟨t3, t4⟩ ⟨v3, v4⟩ b2
    have e1 : some ((compM n (atW W s) (atW W t) c1).2, W.set r.toNat (compM n (atW W s) (atW W t) c1).1, L) = some (d1, W', L') := e1
    have e2 : some ((compM n (atW U s) (atW U t) c2).2, U.set r.toNat (compM n (atW U s) (atW U t) c2).1, R) = some (d2, U', R') := e2
    cases e1
    cases e2
    have eqs : (arM n (atF fs s) (atF fs t) c).sec = false → (compM n (atW W s) (atW W t) c1).1 = (compM n (atW U s) (atW U t) c2).1 ∧ (caB n = true → (compM n (atW W s) (atW W t) c1).2 = (compM n (atW U s) (atW U t) c2).2) := fun z => by
      have z : ((atF fs s).sec || (atF fs t).sec || (chB n && c)) = false := z
      obtain ⟨z1, z3⟩ := Bool.or_eq_false_iff.mp z
      obtain ⟨z1, z2⟩ := Bool.or_eq_false_iff.mp z1
      rw [t5 z1, v5 z2]
      by_cases hch : chB n = true
      · rw [hch, Bool.true_and] at z3
        rw [hc z3]
        exact ⟨rfl, fun _ => rfl⟩
      · exact comp_same hn (by simpa using hch)
    have cells : ∀ (X M : List Int) (cc : Int), (atF fs s).lo ≤ atW X s → atW X s ≤ (atF fs s).hi → (atF fs t).lo ≤ atW X t → atW X t ≤ (atF fs t).hi → ((atF fs s).cell = -1 ∨ 0 ≤ (atF fs s).cell ∧ ∃ m, M[(atF fs s).cell.toNat]? = some m ∧ atW X s = m + (atF fs s).plus) →
        (arM n (atF fs s) (atF fs t) c).cell = -1 ∨ 0 ≤ (arM n (atF fs s) (atF fs t) c).cell ∧ ∃ m, M[(arM n (atF fs s) (atF fs t) c).cell.toNat]? = some m ∧ (compM n (atW X s) (atW X t) cc).1 = m + (arM n (atF fs s) (atF fs t) c).plus := by
      intro X M cc x1 x2 x3 x4 x5
      obtain ⟨k0, _, _, _⟩ := ks
      obtain ⟨k1, _, _, _⟩ := kt
      by_cases ha : n = "add"
      · subst ha
        show (cellM (atF fs s) (atF fs t)).1 = -1 ∨ 0 ≤ (cellM (atF fs s) (atF fs t)).1 ∧ ∃ m, M[(cellM (atF fs s) (atF fs t)).1.toNat]? = some m ∧ (atW X s + atW X t) % 65536 = m + (cellM (atF fs s) (atF fs t)).2
        unfold cellM
        split
        · exact .inl rfl
        · rename_i hb
          rcases x5 with z | ⟨z, m, z1, z2⟩
          · exact absurd (.inl z) hb
          · exact .inr ⟨z, m, z1, by show (atW X s + atW X t) % 65536 = m + ((atF fs s).plus + (atF fs t).lo); omega⟩
      · refine .inl ?_
        show (if n = "add" then (cellM (atF fs s) (atF fs t)).1 else -1) = -1
        rw [if_neg ha]
    refine ⟨⟨hs.set _ ⟨⟨p1.1, p1.2, cells W L c1 t1 t2 v1 v2 t8⟩, ⟨q1.1, q1.2, cells U R c2 t3 t4 v3 v4 t9⟩, fun z => (eqs z).1⟩, fun z => ?_, by rw [List.length_set, lW], by rw [List.length_set, lU], wd_set wW p2, wd_set wU q2, p3, q3⟩, fun _ => ⟨rfl, rfl⟩, rfl, rfl⟩
    have z : (if caB n = true then (arM n (atF fs s) (atF fs t) c).sec else c) = false := z
    split at z
    · rename_i hca
      exact (eqs z).2 hca
    · rename_i hca
      rw [comp_keeps (by simpa using hca), comp_keeps (by simpa using hca)]
      exact hc z
end K68

set_option Elab.async false
set_option linter.all false
set_option maxRecDepth 100000
set_option maxHeartbeats 4000000
namespace K68
open PySem PySem.Spec PyProof.Rows L2 DT
theorem nor {a b c : Nat} (h1 : a ≠ b) (h2 : a ≠ c) : ¬ (a = b ∨ a = c) := fun z => z.elim h1 h2
structure Apart (p n lw lu l r : Nat) : Prop where
  pn : n ≠ p
  pw : lw ≠ p
  pu : lu ≠ p
  pl : l ≠ p
  pr : r ≠ p
  nw : n ≠ lw
  nu : n ≠ lu
  nl : n ≠ l
  nr : n ≠ r
  wu : lw ≠ lu
  wl : lw ≠ l
  wr : lw ≠ r
  ul : lu ≠ l
  ur : lu ≠ r
  lr : l ≠ r
/-- what stands at a turn -/
structure At (gs : List Rg) (N p n lw lu l r lc : Nat) (fs : List Fa) (c : Bool) (W U L R : List Int) (c1 c2 : Int) (S : Sto) : Prop where
  src : Src S p
  en : S[n]? = some (.lst [.ref l, .ref r])
  ew : S[lw]? = some (.lst (W.map D.int))
  eu : S[lu]? = some (.lst (U.map D.int))
  ec : S[lc]? = some (.lst [.int c1, .int c2])
  el : S[l]? = some (.lst (L.map D.int))
  er : S[r]? = some (.lst (R.map D.int))
  mem : MemOk gs N L R
  len : fs.length = 16
  kf : ∀ f ∈ fs, okR f
  sound : Sound fs W U L R
  flow : c = false → c1 = c2
  lenW : W.length = 16
  lenU : U.length = 16
  wordW : ∀ w ∈ W, wd w
  wordU : ∀ w ∈ U, wd w
  bit1 : c1 = 0 ∨ c1 = 1
  bit2 : c2 = 0 ∨ c2 = 1
  cw : lc ≠ lw
  cu : lc ≠ lu
  cl : lc ≠ l
  cr : lc ≠ r
theorem At.keep {gs : List Rg} {N p n lw lu l r lc : Nat} {fs : List Fa} {c : Bool} {W U L R : List Int} {c1 c2 : Int} {S S' : Sto} (a : At gs N p n lw lu l r lc fs c W U L R c1 c2 S) (ap : Apart p n lw lu l r) (pc : lc ≠ p) (k : Kp (· = p) S S') (hs : Src S' p) : At gs N p n lw lu l r lc fs c W U L R c1 c2 S' :=
  ⟨hs, k.get ap.pn a.en, k.get ap.pw a.ew, k.get ap.pu a.eu, k.get pc a.ec, k.get ap.pl a.el, k.get ap.pr a.er, a.mem, a.len, a.kf, a.sound, a.flow, a.lenW, a.lenU, a.wordW, a.wordU, a.bit1, a.bit2, a.cw, a.cu, a.cl, a.cr⟩
theorem shape {i : Ins} (hi : i.ok) (ho : notOther i) : ∃ nm args, i.d = .tup (.str nm :: args) ∧ (nm = "store" → ∃ r s d, i = .store r s d) ∧ ((∃ r s d, i = .store r s d) → nm = "store") ∧
    (nm ∈ (["load", "store"] : List Str) → ∃ r s d, (i = .load r s d ∨ i = .store r s d) ∧ args = [.int r, .int s, .int d] ∧ rg s) ∧ (nm ∉ (["load", "store"] : List Str) → ¬ ∃ r s d, i = .load r s d ∨ i = .store r s d) := by
  have no : ∀ {nm : Str}, nm ∉ (["load", "store"] : List Str) → nm ≠ "store" := fun h e => h (by rw [e]; decide)
  cases i with
  | other n xs => exact ho.elim
  | load r s d => exact ⟨"load", _, rfl, fun z => absurd z (by decide), fun ⟨_, _, _, z⟩ => (by cases z), fun _ => ⟨r, s, d, .inl rfl, rfl, hi.2.1⟩, fun z => absurd (by decide) z⟩
  | store r s d => exact ⟨"store", _, rfl, fun _ => ⟨r, s, d, rfl⟩, fun _ => rfl, fun _ => ⟨r, s, d, .inr rfl, rfl, hi.2.1⟩, fun z => absurd (by decide) z⟩
  | clear => exact ⟨"clear", _, rfl, fun z => absurd z (by decide), fun ⟨_, _, _, z⟩ => (by cases z), fun z => absurd z (by decide), fun _ ⟨_, _, _, z⟩ => by rcases z with z | z <;> cases z⟩
  | set r w => exact ⟨"set", _, rfl, fun z => absurd z (by decide), fun ⟨_, _, _, z⟩ => (by cases z), fun z => absurd z (by decide), fun _ ⟨_, _, _, z⟩ => by rcases z with z | z <;> cases z⟩
  | move r s => exact ⟨"move", _, rfl, fun z => absurd z (by decide), fun ⟨_, _, _, z⟩ => (by cases z), fun z => absurd z (by decide), fun _ ⟨_, _, _, z⟩ => by rcases z with z | z <;> cases z⟩
  | carry r => exact ⟨"carry", _, rfl, fun z => absurd z (by decide), fun ⟨_, _, _, z⟩ => (by cases z), fun z => absurd z (by decide), fun _ ⟨_, _, _, z⟩ => by rcases z with z | z <;> cases z⟩
  | sh n r s k =>
    have h : n ∉ (["load", "store"] : List Str) := by
      obtain ⟨hn, _⟩ := hi
      rcases hn with rfl | rfl <;> decide
    exact ⟨n, _, rfl, fun z => absurd z (no h), fun ⟨_, _, _, z⟩ => (by cases z), fun z => absurd z h, fun _ ⟨_, _, _, z⟩ => by rcases z with z | z <;> cases z⟩
  | ar n r s t =>
    have h : n ∉ (["load", "store"] : List Str) := by
      obtain ⟨hn, _⟩ := hi
      clear no ho
      revert n
      decide
    exact ⟨n, _, rfl, fun z => absurd z (no h), fun ⟨_, _, _, z⟩ => (by cases z), fun z => absurd z h, fun _ ⟨_, _, _, z⟩ => by rcases z with z | z <;> cases z⟩
theorem p_turn {gs : List Rg} {N p n lw lu l r lc : Nat} {fs : List Fa} {c : Bool} {W U L R : List Int} {c1 c2 : Int} {S : Sto} {i : Ins} {nm : Str} {args : List D} {d : XD} {sc at_ : Option D} {a5 a6 a10 a12 a14 a15 a16 : Option D}
    (ok : LayOk gs) (hN : ∀ g ∈ gs, g.start + g.size ≤ N) (ap : Apart p n lw lu l r) (a : At gs N p n lw lu l r lc fs c W U L R c1 c2 S) (hi : i.ok) (ho : notOther i) (hd : i.d = .tup (.str nm :: args))
    (s1 : nm = "store" → ∃ r s d, i = .store r s d) (s2 : (∃ r s d, i = .store r s d) → nm = "store")
    (hp : (∃ r s d, i = .load r s d ∨ i = .store r s d) → ∀ r s d, (i = .load r s d ∨ i = .store r s d) → (atF fs s).sec = false)
    (kt : ∀ S', d.rt (.bl true) S')
    (kn : ∀ fs' c' W' U' d1 d2 lc' v5 v14 v15 S', At gs N p n lw lu l r lc' fs' c' W' U' L R d1 d2 S' → lc' ≠ p → d.nx [sc, at_, some (.ref p), some (dLay gs), some (.ref n), v5, a6, some (.ref lw), some (.ref lu), some (.ref lc'), a10, some (dSt fs' c'), a12, some (.tup (.str nm :: args)), v14, v15, a16] S') :
    c_law_stays_true_1 d [sc, at_, some (.ref p), some (dLay gs), some (.ref n), a5, a6, some (.ref lw), some (.ref lu), some (.ref lc), a10, some (dSt fs c), a12, some (.tup (.str nm :: args)), a14, a15, a16] S := by
  obtain ⟨src, en, ew, eu, ec, el, er, mem, len, kf, sound, flow, lenW, lenU, wordW, wordU, bit1, bit2, cw, cu, cl, cr⟩ := a
  obtain ⟨pn, pw, pu, pl, pr, nw, nu, nl, nr, wu, wl, wr, ul, ur, lr⟩ := ap
  have memw : (∀ x ∈ L, wd x) ∧ ∀ x ∈ R, wd x := by
    have key : ∀ j x y, L[j]? = some x → R[j]? = some y → wd x ∧ wd y := fun j x y h1 h2 => by
      obtain ⟨z1, z2, z3, z4, _⟩ := mem.word j x y h1 h2
      exact ⟨⟨z1, z3⟩, ⟨z2, z4⟩⟩
    have l0 := mem.len0
    have l1 := mem.len1
    refine ⟨fun x hx => ?_, fun x hx => ?_⟩
    · obtain ⟨j, hj⟩ := List.mem_iff_getElem?.mp hx
      have hl := (List.getElem?_eq_some_iff.mp hj).1
      exact (key j x _ hj (List.getElem?_eq_getElem (by omega))).1
    · obtain ⟨j, hj⟩ := List.mem_iff_getElem?.mp hx
      have hl := (List.getElem?_eq_some_iff.mp hj).1
      exact (key j _ x (List.getElem?_eq_getElem (by omega)) hj).2
  rw [eqc_law_stays_true_1]
  ((conv => whnf); (repeat ((first | refine ⟨(by show (0 : Int) < _; first | decide | omega), ?_⟩ | refine ⟨cmul_r (by decide) (by decide), ?_⟩ | refine ⟨cmul_l (by decide) (by decide), ?_⟩ | refine ⟨cmul_l (by omega) (by omega), ?_⟩ | refine ⟨cdiv_v (by omega) (by omega), ?_⟩ | refine ⟨cdiv_c (by decide) (by decide), ?_⟩ | refine ⟨(by decide), ?_⟩ | refine ⟨Nat.le_of_ble_eq_true rfl, ?_⟩ | refine ⟨⟨by decide, by decide, by decide⟩, ?_⟩); (conv => whnf))))
  rw [seqD_ref en]
  ((conv => whnf); (repeat ((first | refine ⟨(by show (0 : Int) < _; first | decide | omega), ?_⟩ | refine ⟨cmul_r (by decide) (by decide), ?_⟩ | refine ⟨cmul_l (by decide) (by decide), ?_⟩ | refine ⟨cmul_l (by omega) (by omega), ?_⟩ | refine ⟨cdiv_v (by omega) (by omega), ?_⟩ | refine ⟨cdiv_c (by decide) (by decide), ?_⟩ | refine ⟨(by decide), ?_⟩ | refine ⟨Nat.le_of_ble_eq_true rfl, ?_⟩ | refine ⟨⟨by decide, by decide, by decide⟩, ?_⟩); (conv => whnf))))
  rw [seqD_ref ec]
  ((conv => whnf); (repeat ((first | refine ⟨(by show (0 : Int) < _; first | decide | omega), ?_⟩ | refine ⟨cmul_r (by decide) (by decide), ?_⟩ | refine ⟨cmul_l (by decide) (by decide), ?_⟩ | refine ⟨cmul_l (by omega) (by omega), ?_⟩ | refine ⟨cdiv_v (by omega) (by omega), ?_⟩ | refine ⟨cdiv_c (by decide) (by decide), ?_⟩ | refine ⟨(by decide), ?_⟩ | refine ⟨Nat.le_of_ble_eq_true rfl, ?_⟩ | refine ⟨⟨by decide, by decide, by decide⟩, ?_⟩); (conv => whnf))))
  rw [← hd]
  refine p_done ok hN hi ho lenW mem.len0 wordW memw.1 bit1 wl ew el (fun e1 => ?_) fun d1 W' L' S1 e1 kk1 ew1 el1 => ?_
  · ((conv => whnf); (repeat ((first | refine ⟨(by show (0 : Int) < _; first | decide | omega), ?_⟩ | refine ⟨cmul_r (by decide) (by decide), ?_⟩ | refine ⟨cmul_l (by decide) (by decide), ?_⟩ | refine ⟨cmul_l (by omega) (by omega), ?_⟩ | refine ⟨cdiv_v (by omega) (by omega), ?_⟩ | refine ⟨cdiv_c (by decide) (by decide), ?_⟩ | refine ⟨(by decide), ?_⟩ | refine ⟨Nat.le_of_ble_eq_true rfl, ?_⟩ | refine ⟨⟨by decide, by decide, by decide⟩, ?_⟩); (conv => whnf))))
    rw [seqD_ref en]
    ((conv => whnf); (repeat ((first | refine ⟨(by show (0 : Int) < _; first | decide | omega), ?_⟩ | refine ⟨cmul_r (by decide) (by decide), ?_⟩ | refine ⟨cmul_l (by decide) (by decide), ?_⟩ | refine ⟨cmul_l (by omega) (by omega), ?_⟩ | refine ⟨cdiv_v (by omega) (by omega), ?_⟩ | refine ⟨cdiv_c (by decide) (by decide), ?_⟩ | refine ⟨(by decide), ?_⟩ | refine ⟨Nat.le_of_ble_eq_true rfl, ?_⟩ | refine ⟨⟨by decide, by decide, by decide⟩, ?_⟩); (conv => whnf))))
    rw [seqD_ref ec]
    ((conv => whnf); (repeat ((first | refine ⟨(by show (0 : Int) < _; first | decide | omega), ?_⟩ | refine ⟨cmul_r (by decide) (by decide), ?_⟩ | refine ⟨cmul_l (by decide) (by decide), ?_⟩ | refine ⟨cmul_l (by omega) (by omega), ?_⟩ | refine ⟨cdiv_v (by omega) (by omega), ?_⟩ | refine ⟨cdiv_c (by decide) (by decide), ?_⟩ | refine ⟨(by decide), ?_⟩ | refine ⟨Nat.le_of_ble_eq_true rfl, ?_⟩ | refine ⟨⟨by decide, by decide, by decide⟩, ?_⟩); (conv => whnf))))
    refine p_done ok hN hi ho lenU mem.len1 wordU memw.2 bit2 ur eu er (fun e2 => ?_) fun d2 U' R' S2 e2 kk2 eu2 er2 => ?_
    · ((conv => whnf); (repeat ((first | refine ⟨(by show (0 : Int) < _; first | decide | omega), ?_⟩ | refine ⟨cmul_r (by decide) (by decide), ?_⟩ | refine ⟨cmul_l (by decide) (by decide), ?_⟩ | refine ⟨cmul_l (by omega) (by omega), ?_⟩ | refine ⟨cdiv_v (by omega) (by omega), ?_⟩ | refine ⟨cdiv_c (by decide) (by decide), ?_⟩ | refine ⟨(by decide), ?_⟩ | refine ⟨Nat.le_of_ble_eq_true rfl, ?_⟩ | refine ⟨⟨by decide, by decide, by decide⟩, ?_⟩); (conv => whnf))))
      exact kt _
    · ((conv => whnf); (repeat ((first | refine ⟨(by show (0 : Int) < _; first | decide | omega), ?_⟩ | refine ⟨cmul_r (by decide) (by decide), ?_⟩ | refine ⟨cmul_l (by decide) (by decide), ?_⟩ | refine ⟨cmul_l (by omega) (by omega), ?_⟩ | refine ⟨cdiv_v (by omega) (by omega), ?_⟩ | refine ⟨cdiv_c (by decide) (by decide), ?_⟩ | refine ⟨(by decide), ?_⟩ | refine ⟨Nat.le_of_ble_eq_true rfl, ?_⟩ | refine ⟨⟨by decide, by decide, by decide⟩, ?_⟩); (conv => whnf))))
      exact kt _
  have en1 := kk1.get (nor nw nl) en
  have ec1 := kk1.get (nor cw cl) ec
  have eu1 := kk1.get (nor wu.symm ul) eu
  have er1 := kk1.get (nor wr.symm lr.symm) er
  ((conv => whnf); (repeat ((first | refine ⟨(by show (0 : Int) < _; first | decide | omega), ?_⟩ | refine ⟨cmul_r (by decide) (by decide), ?_⟩ | refine ⟨cmul_l (by decide) (by decide), ?_⟩ | refine ⟨cmul_l (by omega) (by omega), ?_⟩ | refine ⟨cdiv_v (by omega) (by omega), ?_⟩ | refine ⟨cdiv_c (by decide) (by decide), ?_⟩ | refine ⟨(by decide), ?_⟩ | refine ⟨Nat.le_of_ble_eq_true rfl, ?_⟩ | refine ⟨⟨by decide, by decide, by decide⟩, ?_⟩); (conv => whnf))))
  rw [seqD_ref en1]
  ((conv => whnf); (repeat ((first | refine ⟨(by show (0 : Int) < _; first | decide | omega), ?_⟩ | refine ⟨cmul_r (by decide) (by decide), ?_⟩ | refine ⟨cmul_l (by decide) (by decide), ?_⟩ | refine ⟨cmul_l (by omega) (by omega), ?_⟩ | refine ⟨cdiv_v (by omega) (by omega), ?_⟩ | refine ⟨cdiv_c (by decide) (by decide), ?_⟩ | refine ⟨(by decide), ?_⟩ | refine ⟨Nat.le_of_ble_eq_true rfl, ?_⟩ | refine ⟨⟨by decide, by decide, by decide⟩, ?_⟩); (conv => whnf))))
  rw [seqD_ref ec1]
  ((conv => whnf); (repeat ((first | refine ⟨(by show (0 : Int) < _; first | decide | omega), ?_⟩ | refine ⟨cmul_r (by decide) (by decide), ?_⟩ | refine ⟨cmul_l (by decide) (by decide), ?_⟩ | refine ⟨cmul_l (by omega) (by omega), ?_⟩ | refine ⟨cdiv_v (by omega) (by omega), ?_⟩ | refine ⟨cdiv_c (by decide) (by decide), ?_⟩ | refine ⟨(by decide), ?_⟩ | refine ⟨Nat.le_of_ble_eq_true rfl, ?_⟩ | refine ⟨⟨by decide, by decide, by decide⟩, ?_⟩); (conv => whnf))))
  refine p_done ok hN hi ho lenU mem.len1 wordU memw.2 bit2 ur eu1 er1 (fun e2 => ?_) fun d2 U' R' S2 e2 kk2 eu2 er2 => ?_
  · ((conv => whnf); (repeat ((first | refine ⟨(by show (0 : Int) < _; first | decide | omega), ?_⟩ | refine ⟨cmul_r (by decide) (by decide), ?_⟩ | refine ⟨cmul_l (by decide) (by decide), ?_⟩ | refine ⟨cmul_l (by omega) (by omega), ?_⟩ | refine ⟨cdiv_v (by omega) (by omega), ?_⟩ | refine ⟨cdiv_c (by decide) (by decide), ?_⟩ | refine ⟨(by decide), ?_⟩ | refine ⟨Nat.le_of_ble_eq_true rfl, ?_⟩ | refine ⟨⟨by decide, by decide, by decide⟩, ?_⟩); (conv => whnf))))
    first | refine bcase (fun z => ?_) (fun z => ?_) | refine bcase0 (fun z => ?_) (fun z => ?_) | refine bcase1 (fun z => ?_) (fun z => ?_)
    · ((conv => whnf); (repeat ((first | refine ⟨(by show (0 : Int) < _; first | decide | omega), ?_⟩ | refine ⟨cmul_r (by decide) (by decide), ?_⟩ | refine ⟨cmul_l (by decide) (by decide), ?_⟩ | refine ⟨cmul_l (by omega) (by omega), ?_⟩ | refine ⟨cdiv_v (by omega) (by omega), ?_⟩ | refine ⟨cdiv_c (by decide) (by decide), ?_⟩ | refine ⟨(by decide), ?_⟩ | refine ⟨Nat.le_of_ble_eq_true rfl, ?_⟩ | refine ⟨⟨by decide, by decide, by decide⟩, ?_⟩); (conv => whnf))))
      exact kt _
    · ((conv => whnf); (repeat ((first | refine ⟨(by show (0 : Int) < _; first | decide | omega), ?_⟩ | refine ⟨cmul_r (by decide) (by decide), ?_⟩ | refine ⟨cmul_l (by decide) (by decide), ?_⟩ | refine ⟨cmul_l (by omega) (by omega), ?_⟩ | refine ⟨cdiv_v (by omega) (by omega), ?_⟩ | refine ⟨cdiv_c (by decide) (by decide), ?_⟩ | refine ⟨(by decide), ?_⟩ | refine ⟨Nat.le_of_ble_eq_true rfl, ?_⟩ | refine ⟨⟨by decide, by decide, by decide⟩, ?_⟩); (conv => whnf))))
      exact kt _
  have en2 := kk2.get (nor nu nr) en1
  have ew2 := kk2.get (nor wu wr) ew1
  have el2 := kk2.get (nor ul.symm lr) el1
  have src2 := (src.keep kk1 (nor pw.symm pl.symm)).keep kk2 (nor pu.symm pr.symm)
  obtain ⟨af, same, q1, q2⟩ := after ok hN mem len kf hi ho hp sound flow lenW lenU wordW wordU bit1 bit2 e1 e2
  obtain ⟨len', kf'⟩ := next_ok (gs := gs) (c := c) ok len kf hi
  obtain ⟨sound', flow', lenW', lenU', wordW', wordU', bit1', bit2'⟩ := af
  ((conv => whnf); (repeat ((first | refine ⟨(by show (0 : Int) < _; first | decide | omega), ?_⟩ | refine ⟨cmul_r (by decide) (by decide), ?_⟩ | refine ⟨cmul_l (by decide) (by decide), ?_⟩ | refine ⟨cmul_l (by omega) (by omega), ?_⟩ | refine ⟨cdiv_v (by omega) (by omega), ?_⟩ | refine ⟨cdiv_c (by decide) (by decide), ?_⟩ | refine ⟨(by decide), ?_⟩ | refine ⟨Nat.le_of_ble_eq_true rfl, ?_⟩ | refine ⟨⟨by decide, by decide, by decide⟩, ?_⟩); (conv => whnf))))
  refine bfalse (decide_eq_false (show ¬ d1 < 0 by omega)) ?_
  ((conv => whnf); (repeat ((first | refine ⟨(by show (0 : Int) < _; first | decide | omega), ?_⟩ | refine ⟨cmul_r (by decide) (by decide), ?_⟩ | refine ⟨cmul_l (by decide) (by decide), ?_⟩ | refine ⟨cmul_l (by omega) (by omega), ?_⟩ | refine ⟨cdiv_v (by omega) (by omega), ?_⟩ | refine ⟨cdiv_c (by decide) (by decide), ?_⟩ | refine ⟨(by decide), ?_⟩ | refine ⟨Nat.le_of_ble_eq_true rfl, ?_⟩ | refine ⟨⟨by decide, by decide, by decide⟩, ?_⟩); (conv => whnf))))
  refine bfalse (decide_eq_false (show ¬ d2 < 0 by omega)) ?_
  ((conv => whnf); (repeat ((first | refine ⟨(by show (0 : Int) < _; first | decide | omega), ?_⟩ | refine ⟨cmul_r (by decide) (by decide), ?_⟩ | refine ⟨cmul_l (by decide) (by decide), ?_⟩ | refine ⟨cmul_l (by omega) (by omega), ?_⟩ | refine ⟨cdiv_v (by omega) (by omega), ?_⟩ | refine ⟨cdiv_c (by decide) (by decide), ?_⟩ | refine ⟨(by decide), ?_⟩ | refine ⟨Nat.le_of_ble_eq_true rfl, ?_⟩ | refine ⟨⟨by decide, by decide, by decide⟩, ?_⟩); (conv => whnf))))
  refine p_next ok len kf hi fun J => ?_
  rw [hd]
  have lc1 : n < S2.length ∧ lw < S2.length ∧ lu < S2.length ∧ l < S2.length ∧ r < S2.length ∧ p < S2.length := ⟨lt_of_get en2, lt_of_get ew2, lt_of_get eu2, lt_of_get el2, lt_of_get er2, src2.lt⟩
  have k3 : Kn S2 (S2 ++ [Ob.lst [.int d1, .int d2]] ++ J) := Kp.app.trans .app
  have ec3 := get_old S2 (Ob.lst [.int d1, .int d2]) J
  generalize S2 ++ [Ob.lst [.int d1, .int d2]] ++ J = S3 at k3 ec3
  ((conv => whnf); (repeat ((first | refine ⟨(by show (0 : Int) < _; first | decide | omega), ?_⟩ | refine ⟨cmul_r (by decide) (by decide), ?_⟩ | refine ⟨cmul_l (by decide) (by decide), ?_⟩ | refine ⟨cmul_l (by omega) (by omega), ?_⟩ | refine ⟨cdiv_v (by omega) (by omega), ?_⟩ | refine ⟨cdiv_c (by decide) (by decide), ?_⟩ | refine ⟨(by decide), ?_⟩ | refine ⟨Nat.le_of_ble_eq_true rfl, ?_⟩ | refine ⟨⟨by decide, by decide, by decide⟩, ?_⟩); (conv => whnf))))
  have lenS : (((nextF gs fs c i).map dFa ++ [D.str (fl (nextC gs fs c i))]).length : Int) = 17 := by
    rw [List.length_append, List.length_map, len']
    rfl
  rw [lenS]
  ((conv => whnf); (repeat ((first | refine ⟨(by show (0 : Int) < _; first | decide | omega), ?_⟩ | refine ⟨cmul_r (by decide) (by decide), ?_⟩ | refine ⟨cmul_l (by decide) (by decide), ?_⟩ | refine ⟨cmul_l (by omega) (by omega), ?_⟩ | refine ⟨cdiv_v (by omega) (by omega), ?_⟩ | refine ⟨cdiv_c (by decide) (by decide), ?_⟩ | refine ⟨(by decide), ?_⟩ | refine ⟨Nat.le_of_ble_eq_true rfl, ?_⟩ | refine ⟨⟨by decide, by decide, by decide⟩, ?_⟩); (conv => whnf))))
  refine ⟨fun j ρ S' => ∃ v5, ρ = [sc, at_, some (.ref p), some (dLay gs), some (.ref n), v5, a6, some (.ref lw), some (.ref lu), some (.ref S2.length), a10, some (dSt (nextF gs fs c i) (nextC gs fs c i)), a12, some (.tup (.str nm :: args)), some (.int d1), some (.int d2), a16] ∧ S' = S3, ⟨_, rfl, rfl⟩, fun _ _ _ _ _ => trivial, ?_, ?_⟩
  · rintro j x ρ S' hx ⟨v5, rfl, rfl⟩
    have hj : j < 16 := by
      have := (List.getElem?_eq_some_iff.mp hx).1
      rw [rngD_len] at this
      exact this
    have hx : (rngD 0 16)[j]? = some x := hx
    rw [rngD_at hj, Int.zero_add] at hx
    cases hx
    have rj : rg (j : Int) := ⟨by omega, by omega⟩
    have atf := at_fact (c := nextC gs fs c i) len' rj
    have atw : atI (W'.map D.int) (j : Int) = some (.int (atW W' j)) := atW_at rj.1 (by rw [lenW']; exact rj.2)
    have atu : atI (U'.map D.int) (j : Int) = some (.int (atW U' j)) := atW_at rj.1 (by rw [lenU']; exact rj.2)
    obtain ⟨b1, b2, b3⟩ := sound'.at_ len' lenW' lenU' rj
    ((conv => whnf); (repeat ((first | refine ⟨(by show (0 : Int) < _; first | decide | omega), ?_⟩ | refine ⟨cmul_r (by decide) (by decide), ?_⟩ | refine ⟨cmul_l (by decide) (by decide), ?_⟩ | refine ⟨cmul_l (by omega) (by omega), ?_⟩ | refine ⟨cdiv_v (by omega) (by omega), ?_⟩ | refine ⟨cdiv_c (by decide) (by decide), ?_⟩ | refine ⟨(by decide), ?_⟩ | refine ⟨Nat.le_of_ble_eq_true rfl, ?_⟩ | refine ⟨⟨by decide, by decide, by decide⟩, ?_⟩); (conv => whnf))))
    rw [atf]
    ((conv => whnf); (repeat ((first | refine ⟨(by show (0 : Int) < _; first | decide | omega), ?_⟩ | refine ⟨cmul_r (by decide) (by decide), ?_⟩ | refine ⟨cmul_l (by decide) (by decide), ?_⟩ | refine ⟨cmul_l (by omega) (by omega), ?_⟩ | refine ⟨cdiv_v (by omega) (by omega), ?_⟩ | refine ⟨cdiv_c (by decide) (by decide), ?_⟩ | refine ⟨(by decide), ?_⟩ | refine ⟨Nat.le_of_ble_eq_true rfl, ?_⟩ | refine ⟨⟨by decide, by decide, by decide⟩, ?_⟩); (conv => whnf))))
    rw [seqD_ref (k3.get ew2)]
    ((conv => whnf); (repeat ((first | refine ⟨(by show (0 : Int) < _; first | decide | omega), ?_⟩ | refine ⟨cmul_r (by decide) (by decide), ?_⟩ | refine ⟨cmul_l (by decide) (by decide), ?_⟩ | refine ⟨cmul_l (by omega) (by omega), ?_⟩ | refine ⟨cdiv_v (by omega) (by omega), ?_⟩ | refine ⟨cdiv_c (by decide) (by decide), ?_⟩ | refine ⟨(by decide), ?_⟩ | refine ⟨Nat.le_of_ble_eq_true rfl, ?_⟩ | refine ⟨⟨by decide, by decide, by decide⟩, ?_⟩); (conv => whnf))))
    rw [atw]
    ((conv => whnf); (repeat ((first | refine ⟨(by show (0 : Int) < _; first | decide | omega), ?_⟩ | refine ⟨cmul_r (by decide) (by decide), ?_⟩ | refine ⟨cmul_l (by decide) (by decide), ?_⟩ | refine ⟨cmul_l (by omega) (by omega), ?_⟩ | refine ⟨cdiv_v (by omega) (by omega), ?_⟩ | refine ⟨cdiv_c (by decide) (by decide), ?_⟩ | refine ⟨(by decide), ?_⟩ | refine ⟨Nat.le_of_ble_eq_true rfl, ?_⟩ | refine ⟨⟨by decide, by decide, by decide⟩, ?_⟩); (conv => whnf))))
    rw [seqD_ref (k3.get en2)]
    ((conv => whnf); (repeat ((first | refine ⟨(by show (0 : Int) < _; first | decide | omega), ?_⟩ | refine ⟨cmul_r (by decide) (by decide), ?_⟩ | refine ⟨cmul_l (by decide) (by decide), ?_⟩ | refine ⟨cmul_l (by omega) (by omega), ?_⟩ | refine ⟨cdiv_v (by omega) (by omega), ?_⟩ | refine ⟨cdiv_c (by decide) (by decide), ?_⟩ | refine ⟨(by decide), ?_⟩ | refine ⟨Nat.le_of_ble_eq_true rfl, ?_⟩ | refine ⟨⟨by decide, by decide, by decide⟩, ?_⟩); (conv => whnf))))
    refine p_true (k3.get el2) b1 ?_
    ((conv => whnf); (repeat ((first | refine ⟨(by show (0 : Int) < _; first | decide | omega), ?_⟩ | refine ⟨cmul_r (by decide) (by decide), ?_⟩ | refine ⟨cmul_l (by decide) (by decide), ?_⟩ | refine ⟨cmul_l (by omega) (by omega), ?_⟩ | refine ⟨cdiv_v (by omega) (by omega), ?_⟩ | refine ⟨cdiv_c (by decide) (by decide), ?_⟩ | refine ⟨(by decide), ?_⟩ | refine ⟨Nat.le_of_ble_eq_true rfl, ?_⟩ | refine ⟨⟨by decide, by decide, by decide⟩, ?_⟩); (conv => whnf))))
    rw [atf]
    ((conv => whnf); (repeat ((first | refine ⟨(by show (0 : Int) < _; first | decide | omega), ?_⟩ | refine ⟨cmul_r (by decide) (by decide), ?_⟩ | refine ⟨cmul_l (by decide) (by decide), ?_⟩ | refine ⟨cmul_l (by omega) (by omega), ?_⟩ | refine ⟨cdiv_v (by omega) (by omega), ?_⟩ | refine ⟨cdiv_c (by decide) (by decide), ?_⟩ | refine ⟨(by decide), ?_⟩ | refine ⟨Nat.le_of_ble_eq_true rfl, ?_⟩ | refine ⟨⟨by decide, by decide, by decide⟩, ?_⟩); (conv => whnf))))
    rw [seqD_ref (k3.get eu2)]
    ((conv => whnf); (repeat ((first | refine ⟨(by show (0 : Int) < _; first | decide | omega), ?_⟩ | refine ⟨cmul_r (by decide) (by decide), ?_⟩ | refine ⟨cmul_l (by decide) (by decide), ?_⟩ | refine ⟨cmul_l (by omega) (by omega), ?_⟩ | refine ⟨cdiv_v (by omega) (by omega), ?_⟩ | refine ⟨cdiv_c (by decide) (by decide), ?_⟩ | refine ⟨(by decide), ?_⟩ | refine ⟨Nat.le_of_ble_eq_true rfl, ?_⟩ | refine ⟨⟨by decide, by decide, by decide⟩, ?_⟩); (conv => whnf))))
    rw [atu]
    ((conv => whnf); (repeat ((first | refine ⟨(by show (0 : Int) < _; first | decide | omega), ?_⟩ | refine ⟨cmul_r (by decide) (by decide), ?_⟩ | refine ⟨cmul_l (by decide) (by decide), ?_⟩ | refine ⟨cmul_l (by omega) (by omega), ?_⟩ | refine ⟨cdiv_v (by omega) (by omega), ?_⟩ | refine ⟨cdiv_c (by decide) (by decide), ?_⟩ | refine ⟨(by decide), ?_⟩ | refine ⟨Nat.le_of_ble_eq_true rfl, ?_⟩ | refine ⟨⟨by decide, by decide, by decide⟩, ?_⟩); (conv => whnf))))
    rw [seqD_ref (k3.get en2)]
    ((conv => whnf); (repeat ((first | refine ⟨(by show (0 : Int) < _; first | decide | omega), ?_⟩ | refine ⟨cmul_r (by decide) (by decide), ?_⟩ | refine ⟨cmul_l (by decide) (by decide), ?_⟩ | refine ⟨cmul_l (by omega) (by omega), ?_⟩ | refine ⟨cdiv_v (by omega) (by omega), ?_⟩ | refine ⟨cdiv_c (by decide) (by decide), ?_⟩ | refine ⟨(by decide), ?_⟩ | refine ⟨Nat.le_of_ble_eq_true rfl, ?_⟩ | refine ⟨⟨by decide, by decide, by decide⟩, ?_⟩); (conv => whnf))))
    refine p_true (k3.get er2) b2 ?_
    ((conv => whnf); (repeat ((first | refine ⟨(by show (0 : Int) < _; first | decide | omega), ?_⟩ | refine ⟨cmul_r (by decide) (by decide), ?_⟩ | refine ⟨cmul_l (by decide) (by decide), ?_⟩ | refine ⟨cmul_l (by omega) (by omega), ?_⟩ | refine ⟨cdiv_v (by omega) (by omega), ?_⟩ | refine ⟨cdiv_c (by decide) (by decide), ?_⟩ | refine ⟨(by decide), ?_⟩ | refine ⟨Nat.le_of_ble_eq_true rfl, ?_⟩ | refine ⟨⟨by decide, by decide, by decide⟩, ?_⟩); (conv => whnf))))
    rw [atf]
    ((conv => whnf); (repeat ((first | refine ⟨(by show (0 : Int) < _; first | decide | omega), ?_⟩ | refine ⟨cmul_r (by decide) (by decide), ?_⟩ | refine ⟨cmul_l (by decide) (by decide), ?_⟩ | refine ⟨cmul_l (by omega) (by omega), ?_⟩ | refine ⟨cdiv_v (by omega) (by omega), ?_⟩ | refine ⟨cdiv_c (by decide) (by decide), ?_⟩ | refine ⟨(by decide), ?_⟩ | refine ⟨Nat.le_of_ble_eq_true rfl, ?_⟩ | refine ⟨⟨by decide, by decide, by decide⟩, ?_⟩); (conv => whnf))))
    cases hs : (atF (nextF gs fs c i) (j : Int)).sec
    · ((conv => whnf); (repeat ((first | refine ⟨(by show (0 : Int) < _; first | decide | omega), ?_⟩ | refine ⟨cmul_r (by decide) (by decide), ?_⟩ | refine ⟨cmul_l (by decide) (by decide), ?_⟩ | refine ⟨cmul_l (by omega) (by omega), ?_⟩ | refine ⟨cdiv_v (by omega) (by omega), ?_⟩ | refine ⟨cdiv_c (by decide) (by decide), ?_⟩ | refine ⟨(by decide), ?_⟩ | refine ⟨Nat.le_of_ble_eq_true rfl, ?_⟩ | refine ⟨⟨by decide, by decide, by decide⟩, ?_⟩); (conv => whnf))))
      rw [seqD_ref (k3.get ew2)]
      ((conv => whnf); (repeat ((first | refine ⟨(by show (0 : Int) < _; first | decide | omega), ?_⟩ | refine ⟨cmul_r (by decide) (by decide), ?_⟩ | refine ⟨cmul_l (by decide) (by decide), ?_⟩ | refine ⟨cmul_l (by omega) (by omega), ?_⟩ | refine ⟨cdiv_v (by omega) (by omega), ?_⟩ | refine ⟨cdiv_c (by decide) (by decide), ?_⟩ | refine ⟨(by decide), ?_⟩ | refine ⟨Nat.le_of_ble_eq_true rfl, ?_⟩ | refine ⟨⟨by decide, by decide, by decide⟩, ?_⟩); (conv => whnf))))
      rw [atw]
      ((conv => whnf); (repeat ((first | refine ⟨(by show (0 : Int) < _; first | decide | omega), ?_⟩ | refine ⟨cmul_r (by decide) (by decide), ?_⟩ | refine ⟨cmul_l (by decide) (by decide), ?_⟩ | refine ⟨cmul_l (by omega) (by omega), ?_⟩ | refine ⟨cdiv_v (by omega) (by omega), ?_⟩ | refine ⟨cdiv_c (by decide) (by decide), ?_⟩ | refine ⟨(by decide), ?_⟩ | refine ⟨Nat.le_of_ble_eq_true rfl, ?_⟩ | refine ⟨⟨by decide, by decide, by decide⟩, ?_⟩); (conv => whnf))))
      rw [seqD_ref (k3.get eu2)]
      ((conv => whnf); (repeat ((first | refine ⟨(by show (0 : Int) < _; first | decide | omega), ?_⟩ | refine ⟨cmul_r (by decide) (by decide), ?_⟩ | refine ⟨cmul_l (by decide) (by decide), ?_⟩ | refine ⟨cmul_l (by omega) (by omega), ?_⟩ | refine ⟨cdiv_v (by omega) (by omega), ?_⟩ | refine ⟨cdiv_c (by decide) (by decide), ?_⟩ | refine ⟨(by decide), ?_⟩ | refine ⟨Nat.le_of_ble_eq_true rfl, ?_⟩ | refine ⟨⟨by decide, by decide, by decide⟩, ?_⟩); (conv => whnf))))
      rw [atu]
      ((conv => whnf); (repeat ((first | refine ⟨(by show (0 : Int) < _; first | decide | omega), ?_⟩ | refine ⟨cmul_r (by decide) (by decide), ?_⟩ | refine ⟨cmul_l (by decide) (by decide), ?_⟩ | refine ⟨cmul_l (by omega) (by omega), ?_⟩ | refine ⟨cdiv_v (by omega) (by omega), ?_⟩ | refine ⟨cdiv_c (by decide) (by decide), ?_⟩ | refine ⟨(by decide), ?_⟩ | refine ⟨Nat.le_of_ble_eq_true rfl, ?_⟩ | refine ⟨⟨by decide, by decide, by decide⟩, ?_⟩); (conv => whnf))))
      rw [b3 hs]
      first | refine bcase (fun z => ?_) (fun z => ?_) | refine bcase0 (fun z => ?_) (fun z => ?_) | refine bcase1 (fun z => ?_) (fun z => ?_)
      · exact absurd rfl z
      · exact ⟨_, rfl, rfl⟩
    · exact ⟨_, rfl, rfl⟩
  · rintro ρ S' ⟨v5, rfl, rfl⟩
    have fin : ¬ nm = "store" → (d.nx [sc, at_, some (.ref p), some (dLay gs), some (.ref n), v5, a6, some (.ref lw), some (.ref lu), some (.ref S2.length), a10, some (dSt (nextF gs fs c i) (nextC gs fs c i)), a12, some (.tup (.str nm :: args)), some (.int d1), some (.int d2), a16] S') := fun z => by
      obtain ⟨rfl, rfl⟩ := same fun y => z (s2 y)
      exact kn _ _ _ _ _ _ _ _ _ _ S' ⟨src2.keep k3 id, k3.get en2, k3.get ew2, k3.get eu2, ec3, k3.get el2, k3.get er2, mem, len', kf', sound', flow', lenW', lenU', wordW', wordU', bit1', bit2', by omega, by omega, by omega, by omega⟩ (by omega)
    ((conv => whnf); (repeat ((first | refine ⟨(by show (0 : Int) < _; first | decide | omega), ?_⟩ | refine ⟨cmul_r (by decide) (by decide), ?_⟩ | refine ⟨cmul_l (by decide) (by decide), ?_⟩ | refine ⟨cmul_l (by omega) (by omega), ?_⟩ | refine ⟨cdiv_v (by omega) (by omega), ?_⟩ | refine ⟨cdiv_c (by decide) (by decide), ?_⟩ | refine ⟨(by decide), ?_⟩ | refine ⟨Nat.le_of_ble_eq_true rfl, ?_⟩ | refine ⟨⟨by decide, by decide, by decide⟩, ?_⟩); (conv => whnf))))
    rw [at_carry len']
    ((conv => whnf); (repeat ((first | refine ⟨(by show (0 : Int) < _; first | decide | omega), ?_⟩ | refine ⟨cmul_r (by decide) (by decide), ?_⟩ | refine ⟨cmul_l (by decide) (by decide), ?_⟩ | refine ⟨cmul_l (by omega) (by omega), ?_⟩ | refine ⟨cdiv_v (by omega) (by omega), ?_⟩ | refine ⟨cdiv_c (by decide) (by decide), ?_⟩ | refine ⟨(by decide), ?_⟩ | refine ⟨Nat.le_of_ble_eq_true rfl, ?_⟩ | refine ⟨⟨by decide, by decide, by decide⟩, ?_⟩); (conv => whnf))))
    cases hs : nextC gs fs c i
    · rw [hs] at flow' fin
      rw [flow' rfl] at fin ⊢
      ((conv => whnf); (repeat ((first | refine ⟨(by show (0 : Int) < _; first | decide | omega), ?_⟩ | refine ⟨cmul_r (by decide) (by decide), ?_⟩ | refine ⟨cmul_l (by decide) (by decide), ?_⟩ | refine ⟨cmul_l (by omega) (by omega), ?_⟩ | refine ⟨cdiv_v (by omega) (by omega), ?_⟩ | refine ⟨cdiv_c (by decide) (by decide), ?_⟩ | refine ⟨(by decide), ?_⟩ | refine ⟨Nat.le_of_ble_eq_true rfl, ?_⟩ | refine ⟨⟨by decide, by decide, by decide⟩, ?_⟩); (conv => whnf))))
      first | refine bcase (fun z => ?_) (fun z => ?_) | refine bcase0 (fun z => ?_) (fun z => ?_) | refine bcase1 (fun z => ?_) (fun z => ?_)
      · exact absurd rfl z
      · ((conv => whnf); (repeat ((first | refine ⟨(by show (0 : Int) < _; first | decide | omega), ?_⟩ | refine ⟨cmul_r (by decide) (by decide), ?_⟩ | refine ⟨cmul_l (by decide) (by decide), ?_⟩ | refine ⟨cmul_l (by omega) (by omega), ?_⟩ | refine ⟨cdiv_v (by omega) (by omega), ?_⟩ | refine ⟨cdiv_c (by decide) (by decide), ?_⟩ | refine ⟨(by decide), ?_⟩ | refine ⟨Nat.le_of_ble_eq_true rfl, ?_⟩ | refine ⟨⟨by decide, by decide, by decide⟩, ?_⟩); (conv => whnf))))
        rw [at_0]
        ((conv => whnf); (repeat ((first | refine ⟨(by show (0 : Int) < _; first | decide | omega), ?_⟩ | refine ⟨cmul_r (by decide) (by decide), ?_⟩ | refine ⟨cmul_l (by decide) (by decide), ?_⟩ | refine ⟨cmul_l (by omega) (by omega), ?_⟩ | refine ⟨cdiv_v (by omega) (by omega), ?_⟩ | refine ⟨cdiv_c (by decide) (by decide), ?_⟩ | refine ⟨(by decide), ?_⟩ | refine ⟨Nat.le_of_ble_eq_true rfl, ?_⟩ | refine ⟨⟨by decide, by decide, by decide⟩, ?_⟩); (conv => whnf))))
        first | refine bcase (fun z2 => ?_) (fun z2 => ?_) | refine bcase0 (fun z2 => ?_) (fun z2 => ?_) | refine bcase1 (fun z2 => ?_) (fun z2 => ?_)
        · exact kt _
        · exact fin z2
    · rw [hs] at fin
      ((conv => whnf); (repeat ((first | refine ⟨(by show (0 : Int) < _; first | decide | omega), ?_⟩ | refine ⟨cmul_r (by decide) (by decide), ?_⟩ | refine ⟨cmul_l (by decide) (by decide), ?_⟩ | refine ⟨cmul_l (by omega) (by omega), ?_⟩ | refine ⟨cdiv_v (by omega) (by omega), ?_⟩ | refine ⟨cdiv_c (by decide) (by decide), ?_⟩ | refine ⟨(by decide), ?_⟩ | refine ⟨Nat.le_of_ble_eq_true rfl, ?_⟩ | refine ⟨⟨by decide, by decide, by decide⟩, ?_⟩); (conv => whnf))))
      rw [at_0]
      ((conv => whnf); (repeat ((first | refine ⟨(by show (0 : Int) < _; first | decide | omega), ?_⟩ | refine ⟨cmul_r (by decide) (by decide), ?_⟩ | refine ⟨cmul_l (by decide) (by decide), ?_⟩ | refine ⟨cmul_l (by omega) (by omega), ?_⟩ | refine ⟨cdiv_v (by omega) (by omega), ?_⟩ | refine ⟨cdiv_c (by decide) (by decide), ?_⟩ | refine ⟨(by decide), ?_⟩ | refine ⟨Nat.le_of_ble_eq_true rfl, ?_⟩ | refine ⟨⟨by decide, by decide, by decide⟩, ?_⟩); (conv => whnf))))
      first | refine bcase (fun z2 => ?_) (fun z2 => ?_) | refine bcase0 (fun z2 => ?_) (fun z2 => ?_) | refine bcase1 (fun z2 => ?_) (fun z2 => ?_)
      · exact kt _
      · exact fin z2
end K68

set_option Elab.async false
set_option linter.all false
set_option maxRecDepth 100000
set_option maxHeartbeats 4000000
namespace K68
open PySem PySem.Spec PyProof.Rows L2 DT
theorem p_turns {g h : Rg} {N p n lw lu l r lc nv : Nat} {fs : List Fa} {rs : List Nat} {b : Bool} {W U L R : List Int} {c1 c2 : Int} {S : Sto} {q : DK} {sc at_ a5 a11 a12 a13 a14 a15 a16 : Option D}
    (ok : LayOk [g, h]) (hN : ∀ g' ∈ [g, h], g'.start + g'.size ≤ N) (n0 : 0 < endM h) (n1 : endM h ≤ 20) (ap : Apart p n lw lu l r) (pc : lc ≠ p) (a : At [g, h] N p n lw lu l r lc fs b W U L R c1 c2 S)
    (ev : S[nv]? = some (.lst (rs.map D.ref))) (rl : rs.length = 16) (vals : ∀ (i m : Nat), rs[i]? = some m → ∃ w u f, fs[i]? = some f ∧ S[m]? = some (.lst [.int w, .int u, dFa f])) (kt : ∀ S', q (.bl true) S') :
    c_law_stays_true_2 { nx := fun _ S' => q .non S', rt := q } [sc, at_, some (.ref p), some (dLay [g, h]), some (.ref n), a5, some (.ref nv), some (.ref lw), some (.ref lu), some (.ref lc), some (.str (fl b)), a11, a12, a13, a14, a15, a16] S := by
  have al := a.len
  rw [eqc_law_stays_true_2]
  ((conv => whnf); (repeat ((first | refine ⟨(by show (0 : Int) < _; first | decide | omega), ?_⟩ | refine ⟨cmul_r (by decide) (by decide), ?_⟩ | refine ⟨cmul_l (by decide) (by decide), ?_⟩ | refine ⟨cmul_l (by omega) (by omega), ?_⟩ | refine ⟨cdiv_v (by omega) (by omega), ?_⟩ | refine ⟨cdiv_c (by decide) (by decide), ?_⟩ | refine ⟨(by decide), ?_⟩ | refine ⟨Nat.le_of_ble_eq_true rfl, ?_⟩ | refine ⟨⟨by decide, by decide, by decide⟩, ?_⟩); (conv => whnf))))
  rw [look_of ev]
  conv => whnf
  refine ⟨fun j S' => S'[S.length]? = some (.lst ((fs.take j).map dFa)) ∧ Kn S S', ⟨get_new _ _, .app⟩, fun _ S' _ h => look_of (h.2.get ev), ?_, ?_⟩
  · rintro j x S' hx ⟨e0, k0⟩
    rw [List.getElem?_map] at hx
    obtain ⟨m, hm, rfl⟩ := Option.map_eq_some_iff.mp hx
    obtain ⟨w, u, f, hf, em⟩ := vals j m hm
    have hl := (List.getElem?_eq_some_iff.mp hf).1
    ((conv => whnf); (repeat ((first | refine ⟨(by show (0 : Int) < _; first | decide | omega), ?_⟩ | refine ⟨cmul_r (by decide) (by decide), ?_⟩ | refine ⟨cmul_l (by decide) (by decide), ?_⟩ | refine ⟨cmul_l (by omega) (by omega), ?_⟩ | refine ⟨cdiv_v (by omega) (by omega), ?_⟩ | refine ⟨cdiv_c (by decide) (by decide), ?_⟩ | refine ⟨(by decide), ?_⟩ | refine ⟨Nat.le_of_ble_eq_true rfl, ?_⟩ | refine ⟨⟨by decide, by decide, by decide⟩, ?_⟩); (conv => whnf))))
    rw [seqD_ref (k0.get em)]
    ((conv => whnf); (repeat ((first | refine ⟨(by show (0 : Int) < _; first | decide | omega), ?_⟩ | refine ⟨cmul_r (by decide) (by decide), ?_⟩ | refine ⟨cmul_l (by decide) (by decide), ?_⟩ | refine ⟨cmul_l (by omega) (by omega), ?_⟩ | refine ⟨cdiv_v (by omega) (by omega), ?_⟩ | refine ⟨cdiv_c (by decide) (by decide), ?_⟩ | refine ⟨(by decide), ?_⟩ | refine ⟨Nat.le_of_ble_eq_true rfl, ?_⟩ | refine ⟨⟨by decide, by decide, by decide⟩, ?_⟩); (conv => whnf))))
    rw [look_of e0]
    conv => whnf
    refine ⟨by rw [List.length_map, List.length_take]; omega, ?_, k0.put (Nat.le_refl _)⟩
    rw [get_set e0, List.take_add_one, hf, List.map_append]
    rfl
  · rintro S' ⟨e0, k0⟩
    rw [List.length_map, rl, List.take_of_length_le (by omega)] at e0
    have a' : At [g, h] N p n lw lu l r lc fs b W U L R c1 c2 S' :=
      ⟨a.src.keep k0 id, k0.get a.en, k0.get a.ew, k0.get a.eu, k0.get a.ec, k0.get a.el, k0.get a.er, a.mem, a.len, a.kf, a.sound, a.flow, a.lenW, a.lenU, a.wordW, a.wordU, a.bit1, a.bit2, a.cw, a.cu, a.cl, a.cr⟩
    ((conv => whnf); (repeat ((first | refine ⟨(by show (0 : Int) < _; first | decide | omega), ?_⟩ | refine ⟨cmul_r (by decide) (by decide), ?_⟩ | refine ⟨cmul_l (by decide) (by decide), ?_⟩ | refine ⟨cmul_l (by omega) (by omega), ?_⟩ | refine ⟨cdiv_v (by omega) (by omega), ?_⟩ | refine ⟨cdiv_c (by decide) (by decide), ?_⟩ | refine ⟨(by decide), ?_⟩ | refine ⟨Nat.le_of_ble_eq_true rfl, ?_⟩ | refine ⟨⟨by decide, by decide, by decide⟩, ?_⟩); (conv => whnf))))
    rw [seqD_ref e0]
    ((conv => whnf); (repeat ((first | refine ⟨(by show (0 : Int) < _; first | decide | omega), ?_⟩ | refine ⟨cmul_r (by decide) (by decide), ?_⟩ | refine ⟨cmul_l (by decide) (by decide), ?_⟩ | refine ⟨cmul_l (by omega) (by omega), ?_⟩ | refine ⟨cdiv_v (by omega) (by omega), ?_⟩ | refine ⟨cdiv_c (by decide) (by decide), ?_⟩ | refine ⟨(by decide), ?_⟩ | refine ⟨Nat.le_of_ble_eq_true rfl, ?_⟩ | refine ⟨⟨by decide, by decide, by decide⟩, ?_⟩); (conv => whnf))))
    refine ⟨by rw [List.length_map, al]; exact Nat.le_of_ble_eq_true rfl, ?_⟩
    ((conv => whnf); (repeat ((first | refine ⟨(by show (0 : Int) < _; first | decide | omega), ?_⟩ | refine ⟨cmul_r (by decide) (by decide), ?_⟩ | refine ⟨cmul_l (by decide) (by decide), ?_⟩ | refine ⟨cmul_l (by omega) (by omega), ?_⟩ | refine ⟨cdiv_v (by omega) (by omega), ?_⟩ | refine ⟨cdiv_c (by decide) (by decide), ?_⟩ | refine ⟨(by decide), ?_⟩ | refine ⟨Nat.le_of_ble_eq_true rfl, ?_⟩ | refine ⟨⟨by decide, by decide, by decide⟩, ?_⟩); (conv => whnf))))
    refine ⟨fun j ρ S' => ∃ fs c W U c1 c2 lc v5 v12 v13 v14 v15, ρ = [sc, at_, some (.ref p), some (dLay [g, h]), some (.ref n), v5, some (.ref nv), some (.ref lw), some (.ref lu), some (.ref lc), some (.str (fl b)), some (dSt fs c), v12, v13, v14, v15, a16] ∧ At [g, h] N p n lw lu l r lc fs c W U L R c1 c2 S' ∧ lc ≠ p,
      ⟨fs, b, W, U, c1, c2, lc, _, _, _, _, _, rfl, a', pc⟩, fun _ _ _ _ _ => trivial, ?_, ?_⟩
    · rintro j x ρ S1 hx ⟨fs, c, W, U, c1, c2, lc, v5, v12, v13, v14, v15, rfl, a, pc⟩
      have hj : j < 6 := by
        have := (List.getElem?_eq_some_iff.mp hx).1
        rw [rngD_len] at this
        exact this
      have hx : (rngD 0 6)[j]? = some x := hx
      rw [rngD_at hj, Int.zero_add] at hx
      cases hx
      ((conv => whnf); (repeat ((first | refine ⟨(by show (0 : Int) < _; first | decide | omega), ?_⟩ | refine ⟨cmul_r (by decide) (by decide), ?_⟩ | refine ⟨cmul_l (by decide) (by decide), ?_⟩ | refine ⟨cmul_l (by omega) (by omega), ?_⟩ | refine ⟨cdiv_v (by omega) (by omega), ?_⟩ | refine ⟨cdiv_c (by decide) (by decide), ?_⟩ | refine ⟨(by decide), ?_⟩ | refine ⟨Nat.le_of_ble_eq_true rfl, ?_⟩ | refine ⟨⟨by decide, by decide, by decide⟩, ?_⟩); (conv => whnf))))
      refine p_instr n0 n1 a.src fun i S2 hi ho hS2 k2 => ?_
      have a2 := a.keep ap pc k2 hS2
      obtain ⟨nm, args, hd, s1, s2, s3, s4⟩ := shape hi ho
      rw [hd]
      ((conv => whnf); (repeat ((first | refine ⟨(by show (0 : Int) < _; first | decide | omega), ?_⟩ | refine ⟨cmul_r (by decide) (by decide), ?_⟩ | refine ⟨cmul_l (by decide) (by decide), ?_⟩ | refine ⟨cmul_l (by omega) (by omega), ?_⟩ | refine ⟨cdiv_v (by omega) (by omega), ?_⟩ | refine ⟨cdiv_c (by decide) (by decide), ?_⟩ | refine ⟨(by decide), ?_⟩ | refine ⟨Nat.le_of_ble_eq_true rfl, ?_⟩ | refine ⟨⟨by decide, by decide, by decide⟩, ?_⟩); (conv => whnf))))
      rw [at_0]
      ((conv => whnf); (repeat ((first | refine ⟨(by show (0 : Int) < _; first | decide | omega), ?_⟩ | refine ⟨cmul_r (by decide) (by decide), ?_⟩ | refine ⟨cmul_l (by decide) (by decide), ?_⟩ | refine ⟨cmul_l (by omega) (by omega), ?_⟩ | refine ⟨cdiv_v (by omega) (by omega), ?_⟩ | refine ⟨cdiv_c (by decide) (by decide), ?_⟩ | refine ⟨(by decide), ?_⟩ | refine ⟨Nat.le_of_ble_eq_true rfl, ?_⟩ | refine ⟨⟨by decide, by decide, by decide⟩, ?_⟩); (conv => whnf))))
      rw [show inV (V.str nm) [V.str "load", V.str "store"] = decide (nm ∈ (["load", "store"] : List Str)) from inV_str nm ["load", "store"]]
      first | refine bcase (fun z => ?_) (fun z => ?_) | refine bcase0 (fun z => ?_) (fun z => ?_) | refine bcase1 (fun z => ?_) (fun z => ?_)
      · obtain ⟨r', s', d', hi', rfl, hs'⟩ := s3 z
        ((conv => whnf); (repeat ((first | refine ⟨(by show (0 : Int) < _; first | decide | omega), ?_⟩ | refine ⟨cmul_r (by decide) (by decide), ?_⟩ | refine ⟨cmul_l (by decide) (by decide), ?_⟩ | refine ⟨cmul_l (by omega) (by omega), ?_⟩ | refine ⟨cdiv_v (by omega) (by omega), ?_⟩ | refine ⟨cdiv_c (by decide) (by decide), ?_⟩ | refine ⟨(by decide), ?_⟩ | refine ⟨Nat.le_of_ble_eq_true rfl, ?_⟩ | refine ⟨⟨by decide, by decide, by decide⟩, ?_⟩); (conv => whnf))))
        rw [at_fact a2.len hs']
        ((conv => whnf); (repeat ((first | refine ⟨(by show (0 : Int) < _; first | decide | omega), ?_⟩ | refine ⟨cmul_r (by decide) (by decide), ?_⟩ | refine ⟨cmul_l (by decide) (by decide), ?_⟩ | refine ⟨cmul_l (by omega) (by omega), ?_⟩ | refine ⟨cdiv_v (by omega) (by omega), ?_⟩ | refine ⟨cdiv_c (by decide) (by decide), ?_⟩ | refine ⟨(by decide), ?_⟩ | refine ⟨Nat.le_of_ble_eq_true rfl, ?_⟩ | refine ⟨⟨by decide, by decide, by decide⟩, ?_⟩); (conv => whnf))))
        cases hsec : (atF fs s').sec
        · refine p_turn ok hN ap a2 hi ho hd s1 s2 (fun _ r2 s2 d2 h2 => ?_) kt fun fs' c' W' U' d1 d2 lc' v5 v14 v15 S' a' pc' => ?_
          · rcases hi' with rfl | rfl
            · rcases h2 with h2 | h2
              · cases h2
                exact hsec
              · cases h2
            · rcases h2 with h2 | h2
              · cases h2
              · cases h2
                exact hsec
          · exact ⟨_, _, _, _, _, _, _, _, _, _, _, _, rfl, a', pc'⟩
        · exact ⟨_, _, _, _, _, _, _, _, _, _, _, _, rfl, a2, pc⟩
      · refine p_turn ok hN ap a2 hi ho hd s1 s2 (fun h2 => absurd h2 (s4 z)) kt fun fs' c' W' U' d1 d2 lc' v5 v14 v15 S' a' pc' => ?_
        exact ⟨_, _, _, _, _, _, _, _, _, _, _, _, rfl, a', pc'⟩
    · rintro ρ S1 ⟨fs, c, W, U, c1, c2, lc, v5, v12, v13, v14, v15, rfl, _, _⟩
      exact kt _
/-- the values drawn so far -/
structure Vals (k b : Nat) (L R : List Int) (rs : List Nat) (fs : List Fa) (W U : List Int) (S : Sto) : Prop where
  l0 : rs.length = k
  l1 : fs.length = k
  l2 : W.length = k
  l3 : U.length = k
  kf : ∀ f ∈ fs, okR f
  sound : Sound fs W U L R
  wordW : ∀ w ∈ W, wd w
  wordU : ∀ w ∈ U, wd w
  new : ∀ m ∈ rs, b < m
  at_ : ∀ (i m : Nat), rs[i]? = some m → ∃ w u f, W[i]? = some w ∧ U[i]? = some u ∧ fs[i]? = some f ∧ S[m]? = some (.lst [.int w, .int u, dFa f])
theorem Vals.keep {k b : Nat} {L R : List Int} {rs : List Nat} {fs : List Fa} {W U : List Int} {S S' : Sto} {X : Nat → Prop} (v : Vals k b L R rs fs W U S) (kk : Kp X S S') (h : ∀ m ∈ rs, ¬ X m) : Vals k b L R rs fs W U S' :=
  ⟨v.l0, v.l1, v.l2, v.l3, v.kf, v.sound, v.wordW, v.wordU, v.new, fun i m e => by
    obtain ⟨w, u, f, h1, h2, h3, h4⟩ := v.at_ i m e
    exact ⟨w, u, f, h1, h2, h3, kk.get (h m (List.mem_of_getElem? e)) h4⟩⟩
theorem snoc_get {α : Type} {l : List α} {i n : Nat} {x y : α} (hn : l.length = n) (h : (l ++ [x])[i]? = some y) : (i = n ∧ y = x) ∨ l[i]? = some y := by
  by_cases z : i < n
  · rw [List.getElem?_append_left (by omega)] at h
    exact .inr h
  · have hi := (List.getElem?_eq_some_iff.mp h).1
    rw [List.length_append, hn] at hi
    have hi : i < n + 1 := hi
    have : i = n := by omega
    subst this
    rw [List.getElem?_append_right (by omega), hn, Nat.sub_self] at h
    cases h
    exact .inl ⟨rfl, rfl⟩
theorem get_snoc {α : Type} {l : List α} {n : Nat} {x : α} (hn : l.length = n) : (l ++ [x])[n]? = some x := by
  subst hn
  exact List.getElem?_concat_length ..
theorem get_snoc_old {α : Type} {l : List α} {i : Nat} {x y : α} (h : l[i]? = some y) : (l ++ [x])[i]? = some y := by
  rw [List.getElem?_append_left (List.getElem?_eq_some_iff.mp h).1]
  exact h
theorem mem_snoc {α : Type} {P : α → Prop} {l : List α} {x : α} (h : ∀ y ∈ l, P y) (hx : P x) : ∀ y ∈ l ++ [x], P y := fun y hy => by
  rcases List.mem_append.mp hy with z | z
  · exact h y z
  · rw [List.mem_singleton.mp z]
    exact hx
theorem Vals.add {k b m : Nat} {L R : List Int} {rs : List Nat} {fs : List Fa} {W U : List Int} {S : Sto} {f : Fa} {w u : Int} (v : Vals k b L R rs fs W U S) (hm : b < m) (e : S[m]? = some (.lst [.int w, .int u, dFa f])) (kf : okR f) (bo : Both f w u L R) (hw : wd w) (hu : wd u) :
    Vals (k + 1) b L R (rs ++ [m]) (fs ++ [f]) (W ++ [w]) (U ++ [u]) S := by
  obtain ⟨l0, l1, l2, l3, kfs, so, ww, wu, new, at_⟩ := v
  refine ⟨by rw [List.length_append, l0]; rfl, by rw [List.length_append, l1]; rfl, by rw [List.length_append, l2]; rfl, by rw [List.length_append, l3]; rfl, mem_snoc kfs kf, ?_, mem_snoc ww hw, mem_snoc wu hu, mem_snoc new hm, ?_⟩
  · intro i f' w' u' h1 h2 h3
    rcases snoc_get l1 h1 with ⟨rfl, rfl⟩ | h1
    · rw [get_snoc l2] at h2
      rw [get_snoc l3] at h3
      cases h2
      cases h3
      exact bo
    · have hi := (List.getElem?_eq_some_iff.mp h1).1
      rcases snoc_get l2 h2 with ⟨z, _⟩ | h2
      · omega
      rcases snoc_get l3 h3 with ⟨z, _⟩ | h3
      · omega
      exact so i f' w' u' h1 h2 h3
  · intro i m' h
    rcases snoc_get l0 h with ⟨rfl, rfl⟩ | h
    · exact ⟨w, u, f, get_snoc l2, get_snoc l3, get_snoc l1, e⟩
    · obtain ⟨w', u', f', h1, h2, h3, h4⟩ := at_ i m' h
      exact ⟨w', u', f', get_snoc_old h1, get_snoc_old h2, get_snoc_old h3, h4⟩
theorem ref_ne {S : Sto} {n m l r : Nat} {L : List Int} (e1 : S[n]? = some (.lst [.ref l, .ref r])) (e2 : S[m]? = some (.lst (L.map D.int))) : n ≠ m := by
  rintro rfl
  rw [e1] at e2
  cases L with
  | nil => simp at e2
  | cons x xs => simp at e2
theorem p_stays {ns : List Int} {i : Int} {S : Sto} {q : DK} (i0 : 0 ≤ i) (k : ∀ S', q (.bl true) S') : wp_law_stays_true [.ro (ns.map D.int), .int i] S q := by
  rw [eq_law_stays_true]
  ((conv => whnf); (repeat ((first | refine ⟨(by show (0 : Int) < _; first | decide | omega), ?_⟩ | refine ⟨cmul_r (by decide) (by decide), ?_⟩ | refine ⟨cmul_l (by decide) (by decide), ?_⟩ | refine ⟨cmul_l (by omega) (by omega), ?_⟩ | refine ⟨cdiv_v (by omega) (by omega), ?_⟩ | refine ⟨cdiv_c (by decide) (by decide), ?_⟩ | refine ⟨(by decide), ?_⟩ | refine ⟨Nat.le_of_ble_eq_true rfl, ?_⟩ | refine ⟨⟨by decide, by decide, by decide⟩, ?_⟩); (conv => whnf))))
  refine p_source i0 fun x y x0 => ?_
  ((conv => whnf); (repeat ((first | refine ⟨(by show (0 : Int) < _; first | decide | omega), ?_⟩ | refine ⟨cmul_r (by decide) (by decide), ?_⟩ | refine ⟨cmul_l (by decide) (by decide), ?_⟩ | refine ⟨cmul_l (by omega) (by omega), ?_⟩ | refine ⟨cdiv_v (by omega) (by omega), ?_⟩ | refine ⟨cdiv_c (by decide) (by decide), ?_⟩ | refine ⟨(by decide), ?_⟩ | refine ⟨Nat.le_of_ble_eq_true rfl, ?_⟩ | refine ⟨⟨by decide, by decide, by decide⟩, ?_⟩); (conv => whnf))))
  refine p_layout ⟨x, y, x0, get_new _ _⟩ fun g h S1 ok n0 n1 hS1 k1 => ?_
  ((conv => whnf); (repeat ((first | refine ⟨(by show (0 : Int) < _; first | decide | omega), ?_⟩ | refine ⟨cmul_r (by decide) (by decide), ?_⟩ | refine ⟨cmul_l (by decide) (by decide), ?_⟩ | refine ⟨cmul_l (by omega) (by omega), ?_⟩ | refine ⟨cdiv_v (by omega) (by omega), ?_⟩ | refine ⟨cdiv_c (by decide) (by decide), ?_⟩ | refine ⟨(by decide), ?_⟩ | refine ⟨Nat.le_of_ble_eq_true rfl, ?_⟩ | refine ⟨⟨by decide, by decide, by decide⟩, ?_⟩); (conv => whnf))))
  refine p_memories ok n0 n1 hS1 fun L R n l r S2 hm _ _ _ lr en el er hS2 k2 => ?_
  have nl := ref_ne en el
  have nr := ref_ne en er
  have ln := lt_of_get en
  have ll := lt_of_get el
  have lr' := lt_of_get er
  have lp := hS2.lt
  ((conv => whnf); (repeat ((first | refine ⟨(by show (0 : Int) < _; first | decide | omega), ?_⟩ | refine ⟨cmul_r (by decide) (by decide), ?_⟩ | refine ⟨cmul_l (by decide) (by decide), ?_⟩ | refine ⟨cmul_l (by omega) (by omega), ?_⟩ | refine ⟨cdiv_v (by omega) (by omega), ?_⟩ | refine ⟨cdiv_c (by decide) (by decide), ?_⟩ | refine ⟨(by decide), ?_⟩ | refine ⟨Nat.le_of_ble_eq_true rfl, ?_⟩ | refine ⟨⟨by decide, by decide, by decide⟩, ?_⟩); (conv => whnf))))
  refine ⟨fun j S' => ∃ rs fs W U, S'[S2.length]? = some (.lst (rs.map D.ref)) ∧ Vals j S2.length L R rs fs W U S' ∧ Kn S2 S', ⟨[], [], [], [], get_new _ _, ⟨rfl, rfl, rfl, rfl, fun _ z => (by cases z), fun _ _ _ _ z => (by cases z), fun _ z => (by cases z), fun _ z => (by cases z), fun _ z => (by cases z), fun _ _ z => (by cases z)⟩, .app⟩, fun _ _ _ _ => trivial, ?_, ?_⟩
  · rintro j x S' hx ⟨rs, fs, W, U, e0, v, k0⟩
    have hj : j < 16 := by
      have := (List.getElem?_eq_some_iff.mp hx).1
      rw [rngD_len] at this
      exact this
    have hx : (rngD 0 16)[j]? = some x := hx
    rw [rngD_at hj, Int.zero_add] at hx
    cases hx
    have l0 := k0.len
    ((conv => whnf); (repeat ((first | refine ⟨(by show (0 : Int) < _; first | decide | omega), ?_⟩ | refine ⟨cmul_r (by decide) (by decide), ?_⟩ | refine ⟨cmul_l (by decide) (by decide), ?_⟩ | refine ⟨cmul_l (by omega) (by omega), ?_⟩ | refine ⟨cdiv_v (by omega) (by omega), ?_⟩ | refine ⟨cdiv_c (by decide) (by decide), ?_⟩ | refine ⟨(by decide), ?_⟩ | refine ⟨Nat.le_of_ble_eq_true rfl, ?_⟩ | refine ⟨⟨by decide, by decide, by decide⟩, ?_⟩); (conv => whnf))))
    refine p_source (by omega) fun x y x0 => ?_
    ((conv => whnf); (repeat ((first | refine ⟨(by show (0 : Int) < _; first | decide | omega), ?_⟩ | refine ⟨cmul_r (by decide) (by decide), ?_⟩ | refine ⟨cmul_l (by decide) (by decide), ?_⟩ | refine ⟨cmul_l (by omega) (by omega), ?_⟩ | refine ⟨cdiv_v (by omega) (by omega), ?_⟩ | refine ⟨cdiv_c (by decide) (by decide), ?_⟩ | refine ⟨(by decide), ?_⟩ | refine ⟨Nat.le_of_ble_eq_true rfl, ?_⟩ | refine ⟨⟨by decide, by decide, by decide⟩, ?_⟩); (conv => whnf))))
    have kk : Kn S2 (S' ++ [Ob.lst [.int x, .int y]]) := k0.add
    refine p_value hm (by omega) (by omega) (kk.get en) (kk.get el) (kk.get er) (by omega) (by omega) (by omega) ⟨x, y, x0, get_new _ _⟩ fun w o f S3 hw ho kf t1 t2 t3 k3 => ?_
    have k4 : Kn S' S3 := (Kp.app.trans k3).old fun m z hz => by
      have z : m = S'.length := z
      omega
    have k5 : Kn S' (S3 ++ [Ob.lst [.int w, .int o, dFa f]]) := k4.add
    have l3 := k4.len
    have l1 := lt_of_get e0
    have v3 := (v.keep k5 fun _ _ => id).add (m := S3.length) (by omega) (get_new _ _) kf ⟨t1, t2, t3⟩ hw ho
    have e3 := k5.get e0
    ((conv => whnf); (repeat ((first | refine ⟨(by show (0 : Int) < _; first | decide | omega), ?_⟩ | refine ⟨cmul_r (by decide) (by decide), ?_⟩ | refine ⟨cmul_l (by decide) (by decide), ?_⟩ | refine ⟨cmul_l (by omega) (by omega), ?_⟩ | refine ⟨cdiv_v (by omega) (by omega), ?_⟩ | refine ⟨cdiv_c (by decide) (by decide), ?_⟩ | refine ⟨(by decide), ?_⟩ | refine ⟨Nat.le_of_ble_eq_true rfl, ?_⟩ | refine ⟨⟨by decide, by decide, by decide⟩, ?_⟩); (conv => whnf))))
    rw [look_of e3]
    conv => whnf
    refine ⟨by rw [List.length_map, v.l0]; omega, _, _, _, _, ?_, v3.keep (X := (· = S2.length)) (.set rfl) (fun m hm' => ?_), (k0.trans k5).put (Nat.le_refl _)⟩
    · rw [get_set e3, List.map_append]
      rfl
    · have := v3.new m hm'
      omega
  · rintro S3 ⟨rs, fs, W, U, ev, v, k3⟩
    have v : Vals 16 S2.length L R rs fs W U S3 := v
    have l3 := k3.len
    have lv := lt_of_get ev
    ((conv => whnf); (repeat ((first | refine ⟨(by show (0 : Int) < _; first | decide | omega), ?_⟩ | refine ⟨cmul_r (by decide) (by decide), ?_⟩ | refine ⟨cmul_l (by decide) (by decide), ?_⟩ | refine ⟨cmul_l (by omega) (by omega), ?_⟩ | refine ⟨cdiv_v (by omega) (by omega), ?_⟩ | refine ⟨cdiv_c (by decide) (by decide), ?_⟩ | refine ⟨(by decide), ?_⟩ | refine ⟨Nat.le_of_ble_eq_true rfl, ?_⟩ | refine ⟨⟨by decide, by decide, by decide⟩, ?_⟩); (conv => whnf))))
    rw [look_of ev]
    conv => whnf
    refine ⟨fun j S' => S'[S3.length]? = some (.lst ((W.take j).map D.int)) ∧ Kn S3 S', ⟨get_new _ _, .app⟩, fun _ S' _ h => look_of (h.2.get ev), ?_, ?_⟩
    · rintro j x S' hx ⟨e0, k0⟩
      rw [List.getElem?_map] at hx
      obtain ⟨m, hm, rfl⟩ := Option.map_eq_some_iff.mp hx
      obtain ⟨w, u, f, h1, h2, h3, em⟩ := v.at_ j m hm
      have hl := (List.getElem?_eq_some_iff.mp h1).1
      have l2 := v.l2
      ((conv => whnf); (repeat ((first | refine ⟨(by show (0 : Int) < _; first | decide | omega), ?_⟩ | refine ⟨cmul_r (by decide) (by decide), ?_⟩ | refine ⟨cmul_l (by decide) (by decide), ?_⟩ | refine ⟨cmul_l (by omega) (by omega), ?_⟩ | refine ⟨cdiv_v (by omega) (by omega), ?_⟩ | refine ⟨cdiv_c (by decide) (by decide), ?_⟩ | refine ⟨(by decide), ?_⟩ | refine ⟨Nat.le_of_ble_eq_true rfl, ?_⟩ | refine ⟨⟨by decide, by decide, by decide⟩, ?_⟩); (conv => whnf))))
      rw [seqD_ref (k0.get em)]
      ((conv => whnf); (repeat ((first | refine ⟨(by show (0 : Int) < _; first | decide | omega), ?_⟩ | refine ⟨cmul_r (by decide) (by decide), ?_⟩ | refine ⟨cmul_l (by decide) (by decide), ?_⟩ | refine ⟨cmul_l (by omega) (by omega), ?_⟩ | refine ⟨cdiv_v (by omega) (by omega), ?_⟩ | refine ⟨cdiv_c (by decide) (by decide), ?_⟩ | refine ⟨(by decide), ?_⟩ | refine ⟨Nat.le_of_ble_eq_true rfl, ?_⟩ | refine ⟨⟨by decide, by decide, by decide⟩, ?_⟩); (conv => whnf))))
      rw [look_of e0]
      conv => whnf
      refine ⟨by rw [List.length_map, List.length_take]; omega, ?_, k0.put (Nat.le_refl _)⟩
      rw [get_set e0, List.take_add_one, h1, List.map_append]
      rfl
    rintro S4 ⟨ew, k4⟩
    rw [List.length_map, v.l0, List.take_of_length_le (by rw [v.l2]; omega)] at ew
    have l4 := lt_of_get ew
    have ev4 := k4.get ev
    ((conv => whnf); (repeat ((first | refine ⟨(by show (0 : Int) < _; first | decide | omega), ?_⟩ | refine ⟨cmul_r (by decide) (by decide), ?_⟩ | refine ⟨cmul_l (by decide) (by decide), ?_⟩ | refine ⟨cmul_l (by omega) (by omega), ?_⟩ | refine ⟨cdiv_v (by omega) (by omega), ?_⟩ | refine ⟨cdiv_c (by decide) (by decide), ?_⟩ | refine ⟨(by decide), ?_⟩ | refine ⟨Nat.le_of_ble_eq_true rfl, ?_⟩ | refine ⟨⟨by decide, by decide, by decide⟩, ?_⟩); (conv => whnf))))
    rw [look_of ev4]
    conv => whnf
    refine ⟨fun j S' => S'[S4.length]? = some (.lst ((U.take j).map D.int)) ∧ Kn S4 S', ⟨get_new _ _, .app⟩, fun _ S' _ h => look_of (h.2.get ev4), ?_, ?_⟩
    · rintro j x S' hx ⟨e0, k0⟩
      rw [List.getElem?_map] at hx
      obtain ⟨m, hm, rfl⟩ := Option.map_eq_some_iff.mp hx
      obtain ⟨w, u, f, h1, h2, h3, em⟩ := v.at_ j m hm
      have hl := (List.getElem?_eq_some_iff.mp h2).1
      have l2 := v.l3
      ((conv => whnf); (repeat ((first | refine ⟨(by show (0 : Int) < _; first | decide | omega), ?_⟩ | refine ⟨cmul_r (by decide) (by decide), ?_⟩ | refine ⟨cmul_l (by decide) (by decide), ?_⟩ | refine ⟨cmul_l (by omega) (by omega), ?_⟩ | refine ⟨cdiv_v (by omega) (by omega), ?_⟩ | refine ⟨cdiv_c (by decide) (by decide), ?_⟩ | refine ⟨(by decide), ?_⟩ | refine ⟨Nat.le_of_ble_eq_true rfl, ?_⟩ | refine ⟨⟨by decide, by decide, by decide⟩, ?_⟩); (conv => whnf))))
      rw [seqD_ref (k0.get (k4.get em))]
      ((conv => whnf); (repeat ((first | refine ⟨(by show (0 : Int) < _; first | decide | omega), ?_⟩ | refine ⟨cmul_r (by decide) (by decide), ?_⟩ | refine ⟨cmul_l (by decide) (by decide), ?_⟩ | refine ⟨cmul_l (by omega) (by omega), ?_⟩ | refine ⟨cdiv_v (by omega) (by omega), ?_⟩ | refine ⟨cdiv_c (by decide) (by decide), ?_⟩ | refine ⟨(by decide), ?_⟩ | refine ⟨Nat.le_of_ble_eq_true rfl, ?_⟩ | refine ⟨⟨by decide, by decide, by decide⟩, ?_⟩); (conv => whnf))))
      rw [look_of e0]
      conv => whnf
      refine ⟨by rw [List.length_map, List.length_take]; omega, ?_, k0.put (Nat.le_refl _)⟩
      rw [get_set e0, List.take_add_one, h2, List.map_append]
      rfl
    rintro S5 ⟨eu, k5⟩
    rw [List.length_map, v.l0, List.take_of_length_le (by rw [v.l3]; omega)] at eu
    have l5 := lt_of_get eu
    ((conv => whnf); (repeat ((first | refine ⟨(by show (0 : Int) < _; first | decide | omega), ?_⟩ | refine ⟨cmul_r (by decide) (by decide), ?_⟩ | refine ⟨cmul_l (by decide) (by decide), ?_⟩ | refine ⟨cmul_l (by omega) (by omega), ?_⟩ | refine ⟨cdiv_v (by omega) (by omega), ?_⟩ | refine ⟨cdiv_c (by decide) (by decide), ?_⟩ | refine ⟨(by decide), ?_⟩ | refine ⟨Nat.le_of_ble_eq_true rfl, ?_⟩ | refine ⟨⟨by decide, by decide, by decide⟩, ?_⟩); (conv => whnf))))
    refine p_source (by omega) fun x2 y2 x20 => ?_
    ((conv => whnf); (repeat ((first | refine ⟨(by show (0 : Int) < _; first | decide | omega), ?_⟩ | refine ⟨cmul_r (by decide) (by decide), ?_⟩ | refine ⟨cmul_l (by decide) (by decide), ?_⟩ | refine ⟨cmul_l (by omega) (by omega), ?_⟩ | refine ⟨cdiv_v (by omega) (by omega), ?_⟩ | refine ⟨cdiv_c (by decide) (by decide), ?_⟩ | refine ⟨(by decide), ?_⟩ | refine ⟨Nat.le_of_ble_eq_true rfl, ?_⟩ | refine ⟨⟨by decide, by decide, by decide⟩, ?_⟩); (conv => whnf))))
    generalize hX : S5 ++ [Ob.lst [.int x2, .int y2]] = S6
    have hS6 : Src S6 S5.length := ⟨x2, y2, x20, by rw [← hX]; exact get_new _ _⟩
    have k56 : Kn S5 S6 := by rw [← hX]; exact .app
    have k6 : Kp (· = S5.length) S6 S6 := .rfl
    refine p_draw hS6 (by decide) (by decide) fun v7 S7 a7 b7 hS7 kk7 => ?_
    have k7 := k6.trans kk7
    ((conv => whnf); (repeat ((first | refine ⟨(by show (0 : Int) < _; first | decide | omega), ?_⟩ | refine ⟨cmul_r (by decide) (by decide), ?_⟩ | refine ⟨cmul_l (by decide) (by decide), ?_⟩ | refine ⟨cmul_l (by omega) (by omega), ?_⟩ | refine ⟨cdiv_v (by omega) (by omega), ?_⟩ | refine ⟨cdiv_c (by decide) (by decide), ?_⟩ | refine ⟨(by decide), ?_⟩ | refine ⟨Nat.le_of_ble_eq_true rfl, ?_⟩ | refine ⟨⟨by decide, by decide, by decide⟩, ?_⟩); (conv => whnf))))
    refine p_draw hS7 (by decide) (by decide) fun v8 S8 a8 b8 hS8 kk8 => ?_
    have k8 := k7.trans kk8
    ((conv => whnf); (repeat ((first | refine ⟨(by show (0 : Int) < _; first | decide | omega), ?_⟩ | refine ⟨cmul_r (by decide) (by decide), ?_⟩ | refine ⟨cmul_l (by decide) (by decide), ?_⟩ | refine ⟨cmul_l (by omega) (by omega), ?_⟩ | refine ⟨cdiv_v (by omega) (by omega), ?_⟩ | refine ⟨cdiv_c (by decide) (by decide), ?_⟩ | refine ⟨(by decide), ?_⟩ | refine ⟨Nat.le_of_ble_eq_true rfl, ?_⟩ | refine ⟨⟨by decide, by decide, by decide⟩, ?_⟩); (conv => whnf))))
    have l6 := k56.len
    have l8 := k8.len
    have lS8 := hS8.lt
    generalize hY : S8 ++ [Ob.lst [.int v7, .int v8]] = S9
    have ec : S9[S8.length]? = some (.lst [.int v7, .int v8]) := by rw [← hY]; exact get_new _ _
    have k89 : Kn S8 S9 := by rw [← hY]; exact .app
    have hS9 : Src S9 S5.length := hS8.keep k89 id
    have k59' : Kp (· = S5.length) S5 S9 := (k56.mono fun _ z => z.elim).trans (k8.trans (k89.mono fun _ z => z.elim))
    have k59 : Kn S5 S9 := k59'.old fun m z hz => by
      have z : m = S5.length := z
      omega
    have hN : ∀ g' ∈ [g, h], g'.start + g'.size ≤ ((endM h).toNat : Int) := fun g' hg => by
      simp only [List.mem_cons, List.not_mem_nil, or_false] at hg
      have s1 := ok.sorted 0 1 g h (by omega) rfl rfl
      have s2 := ok.sized h (by simp)
      unfold endM at n0 ⊢
      rcases hg with rfl | rfl <;> omega
    have bit : ∀ v : Int, 0 ≤ v → v < 2 → v = 0 ∨ v = 1 := fun v _ _ => by omega
    have fin : ∀ (b : Bool) (S' : Sto) (a5 a11 a12 a13 a14 a15 a16 : Option D), Kp (· = S5.length) S9 S' → Src S' S5.length → (b = false → v7 = v8) →
        c_law_stays_true_2 { nx := fun _ S' => q .non S', rt := q } [some (.ro (ns.map D.int)), some (.int i), some (.ref S5.length), some (dLay [g, h]), some (.ref n), a5, some (.ref S2.length), some (.ref S3.length), some (.ref S4.length), some (.ref S8.length), some (.str (fl b)), a11, a12, a13, a14, a15, a16] S' := by
      intro b S' a5 a11 a12 a13 a14 a15 a16 kz hz hb
      have go : ∀ {m : Nat} {o : Ob}, S5[m]? = some o → S'[m]? = some o := fun {m o} e => kz.get (show ¬ m = S5.length from Nat.ne_of_lt (lt_of_get e)) (k59.get e)
      have up : Kn S2 S5 := (k3.trans k4).trans k5
      refine p_turns ok hN n0 n1 ⟨by omega, by omega, by omega, by omega, by omega, by omega, by omega, nl, nr, by omega, by omega, by omega, by omega, by omega, lr⟩ (by omega)
        ⟨hz, go (up.get en), go (k5.get ew), go eu, kz.get (show ¬ S8.length = S5.length by omega) ec, go (up.get el), go (up.get er), hm, v.l1, v.kf, v.sound, hb, v.l2, v.l3, v.wordW, v.wordU, bit _ a7 b7, bit _ a8 b8, by omega, by omega, by omega, by omega⟩
        (go (k5.get ev4)) v.l0 (fun j m hj => ?_) k
      obtain ⟨w, u, f, _, _, h3, h4⟩ := v.at_ j m hj
      exact ⟨w, u, f, h3, go (k5.get (k4.get h4))⟩
    rw [seqD_ref ec]
    ((conv => whnf); (repeat ((first | refine ⟨(by show (0 : Int) < _; first | decide | omega), ?_⟩ | refine ⟨cmul_r (by decide) (by decide), ?_⟩ | refine ⟨cmul_l (by decide) (by decide), ?_⟩ | refine ⟨cmul_l (by omega) (by omega), ?_⟩ | refine ⟨cdiv_v (by omega) (by omega), ?_⟩ | refine ⟨cdiv_c (by decide) (by decide), ?_⟩ | refine ⟨(by decide), ?_⟩ | refine ⟨Nat.le_of_ble_eq_true rfl, ?_⟩ | refine ⟨⟨by decide, by decide, by decide⟩, ?_⟩); (conv => whnf))))
    rw [seqD_ref ec]
    ((conv => whnf); (repeat ((first | refine ⟨(by show (0 : Int) < _; first | decide | omega), ?_⟩ | refine ⟨cmul_r (by decide) (by decide), ?_⟩ | refine ⟨cmul_l (by decide) (by decide), ?_⟩ | refine ⟨cmul_l (by omega) (by omega), ?_⟩ | refine ⟨cdiv_v (by omega) (by omega), ?_⟩ | refine ⟨cdiv_c (by decide) (by decide), ?_⟩ | refine ⟨(by decide), ?_⟩ | refine ⟨Nat.le_of_ble_eq_true rfl, ?_⟩ | refine ⟨⟨by decide, by decide, by decide⟩, ?_⟩); (conv => whnf))))
    first | refine bcase (fun z => ?_) (fun z => ?_) | refine bcase0 (fun z => ?_) (fun z => ?_) | refine bcase1 (fun z => ?_) (fun z => ?_)
    · ((conv => whnf); (repeat ((first | refine ⟨(by show (0 : Int) < _; first | decide | omega), ?_⟩ | refine ⟨cmul_r (by decide) (by decide), ?_⟩ | refine ⟨cmul_l (by decide) (by decide), ?_⟩ | refine ⟨cmul_l (by omega) (by omega), ?_⟩ | refine ⟨cdiv_v (by omega) (by omega), ?_⟩ | refine ⟨cdiv_c (by decide) (by decide), ?_⟩ | refine ⟨(by decide), ?_⟩ | refine ⟨Nat.le_of_ble_eq_true rfl, ?_⟩ | refine ⟨⟨by decide, by decide, by decide⟩, ?_⟩); (conv => whnf))))
      refine p_draw hS9 (by decide) (by decide) fun v S10 _ _ hS10 k10 => ?_
      ((conv => whnf); (repeat ((first | refine ⟨(by show (0 : Int) < _; first | decide | omega), ?_⟩ | refine ⟨cmul_r (by decide) (by decide), ?_⟩ | refine ⟨cmul_l (by decide) (by decide), ?_⟩ | refine ⟨cmul_l (by omega) (by omega), ?_⟩ | refine ⟨cdiv_v (by omega) (by omega), ?_⟩ | refine ⟨cdiv_c (by decide) (by decide), ?_⟩ | refine ⟨(by decide), ?_⟩ | refine ⟨Nat.le_of_ble_eq_true rfl, ?_⟩ | refine ⟨⟨by decide, by decide, by decide⟩, ?_⟩); (conv => whnf))))
      first | refine bcase (fun z2 => ?_) (fun z2 => ?_) | refine bcase0 (fun z2 => ?_) (fun z2 => ?_) | refine bcase1 (fun z2 => ?_) (fun z2 => ?_)
      · exact fin false S10 _ _ _ _ _ _ _ k10 hS10 fun _ => z
      · exact fin true S10 _ _ _ _ _ _ _ k10 hS10 fun z => by cases z
    · exact fin true S9 _ _ _ _ _ _ _ .rfl hS9 fun z => by cases z
theorem law_true (ns : List Int) (h : ns.length ≤ 63) : wp_law [.ro (ns.map D.int)] [] (fun d _ => d = .bl true) := by
  rw [eq_law]
  ((conv => whnf); (repeat ((first | refine ⟨(by show (0 : Int) < _; first | decide | omega), ?_⟩ | refine ⟨cmul_r (by decide) (by decide), ?_⟩ | refine ⟨cmul_l (by decide) (by decide), ?_⟩ | refine ⟨cmul_l (by omega) (by omega), ?_⟩ | refine ⟨cdiv_v (by omega) (by omega), ?_⟩ | refine ⟨cdiv_c (by decide) (by decide), ?_⟩ | refine ⟨(by decide), ?_⟩ | refine ⟨Nat.le_of_ble_eq_true rfl, ?_⟩ | refine ⟨⟨by decide, by decide, by decide⟩, ?_⟩); (conv => whnf))))
  refine ⟨fun j ρ S' => ∃ v, ρ = [some (.ro (ns.map D.int)), v], ⟨none, rfl⟩, fun _ _ _ _ _ => trivial, ?_, ?_⟩
  · rintro j x ρ S1 hx ⟨v, rfl⟩
    have hj : j < 6 := by
      have := (List.getElem?_eq_some_iff.mp hx).1
      rw [rngD_len] at this
      exact this
    have hx : (rngD 0 6)[j]? = some x := hx
    rw [rngD_at hj, Int.zero_add] at hx
    cases hx
    ((conv => whnf); (repeat ((first | refine ⟨(by show (0 : Int) < _; first | decide | omega), ?_⟩ | refine ⟨cmul_r (by decide) (by decide), ?_⟩ | refine ⟨cmul_l (by decide) (by decide), ?_⟩ | refine ⟨cmul_l (by omega) (by omega), ?_⟩ | refine ⟨cdiv_v (by omega) (by omega), ?_⟩ | refine ⟨cdiv_c (by decide) (by decide), ?_⟩ | refine ⟨(by decide), ?_⟩ | refine ⟨Nat.le_of_ble_eq_true rfl, ?_⟩ | refine ⟨⟨by decide, by decide, by decide⟩, ?_⟩); (conv => whnf))))
    refine p_stays (by omega) fun S2 => ?_
    ((conv => whnf); (repeat ((first | refine ⟨(by show (0 : Int) < _; first | decide | omega), ?_⟩ | refine ⟨cmul_r (by decide) (by decide), ?_⟩ | refine ⟨cmul_l (by decide) (by decide), ?_⟩ | refine ⟨cmul_l (by omega) (by omega), ?_⟩ | refine ⟨cdiv_v (by omega) (by omega), ?_⟩ | refine ⟨cdiv_c (by decide) (by decide), ?_⟩ | refine ⟨(by decide), ?_⟩ | refine ⟨Nat.le_of_ble_eq_true rfl, ?_⟩ | refine ⟨⟨by decide, by decide, by decide⟩, ?_⟩); (conv => whnf))))
    exact ⟨_, rfl⟩
  · rintro ρ S1 ⟨v, rfl⟩
    rfl
end K68

set_option Elab.async false
set_option linter.all false
set_option maxRecDepth 100000
set_option maxHeartbeats 4000000
namespace K68
open PySem PySem.Spec PyProof.Rows L2 QX DT
def topS (i : Nat) : Stmt := PySem.Challenge.pw_quietsmith_k68_values_stay_in_their_fact.main.body.getD i (.Pass ⟨0, 0, 0, 0⟩)
abbrev s_joined_flow : Stmt := topS 1
abbrev n_joined_flow : List Str := ["flows"]
theorem sc_joined_flow : FnScope ["flows"] ["flows"] (defScope s_joined_flow) := ⟨rfl, rfl, rfl, by decide +kernel, rfl, by decide +kernel, by decide +kernel⟩
abbrev s_mask : Stmt := topS 3
abbrev n_mask : List Str := ["count"]
theorem sc_mask : FnScope ["count"] ["count"] (defScope s_mask) := ⟨rfl, rfl, rfl, by decide +kernel, rfl, by decide +kernel, by decide +kernel⟩
abbrev s_given_register : Stmt := topS 6
abbrev n_given_register : List Str := ["instruction"]
theorem sc_given_register : FnScope ["instruction"] ["instruction"] (defScope s_given_register) := ⟨rfl, rfl, rfl, by decide +kernel, rfl, by decide +kernel, by decide +kernel⟩
abbrev s_region_end : Stmt := topS 9
abbrev n_region_end : List Str := ["region"]
theorem sc_region_end : FnScope ["region"] ["region"] (defScope s_region_end) := ⟨rfl, rfl, rfl, by decide +kernel, rfl, by decide +kernel, by decide +kernel⟩
abbrev s_region_at : Stmt := topS 10
abbrev n_region_at : List Str := ["layout", "address", "low", "high", "middle"]
theorem sc_region_at : FnScope ["layout", "address", "low", "high", "middle"] ["layout", "address"] (defScope s_region_at) := ⟨rfl, rfl, rfl, by decide +kernel, rfl, by decide +kernel, by decide +kernel⟩
abbrev s_addresses : Stmt := topS 19
abbrev n_addresses : List Str := ["state", "instruction", "_", "least", "greatest", "offset"]
theorem sc_addresses : FnScope ["state", "instruction", "_", "least", "greatest", "offset"] ["state", "instruction"] (defScope s_addresses) := ⟨rfl, rfl, rfl, by decide +kernel, rfl, by decide +kernel, by decide +kernel⟩
abbrev s_safe_region : Stmt := topS 20
abbrev n_safe_region : List Str := ["layout", "least", "greatest", "index"]
theorem sc_safe_region : FnScope ["layout", "least", "greatest", "index"] ["layout", "least", "greatest"] (defScope s_safe_region) := ⟨rfl, rfl, rfl, by decide +kernel, rfl, by decide +kernel, by decide +kernel⟩
abbrev s_next_state : Stmt := topS 21
abbrev n_next_state : List Str := ["layout", "state", "instruction", "name", "given", "fact", "carry", "least", "greatest", "facts"]
theorem sc_next_state : FnScope ["layout", "state", "instruction", "name", "given", "fact", "carry", "least", "greatest", "facts"] ["layout", "state", "instruction"] (defScope s_next_state) := ⟨rfl, rfl, rfl, by decide +kernel, rfl, by decide +kernel, by decide +kernel⟩
abbrev s_without_cell : Stmt := topS 22
abbrev n_without_cell : List Str := ["fact"]
theorem sc_without_cell : FnScope ["fact"] ["fact"] (defScope s_without_cell) := ⟨rfl, rfl, rfl, by decide +kernel, rfl, by decide +kernel, by decide +kernel⟩
abbrev s_result_fact : Stmt := topS 23
abbrev n_result_fact : List Str := ["layout", "state", "instruction", "name", "word", "least", "greatest", "first", "second", "flows", "cell"]
theorem sc_result_fact : FnScope ["layout", "state", "instruction", "name", "word", "least", "greatest", "first", "second", "flows", "cell"] ["layout", "state", "instruction"] (defScope s_result_fact) := ⟨rfl, rfl, rfl, by decide +kernel, rfl, by decide +kernel, by decide +kernel⟩
abbrev s_loaded_fact : Stmt := topS 24
abbrev n_loaded_fact : List Str := ["layout", "least", "greatest", "region", "_", "flow", "most"]
theorem sc_loaded_fact : FnScope ["layout", "least", "greatest", "region", "_", "flow", "most"] ["layout", "least", "greatest"] (defScope s_loaded_fact) := ⟨rfl, rfl, rfl, by decide +kernel, rfl, by decide +kernel, by decide +kernel⟩
abbrev s_cell_of_sum : Stmt := topS 25
abbrev n_cell_of_sum : List Str := ["first", "second", "_", "least", "greatest", "most", "cell", "plus"]
theorem sc_cell_of_sum : FnScope ["first", "second", "_", "least", "greatest", "most", "cell", "plus"] ["first", "second"] (defScope s_cell_of_sum) := ⟨rfl, rfl, rfl, by decide +kernel, rfl, by decide +kernel, by decide +kernel⟩
abbrev s_as_words : Stmt := topS 26
abbrev n_as_words : List Str := ["least", "greatest"]
theorem sc_as_words : FnScope ["least", "greatest"] ["least", "greatest"] (defScope s_as_words) := ⟨rfl, rfl, rfl, by decide +kernel, rfl, by decide +kernel, by decide +kernel⟩
abbrev s_shifted : Stmt := topS 27
abbrev n_shifted : List Str := ["name", "least", "greatest", "count"]
theorem sc_shifted : FnScope ["name", "least", "greatest", "count"] ["name", "least", "greatest", "count"] (defScope s_shifted) := ⟨rfl, rfl, rfl, by decide +kernel, rfl, by decide +kernel, by decide +kernel⟩
abbrev s_operated : Stmt := topS 28
abbrev n_operated : List Str := ["name", "first", "second", "_", "low", "high", "least", "greatest", "more"]
theorem sc_operated : FnScope ["name", "first", "second", "_", "low", "high", "least", "greatest", "more"] ["name", "first", "second"] (defScope s_operated) := ⟨rfl, rfl, rfl, by decide +kernel, rfl, by decide +kernel, by decide +kernel⟩
abbrev s_top_of_bits : Stmt := topS 29
abbrev n_top_of_bits : List Str := ["name", "high", "greatest"]
theorem sc_top_of_bits : FnScope ["name", "high", "greatest"] ["name", "high", "greatest"] (defScope s_top_of_bits) := ⟨rfl, rfl, rfl, by decide +kernel, rfl, by decide +kernel, by decide +kernel⟩
abbrev s_law_source : Stmt := topS 31
abbrev n_law_source : List Str := ["script", "k", "cell", "state"]
theorem sc_law_source : FnScope ["script", "k", "cell", "state"] ["script", "k"] (defScope s_law_source) := ⟨rfl, rfl, rfl, by decide +kernel, rfl, by decide +kernel, by decide +kernel⟩
abbrev s_law_draw : Stmt := topS 32
abbrev n_law_draw : List Str := ["source", "many", "worth"]
theorem sc_law_draw : FnScope ["source", "many", "worth"] ["source", "many"] (defScope s_law_draw) := ⟨rfl, rfl, rfl, by decide +kernel, rfl, by decide +kernel, by decide +kernel⟩
abbrev s_law_word : Stmt := topS 33
abbrev n_law_word : List Str := ["source"]
theorem sc_law_word : FnScope ["source"] ["source"] (defScope s_law_word) := ⟨rfl, rfl, rfl, by decide +kernel, rfl, by decide +kernel, by decide +kernel⟩
abbrev s_law_layout : Stmt := topS 34
abbrev n_law_layout : List Str := ["source", "first", "start", "most", "flows"]
theorem sc_law_layout : FnScope ["source", "first", "start", "most", "flows"] ["source"] (defScope s_law_layout) := ⟨rfl, rfl, rfl, by decide +kernel, rfl, by decide +kernel, by decide +kernel⟩
abbrev s_law_flow_at : Stmt := topS 35
abbrev n_law_flow_at : List Str := ["layout", "address", "start", "size", "flow", "most"]
theorem sc_law_flow_at : FnScope ["layout", "address", "start", "size", "flow", "most"] ["layout", "address"] (defScope s_law_flow_at) := ⟨rfl, rfl, rfl, by decide +kernel, rfl, by decide +kernel, by decide +kernel⟩
abbrev s_law_most_at : Stmt := topS 36
abbrev n_law_most_at : List Str := ["layout", "address", "start", "size", "flow", "most"]
theorem sc_law_most_at : FnScope ["layout", "address", "start", "size", "flow", "most"] ["layout", "address"] (defScope s_law_most_at) := ⟨rfl, rfl, rfl, by decide +kernel, rfl, by decide +kernel, by decide +kernel⟩
abbrev s_law_memories : Stmt := topS 37
abbrev n_law_memories : List Str := ["source", "layout", "end", "left", "right", "address", "most", "word", "other"]
theorem sc_law_memories : FnScope ["source", "layout", "end", "left", "right", "address", "most", "word", "other"] ["source", "layout"] (defScope s_law_memories) := ⟨rfl, rfl, rfl, by decide +kernel, rfl, by decide +kernel, by decide +kernel⟩
abbrev s_law_value : Stmt := topS 38
abbrev n_law_value : List Str := ["source", "memories", "word", "other", "cell", "plus", "address", "more", "least", "greatest", "flow"]
theorem sc_law_value : FnScope ["source", "memories", "word", "other", "cell", "plus", "address", "more", "least", "greatest", "flow"] ["source", "memories"] (defScope s_law_value) := ⟨rfl, rfl, rfl, by decide +kernel, rfl, by decide +kernel, by decide +kernel⟩
abbrev s_law_instruction : Stmt := topS 39
abbrev n_law_instruction : List Str := ["source", "layout", "names", "name", "first", "second", "third"]
theorem sc_law_instruction : FnScope ["source", "layout", "names", "name", "first", "second", "third"] ["source", "layout"] (defScope s_law_instruction) := ⟨rfl, rfl, rfl, by decide +kernel, rfl, by decide +kernel, by decide +kernel⟩
abbrev s_law_compute : Stmt := topS 40
abbrev n_law_compute : List Str := ["name", "a", "b", "c", "total"]
theorem sc_law_compute : FnScope ["name", "a", "b", "c", "total"] ["name", "a", "b", "c"] (defScope s_law_compute) := ⟨rfl, rfl, rfl, by decide +kernel, rfl, by decide +kernel, by decide +kernel⟩
abbrev s_law_done : Stmt := topS 41
abbrev n_law_done : List Str := ["layout", "row", "words", "memory", "carry", "name", "address", "most", "second", "answer"]
theorem sc_law_done : FnScope ["layout", "row", "words", "memory", "carry", "name", "address", "most", "second", "answer"] ["layout", "row", "words", "memory", "carry"] (defScope s_law_done) := ⟨rfl, rfl, rfl, by decide +kernel, rfl, by decide +kernel, by decide +kernel⟩
abbrev s_law_true : Stmt := topS 42
abbrev n_law_true : List Str := ["fact", "word", "memory"]
theorem sc_law_true : FnScope ["fact", "word", "memory"] ["fact", "word", "memory"] (defScope s_law_true) := ⟨rfl, rfl, rfl, by decide +kernel, rfl, by decide +kernel, by decide +kernel⟩
abbrev s_law_stays_true : Stmt := topS 43
abbrev n_law_stays_true : List Str := ["script", "at", "source", "layout", "memories", "k", "values", "left", "right", "carries", "flow", "state", "turn", "row", "one", "two", "value"]
theorem sc_law_stays_true : FnScope ["script", "at", "source", "layout", "memories", "k", "values", "left", "right", "carries", "flow", "state", "turn", "row", "one", "two", "value"] ["script", "at"] (defScope s_law_stays_true) := ⟨rfl, rfl, rfl, by decide +kernel, rfl, by decide +kernel, by decide +kernel⟩
abbrev s_law : Stmt := topS 44
abbrev n_law : List Str := ["script", "turn"]
theorem sc_law : FnScope ["script", "turn"] ["script"] (defScope s_law) := ⟨rfl, rfl, rfl, by decide +kernel, rfl, by decide +kernel, by decide +kernel⟩
structure Tx (K : PySem.W.Frag) (mg : Str → Option Value) where
  a_joined_flow : Addr
  d_joined_flow : FuncData
  F_joined_flow : Fun K "joined_flow" "joined_flow" s_joined_flow a_joined_flow d_joined_flow
  b_joined_flow : Binds K d_joined_flow ["flows"] []
  g_joined_flow : mg "joined_flow" = some (.ref a_joined_flow)
  a_mask : Addr
  d_mask : FuncData
  F_mask : Fun K "mask" "mask" s_mask a_mask d_mask
  b_mask : Binds K d_mask ["count"] []
  g_mask : mg "mask" = some (.ref a_mask)
  a_given_register : Addr
  d_given_register : FuncData
  F_given_register : Fun K "given_register" "given_register" s_given_register a_given_register d_given_register
  b_given_register : Binds K d_given_register ["instruction"] []
  g_given_register : mg "given_register" = some (.ref a_given_register)
  a_region_end : Addr
  d_region_end : FuncData
  F_region_end : Fun K "region_end" "region_end" s_region_end a_region_end d_region_end
  b_region_end : Binds K d_region_end ["region"] []
  g_region_end : mg "region_end" = some (.ref a_region_end)
  a_region_at : Addr
  d_region_at : FuncData
  F_region_at : Fun K "region_at" "region_at" s_region_at a_region_at d_region_at
  b_region_at : Binds K d_region_at ["layout", "address"] []
  g_region_at : mg "region_at" = some (.ref a_region_at)
  a_addresses : Addr
  d_addresses : FuncData
  F_addresses : Fun K "addresses" "addresses" s_addresses a_addresses d_addresses
  b_addresses : Binds K d_addresses ["state", "instruction"] []
  g_addresses : mg "addresses" = some (.ref a_addresses)
  a_safe_region : Addr
  d_safe_region : FuncData
  F_safe_region : Fun K "safe_region" "safe_region" s_safe_region a_safe_region d_safe_region
  b_safe_region : Binds K d_safe_region ["layout", "least", "greatest"] []
  g_safe_region : mg "safe_region" = some (.ref a_safe_region)
  a_next_state : Addr
  d_next_state : FuncData
  F_next_state : Fun K "next_state" "next_state" s_next_state a_next_state d_next_state
  b_next_state : Binds K d_next_state ["layout", "state", "instruction"] []
  g_next_state : mg "next_state" = some (.ref a_next_state)
  a_without_cell : Addr
  d_without_cell : FuncData
  F_without_cell : Fun K "without_cell" "without_cell" s_without_cell a_without_cell d_without_cell
  b_without_cell : Binds K d_without_cell ["fact"] []
  g_without_cell : mg "without_cell" = some (.ref a_without_cell)
  a_result_fact : Addr
  d_result_fact : FuncData
  F_result_fact : Fun K "result_fact" "result_fact" s_result_fact a_result_fact d_result_fact
  b_result_fact : Binds K d_result_fact ["layout", "state", "instruction"] []
  g_result_fact : mg "result_fact" = some (.ref a_result_fact)
  a_loaded_fact : Addr
  d_loaded_fact : FuncData
  F_loaded_fact : Fun K "loaded_fact" "loaded_fact" s_loaded_fact a_loaded_fact d_loaded_fact
  b_loaded_fact : Binds K d_loaded_fact ["layout", "least", "greatest"] []
  g_loaded_fact : mg "loaded_fact" = some (.ref a_loaded_fact)
  a_cell_of_sum : Addr
  d_cell_of_sum : FuncData
  F_cell_of_sum : Fun K "cell_of_sum" "cell_of_sum" s_cell_of_sum a_cell_of_sum d_cell_of_sum
  b_cell_of_sum : Binds K d_cell_of_sum ["first", "second"] []
  g_cell_of_sum : mg "cell_of_sum" = some (.ref a_cell_of_sum)
  a_as_words : Addr
  d_as_words : FuncData
  F_as_words : Fun K "as_words" "as_words" s_as_words a_as_words d_as_words
  b_as_words : Binds K d_as_words ["least", "greatest"] []
  g_as_words : mg "as_words" = some (.ref a_as_words)
  a_shifted : Addr
  d_shifted : FuncData
  F_shifted : Fun K "shifted" "shifted" s_shifted a_shifted d_shifted
  b_shifted : Binds K d_shifted ["name", "least", "greatest", "count"] []
  g_shifted : mg "shifted" = some (.ref a_shifted)
  a_operated : Addr
  d_operated : FuncData
  F_operated : Fun K "operated" "operated" s_operated a_operated d_operated
  b_operated : Binds K d_operated ["name", "first", "second"] []
  g_operated : mg "operated" = some (.ref a_operated)
  a_top_of_bits : Addr
  d_top_of_bits : FuncData
  F_top_of_bits : Fun K "top_of_bits" "top_of_bits" s_top_of_bits a_top_of_bits d_top_of_bits
  b_top_of_bits : Binds K d_top_of_bits ["name", "high", "greatest"] []
  g_top_of_bits : mg "top_of_bits" = some (.ref a_top_of_bits)
  a_law_source : Addr
  d_law_source : FuncData
  F_law_source : Fun K "_law_source" "_law_source" s_law_source a_law_source d_law_source
  b_law_source : Binds K d_law_source ["script", "k"] []
  g_law_source : mg "_law_source" = some (.ref a_law_source)
  a_law_draw : Addr
  d_law_draw : FuncData
  F_law_draw : Fun K "_law_draw" "_law_draw" s_law_draw a_law_draw d_law_draw
  b_law_draw : Binds K d_law_draw ["source", "many"] []
  g_law_draw : mg "_law_draw" = some (.ref a_law_draw)
  a_law_word : Addr
  d_law_word : FuncData
  F_law_word : Fun K "_law_word" "_law_word" s_law_word a_law_word d_law_word
  b_law_word : Binds K d_law_word ["source"] []
  g_law_word : mg "_law_word" = some (.ref a_law_word)
  a_law_layout : Addr
  d_law_layout : FuncData
  F_law_layout : Fun K "_law_layout" "_law_layout" s_law_layout a_law_layout d_law_layout
  b_law_layout : Binds K d_law_layout ["source"] []
  g_law_layout : mg "_law_layout" = some (.ref a_law_layout)
  a_law_flow_at : Addr
  d_law_flow_at : FuncData
  F_law_flow_at : Fun K "_law_flow_at" "_law_flow_at" s_law_flow_at a_law_flow_at d_law_flow_at
  b_law_flow_at : Binds K d_law_flow_at ["layout", "address"] []
  g_law_flow_at : mg "_law_flow_at" = some (.ref a_law_flow_at)
  a_law_most_at : Addr
  d_law_most_at : FuncData
  F_law_most_at : Fun K "_law_most_at" "_law_most_at" s_law_most_at a_law_most_at d_law_most_at
  b_law_most_at : Binds K d_law_most_at ["layout", "address"] []
  g_law_most_at : mg "_law_most_at" = some (.ref a_law_most_at)
  a_law_memories : Addr
  d_law_memories : FuncData
  F_law_memories : Fun K "_law_memories" "_law_memories" s_law_memories a_law_memories d_law_memories
  b_law_memories : Binds K d_law_memories ["source", "layout"] []
  g_law_memories : mg "_law_memories" = some (.ref a_law_memories)
  a_law_value : Addr
  d_law_value : FuncData
  F_law_value : Fun K "_law_value" "_law_value" s_law_value a_law_value d_law_value
  b_law_value : Binds K d_law_value ["source", "memories"] []
  g_law_value : mg "_law_value" = some (.ref a_law_value)
  a_law_instruction : Addr
  d_law_instruction : FuncData
  F_law_instruction : Fun K "_law_instruction" "_law_instruction" s_law_instruction a_law_instruction d_law_instruction
  b_law_instruction : Binds K d_law_instruction ["source", "layout"] []
  g_law_instruction : mg "_law_instruction" = some (.ref a_law_instruction)
  a_law_compute : Addr
  d_law_compute : FuncData
  F_law_compute : Fun K "_law_compute" "_law_compute" s_law_compute a_law_compute d_law_compute
  b_law_compute : Binds K d_law_compute ["name", "a", "b", "c"] []
  g_law_compute : mg "_law_compute" = some (.ref a_law_compute)
  a_law_done : Addr
  d_law_done : FuncData
  F_law_done : Fun K "_law_done" "_law_done" s_law_done a_law_done d_law_done
  b_law_done : Binds K d_law_done ["layout", "row", "words", "memory", "carry"] []
  g_law_done : mg "_law_done" = some (.ref a_law_done)
  a_law_true : Addr
  d_law_true : FuncData
  F_law_true : Fun K "_law_true" "_law_true" s_law_true a_law_true d_law_true
  b_law_true : Binds K d_law_true ["fact", "word", "memory"] []
  g_law_true : mg "_law_true" = some (.ref a_law_true)
  a_law_stays_true : Addr
  d_law_stays_true : FuncData
  F_law_stays_true : Fun K "_law_stays_true" "_law_stays_true" s_law_stays_true a_law_stays_true d_law_stays_true
  b_law_stays_true : Binds K d_law_stays_true ["script", "at"] []
  g_law_stays_true : mg "_law_stays_true" = some (.ref a_law_stays_true)
  a_law : Addr
  d_law : FuncData
  F_law : Fun K "law" "law" s_law a_law d_law
  b_law : Binds K d_law ["script"] []
  g_law : mg "law" = some (.ref a_law)
  c_GIVES_NOTHING : Addr
  g_GIVES_NOTHING : mg "GIVES_NOTHING" = some (.ref c_GIVES_NOTHING)
  r_GIVES_NOTHING : RelV (.ref c_GIVES_NOTHING) (.ref c_GIVES_NOTHING)
  t_GREATEST_WORD : Tok
  g_GREATEST_WORD : mg "GREATEST_WORD" = some (.int (65535) t_GREATEST_WORD)
  r_GREATEST_WORD : RelV (.int (65535)) (.int (65535) t_GREATEST_WORD)
  t_REGISTERS : Tok
  g_REGISTERS : mg "REGISTERS" = some (.int (16) t_REGISTERS)
  r_REGISTERS : RelV (.int (16)) (.int (16) t_REGISTERS)
  t_CARRY : Tok
  g_CARRY : mg "CARRY" = some (.int (16) t_CARRY)
  r_CARRY : RelV (.int (16)) (.int (16) t_CARRY)
  c_NO_CELL : Addr
  g_NO_CELL : mg "NO_CELL" = some (.ref c_NO_CELL)
  r_NO_CELL : RelV (.ref c_NO_CELL) (.ref c_NO_CELL)
  t_WORD : Tok
  g_WORD : mg "WORD" = some (.int (65536) t_WORD)
  r_WORD : RelV (.int (65536)) (.int (65536) t_WORD)
  c_CARRYING : Addr
  g_CARRYING : mg "CARRYING" = some (.ref c_CARRYING)
  r_CARRYING : RelV (.ref c_CARRYING) (.ref c_CARRYING)
  c_CHAINED : Addr
  g_CHAINED : mg "CHAINED" = some (.ref c_CHAINED)
  r_CHAINED : RelV (.ref c_CHAINED) (.ref c_CHAINED)
  c_SHIFTS : Addr
  g_SHIFTS : mg "SHIFTS" = some (.ref c_SHIFTS)
  r_SHIFTS : RelV (.ref c_SHIFTS) (.ref c_SHIFTS)
  z_abs : mg "abs" = none
  z_int : mg "int" = none
  z_isinstance : mg "isinstance" = none
  z_len : mg "len" = none
  z_max : mg "max" = none
  z_min : mg "min" = none
  z_range : mg "range" = none
  z_tuple : mg "tuple" = none
  kitd_GIVES_NOTHING : repB K 6 (.ref c_GIVES_NOTHING) d_GIVES_NOTHING = true
  kitd_NO_CELL : repB K 6 (.ref c_NO_CELL) d_NO_CELL = true
  kitd_CARRYING : repB K 6 (.ref c_CARRYING) d_CARRYING = true
  kitd_CHAINED : repB K 6 (.ref c_CHAINED) d_CHAINED = true
  kitd_SHIFTS : repB K 6 (.ref c_SHIFTS) d_SHIFTS = true
abbrev cx {K : PySem.W.Frag} {mg : Str → Option Value} (T : Tx K mg) : DT.Ctx := ⟨K, mg, []⟩
section
variable {P : Program} {w : World} {K : PySem.W.Frag} {mg : Str → Option Value} {base : Heap}
theorem ok_joined_flow (T : Tx K mg) : FnOk P w K mg base CX0 1 T.a_joined_flow T.d_joined_flow ["flows"] (spOf (cx T) 1 wp_joined_flow) := by
  refine T.F_joined_flow.ok sc_joined_flow (fun vs H Q E h => spOf_len h) (fun cdv A outer s H vs Q E hr h => ?_)
  rw [eq_joined_flow] at h
  exact ⟨_, (pss_one (ps_ret (pe_ifExp (pt_cmpR (op_inA (IT.hu65 hr)) pe_str (pv 0) (by rfl)) pe_str pe_str))), fn_body (N := n_joined_flow) (C := cx T) (b := b_joined_flow)
    (ss_ret (se_if (st_test (se_op s2_inA se_str (se_var 0))) se_str se_str)) h rfl⟩
theorem ok_mask (T : Tx K mg) : FnOk P w K mg base CX0 1 T.a_mask T.d_mask ["count"] (spOf (cx T) 1 wp_mask) := by
  refine T.F_mask.ok sc_mask (fun vs H Q E h => spOf_len h) (fun cdv A outer s H vs Q E hr h => ?_)
  rw [eq_mask] at h
  exact ⟨_, (pss_one (ps_ret (pe_op op_sub (pe_op op_shlW pe_int (pv 0)) pe_int))), fn_body (N := n_mask) (C := cx T) (b := b_mask)
    (ss_ret (se_op s2_sub (se_op s2_shl se_int (se_var 0)) se_int)) h rfl⟩
theorem ok_given_register (T : Tx K mg) : FnOk P w K mg base CX0 1 T.a_given_register T.d_given_register ["instruction"] (spOf (cx T) 1 wp_given_register) := by
  refine T.F_given_register.ok sc_given_register (fun vs H Q E h => spOf_len h) (fun cdv A outer s H vs Q E hr h => ?_)
  rw [eq_given_register] at h
  exact ⟨_, (pss_cons (ps_if (pt_cmpR (op_inA (IT.hu65 hr)) (pe_ix ix_seq (pv 0) pe_int (fun _ _ => rfl)) (pe_glob rfl T.g_GIVES_NOTHING T.r_GIVES_NOTHING) (by rfl))
(pss_one (ps_ret (pe_un un_neg pe_int)))
pss_nil)
(pss_one (ps_ret (pe_ix ix_seq (pv 0) pe_int (fun _ _ => rfl))))), fn_body (N := n_given_register) (C := cx T) (b := b_given_register)
    (ss_seq (ss_if (st_test (se_op s2_inA (se_op s2_ix (se_var 0) se_int) (se_c fun w => rep_const T.kitd_GIVES_NOTHING w)))
(ss_ret (se_un s1_neg se_int))
ss_next)
(ss_ret (se_op s2_ix (se_var 0) se_int))) h rfl⟩
theorem ok_region_end (T : Tx K mg) : FnOk P w K mg base CX0 1 T.a_region_end T.d_region_end ["region"] (spOf (cx T) 1 wp_region_end) := by
  refine T.F_region_end.ok sc_region_end (fun vs H Q E h => spOf_len h) (fun cdv A outer s H vs Q E hr h => ?_)
  rw [eq_region_end] at h
  exact ⟨_, (pss_one (ps_ret (pe_op op_addA (pe_ix ix_seq (pv 0) pe_int (fun _ _ => rfl)) (pe_ix ix_seq (pv 0) pe_int (fun _ _ => rfl))))), fn_body (N := n_region_end) (C := cx T) (b := b_region_end)
    (ss_ret (se_op s2_addA (se_op s2_ix (se_var 0) se_int) (se_op s2_ix (se_var 0) se_int))) h rfl⟩
theorem ok_addresses (T : Tx K mg) : FnOk P w K mg base CX0 1 T.a_addresses T.d_addresses ["state", "instruction"] (spOf (cx T) 2 wp_addresses) := by
  refine T.F_addresses.ok sc_addresses (fun vs H Q E h => spOf_len h) (fun cdv A outer s H vs Q E hr h => ?_)
  rw [eq_addresses] at h
  exact ⟨_, (pss_cons (ps_asg (pe_ix ix_seq (pv 0) (pe_ix ix_seq (pv 1) pe_int (fun _ _ => rfl)) (fun _ _ => rfl)) (pg_tup rfl (pgs_cons (pg_name (i := 2) sc_addresses.nd rfl (.inl rfl)) (pgs_cons (pg_name (i := 3) sc_addresses.nd rfl (.inl rfl)) (pgs_cons (pg_name (i := 4) sc_addresses.nd rfl (.inl rfl)) (pgs_cons (pg_name (i := 2) sc_addresses.nd rfl (.inl rfl)) (pgs_cons (pg_name (i := 2) sc_addresses.nd rfl (.inl rfl)) pgs_nil)))))))
(pss_cons (ps_set (i := 5) sc_addresses.nd rfl (.inl rfl) (pe_ix ix_seq (pv 1) pe_int (fun _ _ => rfl)))
(pss_one (ps_ret (pe_tup (pa_cons (pe_op op_addA (pv 3) (pv 5)) (pa_cons (pe_op op_addA (pv 4) (pv 5)) pa_nil))))))), fn_body (N := n_addresses) (C := cx T) (b := b_addresses)
    (ss_seq (ss_asg (se_op s2_ix (se_var 0) (se_op s2_ix (se_var 1) se_int)) (sg_tup (sgs_cons sg_name (sgs_cons sg_name (sgs_cons sg_name (sgs_cons sg_name (sgs_cons sg_name sgs_nil)))))))
(ss_seq (ss_asg (se_op s2_ix (se_var 1) se_int) sg_name)
(ss_ret (se_tup (n := 2) (sa_cons (se_op s2_addA (se_var 3) (se_var 5)) (sa_cons (se_op s2_addA (se_var 4) (se_var 5)) sa_nil)) (by decide))))) h rfl⟩
theorem ok_without_cell (T : Tx K mg) : FnOk P w K mg base CX0 1 T.a_without_cell T.d_without_cell ["fact"] (spOf (cx T) 1 wp_without_cell) := by
  refine T.F_without_cell.ok sc_without_cell (fun vs H Q E h => spOf_len h) (fun cdv A outer s H vs Q E hr h => ?_)
  rw [eq_without_cell] at h
  exact ⟨_, (pss_one (ps_ret (pe_tup (StX.pa_star (pe_slice sl_any (pv 0) po_none (po_some pe_int)) (StX.pa_star (pe_glob rfl T.g_NO_CELL T.r_NO_CELL) pa_nil))))), fn_body (N := n_without_cell) (C := cx T) (b := b_without_cell)
    (ss_ret (se_tupS (sa_star (se_sl ssl_A (se_var 0) so_none (so_some se_int)) (sa_star (se_c fun w => rep_const T.kitd_NO_CELL w) sa_nil)))) h rfl⟩
theorem ok_cell_of_sum (T : Tx K mg) : FnOk P w K mg base CX0 1 T.a_cell_of_sum T.d_cell_of_sum ["first", "second"] (spOf (cx T) 2 wp_cell_of_sum) := by
  refine T.F_cell_of_sum.ok sc_cell_of_sum (fun vs H Q E h => spOf_len h) (fun cdv A outer s H vs Q E hr h => ?_)
  rw [eq_cell_of_sum] at h
  exact ⟨_, (pss_cons (ps_asg (pv 1) (pg_tup rfl (pgs_cons (pg_name (i := 2) sc_cell_of_sum.nd rfl (.inl rfl)) (pgs_cons (pg_name (i := 3) sc_cell_of_sum.nd rfl (.inl rfl)) (pgs_cons (pg_name (i := 4) sc_cell_of_sum.nd rfl (.inl rfl)) (pgs_cons (pg_name (i := 2) sc_cell_of_sum.nd rfl (.inl rfl)) (pgs_cons (pg_name (i := 2) sc_cell_of_sum.nd rfl (.inl rfl)) pgs_nil)))))))
(pss_cons (ps_asg (pv 0) (pg_tup rfl (pgs_cons (pg_name (i := 2) sc_cell_of_sum.nd rfl (.inl rfl)) (pgs_cons (pg_name (i := 2) sc_cell_of_sum.nd rfl (.inl rfl)) (pgs_cons (pg_name (i := 5) sc_cell_of_sum.nd rfl (.inl rfl)) (pgs_cons (pg_name (i := 6) sc_cell_of_sum.nd rfl (.inl rfl)) (pgs_cons (pg_name (i := 7) sc_cell_of_sum.nd rfl (.inl rfl)) pgs_nil)))))))
(pss_cons (ps_if (PW.pt (pw_or (pt_cmpR (op_eqA hr.units) (pv 6) (pe_un un_neg pe_int) (nomark _)) (pw_or (pt_cmpR (op_neA hr.units) (pv 3) (pv 4) (nomark _)) (pw_or (pt_cmpR op_gt (pe_op op_addA (pv 5) (pv 4)) (pe_glob rfl T.g_GREATEST_WORD T.r_GREATEST_WORD) (nomark _)) (pw_or1 (pt_cmpR op_gt (pe_op op_addA (pv 7) (pv 3)) (pe_glob rfl T.g_GREATEST_WORD T.r_GREATEST_WORD) (nomark _)))))))
(pss_one (ps_ret (pe_glob rfl T.g_NO_CELL T.r_NO_CELL)))
pss_nil)
(pss_one (ps_ret (pe_tup (pa_cons (pv 6) (pa_cons (pe_op op_addA (pv 7) (pv 3)) pa_nil)))))))), fn_body (N := n_cell_of_sum) (C := cx T) (b := b_cell_of_sum)
    (ss_seq (ss_asg (se_var 1) (sg_tup (sgs_cons sg_name (sgs_cons sg_name (sgs_cons sg_name (sgs_cons sg_name (sgs_cons sg_name sgs_nil)))))))
(ss_seq (ss_asg (se_var 0) (sg_tup (sgs_cons sg_name (sgs_cons sg_name (sgs_cons sg_name (sgs_cons sg_name (sgs_cons sg_name sgs_nil)))))))
(ss_seq (ss_if (st_or (st_test (se_op s2_eqA (se_var 6) (se_un s1_neg se_int))) (st_or (st_test (se_op s2_neA (se_var 3) (se_var 4))) (st_or (st_test (se_op s2_gt (se_op s2_addA (se_var 5) (se_var 4)) se_int)) (st_test (se_op s2_gt (se_op s2_addA (se_var 7) (se_var 3)) se_int)))))
(ss_ret (se_c fun w => rep_const T.kitd_NO_CELL w))
ss_next)
(ss_ret (se_tup (n := 2) (sa_cons (se_var 6) (sa_cons (se_op s2_addA (se_var 7) (se_var 3)) sa_nil)) (by decide)))))) h rfl⟩
theorem ok_as_words (T : Tx K mg) : FnOk P w K mg base CX0 1 T.a_as_words T.d_as_words ["least", "greatest"] (spOf (cx T) 2 wp_as_words) := by
  refine T.F_as_words.ok sc_as_words (fun vs H Q E h => spOf_len h) (fun cdv A outer s H vs Q E hr h => ?_)
  rw [eq_as_words] at h
  exact ⟨_, (pss_cons (ps_if (PW.pt (pw_or (pt_cmpR op_lt (pv 0) pe_int (nomark _)) (pw_or1 (pt_cmpR op_gt (pv 1) (pe_glob rfl T.g_GREATEST_WORD T.r_GREATEST_WORD) (nomark _)))))
(pss_one (ps_ret (pe_tup (pa_cons pe_int (pa_cons (pe_glob rfl T.g_GREATEST_WORD T.r_GREATEST_WORD) pa_nil)))))
pss_nil)
(pss_one (ps_ret (pe_tup (pa_cons (pv 0) (pa_cons (pv 1) pa_nil)))))), fn_body (N := n_as_words) (C := cx T) (b := b_as_words)
    (ss_seq (ss_if (st_or (st_test (se_op s2_lt (se_var 0) se_int)) (st_test (se_op s2_gt (se_var 1) se_int)))
(ss_ret (se_tup (n := 2) (sa_cons se_int (sa_cons se_int sa_nil)) (by decide)))
ss_next)
(ss_ret (se_tup (n := 2) (sa_cons (se_var 0) (sa_cons (se_var 1) sa_nil)) (by decide)))) h rfl⟩
theorem ok_law_source (T : Tx K mg) : FnOk P w K mg base CX0 1 T.a_law_source T.d_law_source ["script", "k"] (spOf (cx T) 2 wp_law_source) := by
  refine T.F_law_source.ok sc_law_source (fun vs H Q E h => spOf_len h) (fun cdv A outer s H vs Q E hr h => ?_)
  rw [eq_law_source] at h
  exact ⟨_, (pss_cons (ps_set (i := 2) sc_law_source.nd rfl (.inl rfl) pe_int)
(pss_cons (ps_if (pt_cmpR op_gt (pe_callB call_len (by rfl) T.z_len (by decide +kernel) (pa_cons (pv 0) pa_nil)) pe_int (nomark _))
(pss_one (ps_set (i := 2) sc_law_source.nd rfl (.inl rfl) (pe_callB call_abs (by rfl) T.z_abs (by decide +kernel) (pa_cons (pe_ix ix_seq (pv 0) (pe_op op_mod (pv 1) (pe_callB call_len (by rfl) T.z_len (by decide +kernel) (pa_cons (pv 0) pa_nil))) (fun _ _ => rfl)) pa_nil))))
pss_nil)
(pss_cons (ps_set (i := 3) sc_law_source.nd rfl (.inl rfl) (pe_op op_mod (pe_callTy call_int1 (by rfl) T.z_int (by decide +kernel) (pa_cons (pe_op op_addA (pe_op op_addA (pe_op op_mulA (pv 2) pe_int) (pe_op op_mulA (pv 1) pe_int)) pe_int) pa_nil)) pe_int))
(pss_cons (ps_if (pt_cmpR op_lt (pv 2) (pe_op op_pow pe_int pe_int) (nomark _))
(pss_one (ps_ret (pe_lst (pa_cons pe_int (pa_cons (pv 3) pa_nil)))))
pss_nil)
(pss_one (ps_ret (pe_lst (pa_cons (pv 2) (pa_cons (pv 3) pa_nil))))))))), fn_body (N := n_law_source) (C := cx T) (b := b_law_source)
    (ss_seq (ss_asg se_int sg_name)
(ss_seq (ss_if (st_test (se_op s2_gt (se_cb sc_len (sa_cons (se_var 0) sa_nil)) se_int))
(ss_asg (se_cb sc_abs (sa_cons (se_op s2_ix (se_var 0) (se_op s2_mod (se_var 1) (se_cb sc_len (sa_cons (se_var 0) sa_nil)))) sa_nil)) sg_name)
ss_next)
(ss_cut eqc_law_source_1
(ss_seq (ss_asg (se_op s2_mod (se_cb sc_int (sa_cons (se_op s2_addA (se_op s2_addA (se_op s2_mulAA (se_var 2) se_int) (se_op s2_mulAA (se_var 1) se_int)) se_int) sa_nil)) se_int) sg_name)
(ss_seq (ss_if (st_test (se_op s2_lt (se_var 2) (se_op s2_pow se_int se_int)))
(ss_ret (se_lst (n := 2) (sa_cons se_int (sa_cons (se_var 3) sa_nil)) (by decide)))
ss_next)
(ss_ret (se_lst (n := 2) (sa_cons (se_var 2) (sa_cons (se_var 3) sa_nil)) (by decide)))))))) h rfl⟩
theorem ok_law_draw (T : Tx K mg) : FnOk P w K mg base CX0 1 T.a_law_draw T.d_law_draw ["source", "many"] (spOf (cx T) 2 wp_law_draw) := by
  refine T.F_law_draw.ok sc_law_draw (fun vs H Q E h => spOf_len h) (fun cdv A outer s H vs Q E hr h => ?_)
  rw [eq_law_draw] at h
  exact ⟨_, (pss_cons (ps_if (pt_cmpR op_gt (pe_ix ix_seq (pv 0) pe_int (fun _ _ => rfl)) pe_int (nomark _))
(pss_cons (ps_set (i := 2) sc_law_draw.nd rfl (.inl rfl) (pe_op op_mod (pe_callTy call_int1 (by rfl) T.z_int (by decide +kernel) (pa_cons (pe_ix ix_seq (pv 0) pe_int (fun _ _ => rfl)) pa_nil)) (pv 1)))
(pss_cons (ps_asg (pe_op op_fdivW (pe_ix ix_seq (pv 0) pe_int (fun _ _ => rfl)) (pv 1)) (pg_sub (pv 0) pe_int set_list))
(pss_one (ps_ret (pv 2)))))
pss_nil)
(pss_cons (ps_asg (pe_op op_mod (pe_callTy call_int1 (by rfl) T.z_int (by decide +kernel) (pa_cons (pe_op op_addA (pe_op op_mulA (pe_ix ix_seq (pv 0) pe_int (fun _ _ => rfl)) pe_int) pe_int) pa_nil)) pe_int) (pg_sub (pv 0) pe_int set_list))
(pss_one (ps_ret (pe_op op_mod (pe_op op_mod (pe_callTy call_int1 (by rfl) T.z_int (by decide +kernel) (pa_cons (pe_op op_addA (pe_op op_mulA (pe_op op_fdivW (pe_ix ix_seq (pv 0) pe_int (fun _ _ => rfl)) pe_int) pe_int) (pe_op op_mulA (pe_op op_mod (pe_ix ix_seq (pv 0) pe_int (fun _ _ => rfl)) pe_int) pe_int)) pa_nil)) pe_int) (pv 1)))))), fn_body (N := n_law_draw) (C := cx T) (b := b_law_draw)
    (ss_seq (ss_if (st_test (se_op s2_gt (se_op s2_ix (se_var 0) se_int) se_int))
(ss_seq (ss_asg (se_op s2_mod (se_cb sc_int (sa_cons (se_op s2_ix (se_var 0) se_int) sa_nil)) (se_var 1)) sg_name)
(ss_seq (ss_asg (se_op s2_fdiv (se_op s2_ix (se_var 0) se_int) (se_var 1)) (sg_sub (se_var 0) se_int))
(ss_ret (se_var 2))))
ss_next)
(ss_seq (ss_asg (se_op s2_mod (se_cb sc_int (sa_cons (se_op s2_addA (se_op s2_mulAA (se_op s2_ix (se_var 0) se_int) se_int) se_int) sa_nil)) se_int) (sg_sub (se_var 0) se_int))
(ss_ret (se_op s2_mod (se_op s2_mod (se_cb sc_int (sa_cons (se_op s2_addA (se_op s2_mulAA (se_op s2_fdiv (se_op s2_ix (se_var 0) se_int) se_int) se_int) (se_op s2_mulAA (se_op s2_mod (se_op s2_ix (se_var 0) se_int) se_int) se_int)) sa_nil)) se_int) (se_var 1))))) h rfl⟩
theorem ok_law_flow_at (T : Tx K mg) : FnOk P w K mg base CX0 1 T.a_law_flow_at T.d_law_flow_at ["layout", "address"] (spOf (cx T) 2 wp_law_flow_at) := by
  refine T.F_law_flow_at.ok sc_law_flow_at (fun vs H Q E h => spOf_len h) (fun cdv A outer s H vs Q E hr h => ?_)
  rw [eq_law_flow_at] at h
  exact ⟨_, (pss_cons (ps_for PassesOwn.never rfl (pi_seqA (pv 0)) (pg_tup rfl (pgs_cons (pg_name (i := 2) sc_law_flow_at.nd rfl (.inl rfl)) (pgs_cons (pg_name (i := 3) sc_law_flow_at.nd rfl (.inl rfl)) (pgs_cons (pg_name (i := 4) sc_law_flow_at.nd rfl (.inl rfl)) (pgs_cons (pg_name (i := 5) sc_law_flow_at.nd rfl (.inl rfl)) pgs_nil)))))
(pss_one (ps_if (pt_chain op_le op_lt (pv 2) (pv 1) (pe_op op_addA (pv 2) (pv 3)))
(pss_one (ps_ret (pv 4)))
pss_nil)))
(pss_one (ps_ret pe_str))), fn_body (N := n_law_flow_at) (C := cx T) (b := b_law_flow_at)
    (ss_seq (ss_for (si_seqA (se_var 0)) (sg_tup (sgs_cons sg_name (sgs_cons sg_name (sgs_cons sg_name (sgs_cons sg_name sgs_nil)))))
(ss_if (st_test (se_chain s2_le s2_lt (se_var 2) (se_var 1) (se_op s2_addA (se_var 2) (se_var 3))))
(ss_ret (se_var 4))
ss_next))
(ss_ret se_str)) h rfl⟩
theorem ok_law_most_at (T : Tx K mg) : FnOk P w K mg base CX0 1 T.a_law_most_at T.d_law_most_at ["layout", "address"] (spOf (cx T) 2 wp_law_most_at) := by
  refine T.F_law_most_at.ok sc_law_most_at (fun vs H Q E h => spOf_len h) (fun cdv A outer s H vs Q E hr h => ?_)
  rw [eq_law_most_at] at h
  exact ⟨_, (pss_cons (ps_for PassesOwn.never rfl (pi_seqA (pv 0)) (pg_tup rfl (pgs_cons (pg_name (i := 2) sc_law_most_at.nd rfl (.inl rfl)) (pgs_cons (pg_name (i := 3) sc_law_most_at.nd rfl (.inl rfl)) (pgs_cons (pg_name (i := 4) sc_law_most_at.nd rfl (.inl rfl)) (pgs_cons (pg_name (i := 5) sc_law_most_at.nd rfl (.inl rfl)) pgs_nil)))))
(pss_one (ps_if (pt_chain op_le op_lt (pv 2) (pv 1) (pe_op op_addA (pv 2) (pv 3)))
(pss_one (ps_ret (pv 5)))
pss_nil)))
(pss_one (ps_ret (pe_un un_neg pe_int)))), fn_body (N := n_law_most_at) (C := cx T) (b := b_law_most_at)
    (ss_seq (ss_for (si_seqA (se_var 0)) (sg_tup (sgs_cons sg_name (sgs_cons sg_name (sgs_cons sg_name (sgs_cons sg_name sgs_nil)))))
(ss_if (st_test (se_chain s2_le s2_lt (se_var 2) (se_var 1) (se_op s2_addA (se_var 2) (se_var 3))))
(ss_ret (se_var 5))
ss_next))
(ss_ret (se_un s1_neg se_int))) h rfl⟩
theorem ok_law_compute (T : Tx K mg) : FnOk P w K mg base CX0 1 T.a_law_compute T.d_law_compute ["name", "a", "b", "c"] (spOf (cx T) 4 wp_law_compute) := by
  refine T.F_law_compute.ok sc_law_compute (fun vs H Q E h => spOf_len h) (fun cdv A outer s H vs Q E hr h => ?_)
  rw [eq_law_compute] at h
  exact ⟨_, (pss_cons (ps_if (pt_cmpR (op_inA (IT.hu65 hr)) (pv 0) (pe_tup (pa_cons pe_str (pa_cons pe_str pa_nil))) (by rfl))
(pss_cons (ps_set (i := 4) sc_law_compute.nd rfl (.inl rfl) (pe_op op_addA (pe_op op_addA (pv 1) (pv 2)) (pe_op op_mulA (pv 3) (pe_callTy call_int1 (by rfl) T.z_int (by decide +kernel) (pa_cons (pe_cmpR (op_eqA hr.units) (pv 0) pe_str (nomark _)) pa_nil)))))
(pss_one (ps_ret (pe_lst (pa_cons (pe_op op_mod (pv 4) pe_int) (pa_cons (pe_op op_fdivW (pv 4) pe_int) pa_nil))))))
pss_nil)
(pss_cons (ps_if (pt_cmpR (op_inA (IT.hu65 hr)) (pv 0) (pe_tup (pa_cons pe_str (pa_cons pe_str pa_nil))) (by rfl))
(pss_cons (ps_set (i := 4) sc_law_compute.nd rfl (.inl rfl) (pe_op op_sub (pe_op op_sub (pv 1) (pv 2)) (pe_op op_mulA (pv 3) (pe_callTy call_int1 (by rfl) T.z_int (by decide +kernel) (pa_cons (pe_cmpR (op_eqA hr.units) (pv 0) pe_str (nomark _)) pa_nil)))))
(pss_one (ps_ret (pe_lst (pa_cons (pe_op op_mod (pv 4) pe_int) (pa_cons (pe_callTy call_int1 (by rfl) T.z_int (by decide +kernel) (pa_cons (pe_cmpR op_lt (pv 4) pe_int (nomark _)) pa_nil)) pa_nil))))))
pss_nil)
(pss_cons (ps_if (PW.pt (pw_or (pt_cmpR (op_eqA hr.units) (pv 0) pe_str (nomark _)) (pw_or1 (pt_cmpR (op_eqA hr.units) (pv 0) pe_str (nomark _)))))
(pss_one (ps_ret (pe_lst (pa_cons (pe_ix ix_seq (pe_lst (pa_cons (pe_op op_fdivW (pe_op op_mulA (pv 1) (pv 2)) pe_int) (pa_cons (pe_op op_mod (pe_op op_mulA (pv 1) (pv 2)) pe_int) pa_nil))) (pe_callTy call_int1 (by rfl) T.z_int (by decide +kernel) (pa_cons (pe_cmpR (op_eqA hr.units) (pv 0) pe_str (nomark _)) pa_nil)) (fun _ _ => rfl)) (pa_cons (pv 3) pa_nil)))))
pss_nil)
(pss_cons (ps_if (pt_cmpR (op_eqA hr.units) (pv 0) pe_str (nomark _))
(pss_cons (ps_if (pt_cmpR (op_eqA hr.units) (pv 2) pe_int (nomark _))
(pss_one (ps_ret (pe_lst (pa_cons pe_int (pa_cons (pv 3) pa_nil)))))
pss_nil)
(pss_one (ps_ret (pe_lst (pa_cons (pe_op op_fdivW (pv 1) (pv 2)) (pa_cons (pv 3) pa_nil))))))
pss_nil)
(pss_cons (ps_if (pt_cmpR (op_eqA hr.units) (pv 0) pe_str (nomark _))
(pss_one (ps_ret (pe_lst (pa_cons (pe_op op_and (pv 1) (pv 2)) (pa_cons (pv 3) pa_nil)))))
pss_nil)
(pss_cons (ps_if (pt_cmpR (op_eqA hr.units) (pv 0) pe_str (nomark _))
(pss_one (ps_ret (pe_lst (pa_cons (pe_op op_or (pv 1) (pv 2)) (pa_cons (pv 3) pa_nil)))))
pss_nil)
(pss_cons (ps_if (pt_cmpR (op_eqA hr.units) (pv 0) pe_str (nomark _))
(pss_one (ps_ret (pe_lst (pa_cons (pe_op op_xor (pv 1) (pv 2)) (pa_cons (pv 3) pa_nil)))))
pss_nil)
(pss_cons (ps_if (pt_cmpR (op_eqA hr.units) (pv 0) pe_str (nomark _))
(pss_one (ps_ret (pe_lst (pa_cons (pe_callTy call_int1 (by rfl) T.z_int (by decide +kernel) (pa_cons (pe_cmpR op_lt (pv 1) (pv 2) (nomark _)) pa_nil)) (pa_cons (pv 3) pa_nil)))))
pss_nil)
(pss_cons (ps_if (pt_cmpR (op_eqA hr.units) (pv 0) pe_str (nomark _))
(pss_one (ps_ret (pe_lst (pa_cons (pe_op op_mod (pe_op op_shlW (pv 1) (pv 2)) pe_int) (pa_cons (pv 3) pa_nil)))))
pss_nil)
(pss_one (ps_ret (pe_lst (pa_cons (pe_op op_shr (pv 1) (pe_op op_mod (pv 2) pe_int)) (pa_cons (pv 3) pa_nil)))))))))))))), fn_body (N := n_law_compute) (C := cx T) (b := b_law_compute)
    (ss_seq (ss_if (st_test (se_op s2_inA (se_var 0) (se_tup (n := 2) (sa_cons se_str (sa_cons se_str sa_nil)) (by decide))))
(ss_seq (ss_asg (se_op s2_addA (se_op s2_addA (se_var 1) (se_var 2)) (se_op s2_mulAA (se_var 3) (se_cb sc_int (sa_cons (se_op s2_eqA (se_var 0) se_str) sa_nil)))) sg_name)
(ss_ret (se_lst (n := 2) (sa_cons (se_op s2_mod (se_var 4) se_int) (sa_cons (se_op s2_fdiv (se_var 4) se_int) sa_nil)) (by decide))))
ss_next)
(ss_seq (ss_if (st_test (se_op s2_inA (se_var 0) (se_tup (n := 2) (sa_cons se_str (sa_cons se_str sa_nil)) (by decide))))
(ss_seq (ss_asg (se_op s2_sub (se_op s2_sub (se_var 1) (se_var 2)) (se_op s2_mulAA (se_var 3) (se_cb sc_int (sa_cons (se_op s2_eqA (se_var 0) se_str) sa_nil)))) sg_name)
(ss_ret (se_lst (n := 2) (sa_cons (se_op s2_mod (se_var 4) se_int) (sa_cons (se_cb sc_int (sa_cons (se_op s2_lt (se_var 4) se_int) sa_nil)) sa_nil)) (by decide))))
ss_next)
(ss_seq (ss_if (st_or (st_test (se_op s2_eqA (se_var 0) se_str)) (st_test (se_op s2_eqA (se_var 0) se_str)))
(ss_ret (se_lst (n := 2) (sa_cons (se_op s2_ix (se_ro (n := 2) (sa_cons (se_op s2_fdiv (se_op s2_mulAA (se_var 1) (se_var 2)) se_int) (sa_cons (se_op s2_mod (se_op s2_mulAA (se_var 1) (se_var 2)) se_int) sa_nil)) (by decide)) (se_cb sc_int (sa_cons (se_op s2_eqA (se_var 0) se_str) sa_nil))) (sa_cons (se_var 3) sa_nil)) (by decide)))
ss_next)
(ss_seq (ss_if (st_test (se_op s2_eqA (se_var 0) se_str))
(ss_seq (ss_if (st_test (se_op s2_eqA (se_var 2) se_int))
(ss_ret (se_lst (n := 2) (sa_cons se_int (sa_cons (se_var 3) sa_nil)) (by decide)))
ss_next)
(ss_ret (se_lst (n := 2) (sa_cons (se_op s2_fdiv (se_var 1) (se_var 2)) (sa_cons (se_var 3) sa_nil)) (by decide))))
ss_next)
(ss_seq (ss_if (st_test (se_op s2_eqA (se_var 0) se_str))
(ss_ret (se_lst (n := 2) (sa_cons (se_op s2_and (se_var 1) (se_var 2)) (sa_cons (se_var 3) sa_nil)) (by decide)))
ss_next)
(ss_seq (ss_if (st_test (se_op s2_eqA (se_var 0) se_str))
(ss_ret (se_lst (n := 2) (sa_cons (se_op s2_or' (se_var 1) (se_var 2)) (sa_cons (se_var 3) sa_nil)) (by decide)))
ss_next)
(ss_seq (ss_if (st_test (se_op s2_eqA (se_var 0) se_str))
(ss_ret (se_lst (n := 2) (sa_cons (se_op s2_xor (se_var 1) (se_var 2)) (sa_cons (se_var 3) sa_nil)) (by decide)))
ss_next)
(ss_seq (ss_if (st_test (se_op s2_eqA (se_var 0) se_str))
(ss_ret (se_lst (n := 2) (sa_cons (se_cb sc_int (sa_cons (se_op s2_lt (se_var 1) (se_var 2)) sa_nil)) (sa_cons (se_var 3) sa_nil)) (by decide)))
ss_next)
(ss_seq (ss_if (st_test (se_op s2_eqA (se_var 0) se_str))
(ss_ret (se_lst (n := 2) (sa_cons (se_op s2_mod (se_op s2_shl (se_var 1) (se_var 2)) se_int) (sa_cons (se_var 3) sa_nil)) (by decide)))
ss_next)
(ss_ret (se_lst (n := 2) (sa_cons (se_op s2_shr (se_var 1) (se_op s2_mod (se_var 2) se_int)) (sa_cons (se_var 3) sa_nil)) (by decide)))))))))))) h rfl⟩
theorem ok_law_true (T : Tx K mg) : FnOk P w K mg base CX0 1 T.a_law_true T.d_law_true ["fact", "word", "memory"] (spOf (cx T) 3 wp_law_true) := by
  refine T.F_law_true.ok sc_law_true (fun vs H Q E h => spOf_len h) (fun cdv A outer s H vs Q E hr h => ?_)
  rw [eq_law_true] at h
  exact ⟨_, (pss_cons (ps_if (PW.pt (pw_or (pt_not (pt_truth (pe_callB call_isi (by rfl) T.z_isinstance (by decide +kernel) (pa_cons (pv 0) (pa_cons (pe_bltn (v := .ty "tuple") (u := .type "tuple") (by rfl) T.z_tuple (by decide +kernel) rfl) pa_nil))) (by intro _; rfl))) (pw_or1 (pt_cmpR (op_neA hr.units) (pe_callB call_len (by rfl) T.z_len (by decide +kernel) (pa_cons (pv 0) pa_nil)) pe_int (nomark _)))))
(pss_one (ps_ret pe_bl))
pss_nil)
(pss_cons (ps_if (pt_not (pt_chain op_le op_le (pe_ix ix_seq (pv 0) pe_int (fun _ _ => rfl)) (pv 1) (pe_ix ix_seq (pv 0) pe_int (fun _ _ => rfl))))
(pss_one (ps_ret pe_bl))
pss_nil)
(pss_one (ps_ret (pe_orT (pe_cmpR (op_eqA hr.units) (pe_ix ix_seq (pv 0) pe_int (fun _ _ => rfl)) (pe_un un_neg pe_int) (nomark _)) (pe_one (pe_andT (pe_cmpR op_lt (pe_ix ix_seq (pv 0) pe_int (fun _ _ => rfl)) (pe_callB call_len (by rfl) T.z_len (by decide +kernel) (pa_cons (pv 2) pa_nil)) (nomark _)) (pe_one (pe_cmpR (op_eqA hr.units) (pv 1) (pe_op op_addA (pe_ix ix_seq (pv 2) (pe_ix ix_seq (pv 0) pe_int (fun _ _ => rfl)) (fun _ _ => rfl)) (pe_ix ix_seq (pv 0) pe_int (fun _ _ => rfl))) (nomark _)))))))))), fn_body (N := n_law_true) (C := cx T) (b := b_law_true)
    (ss_seq (ss_if (st_or (st_not (st_tru (se_cb sc_isi (sa_cons (se_var 0) (sa_cons se_con sa_nil))))) (st_test (se_op s2_neA (se_cb sc_len (sa_cons (se_var 0) sa_nil)) se_int)))
(ss_ret se_bl)
ss_next)
(ss_seq (ss_if (st_not (st_test (se_chain s2_le s2_le (se_op s2_ix (se_var 0) se_int) (se_var 1) (se_op s2_ix (se_var 0) se_int))))
(ss_ret se_bl)
ss_next)
(ss_ret (se_orT (se_op s2_eqA (se_op s2_ix (se_var 0) se_int) (se_un s1_neg se_int)) (se_andT (se_op s2_lt (se_op s2_ix (se_var 0) se_int) (se_cb sc_len (sa_cons (se_var 2) sa_nil))) (se_op s2_eqA (se_var 1) (se_op s2_addA (se_op s2_ix (se_var 2) (se_op s2_ix (se_var 0) se_int)) (se_op s2_ix (se_var 0) se_int)))))))) h rfl⟩
theorem ok_region_at (T : Tx K mg) : FnOk P w K mg base CX0 2 T.a_region_at T.d_region_at ["layout", "address"] (spOf (cx T) 2 wp_region_at) := by
  have G_region_end := ok_region_end (P := P) (w := w) (base := base) T
  refine T.F_region_at.ok sc_region_at (fun vs H Q E h => spOf_len h) (fun cdv A outer s H vs Q E hr h => ?_)
  have hr_region_end : Room 1 _ := hr.mono (by decide)
  rw [eq_region_at] at h
  exact ⟨_, (pss_cons (ps_set (i := 2) sc_region_at.nd rfl (.inl rfl) pe_int)
(pss_cons (ps_set (i := 3) sc_region_at.nd rfl (.inl rfl) (pe_callB call_len (by rfl) T.z_len (by decide +kernel) (pa_cons (pv 0) pa_nil)))
(pss_cons (ps_while PassesOwn.never (pt_cmpR op_lt (pv 2) (pv 3) (nomark _))
(pss_cons (ps_set (i := 4) sc_region_at.nd rfl (.inl rfl) (pe_op op_fdivW (pe_op op_addA (pv 2) (pv 3)) pe_int))
(pss_one (ps_if (pt_cmpR op_le (pe_ix ix_seq (pe_ix ix_seq (pv 0) (pv 4) (fun _ _ => rfl)) pe_int (fun _ _ => rfl)) (pv 1) (nomark _))
(pss_one (ps_set (i := 2) sc_region_at.nd rfl (.inl rfl) (pe_op op_addA (pv 4) pe_int)))
(pss_one (ps_set (i := 3) sc_region_at.nd rfl (.inl rfl) (pv 4)))))))
(pss_cons (ps_if (PW.pt (pw_or (pt_cmpR (op_eqA hr.units) (pv 2) pe_int (nomark _)) (pw_or1 (pt_cmpR op_ge (pv 1) (pe_call G_region_end hr_region_end (by rfl) T.g_region_end T.F_region_end.kp T.b_region_end .nil pass0 (pa_cons (pe_ix ix_seq (pv 0) (pe_op op_sub (pv 2) pe_int) (fun _ _ => rfl)) pa_nil)) (nomark _)))))
(pss_one (ps_ret (pe_un un_neg pe_int)))
pss_nil)
(pss_one (ps_ret (pe_op op_sub (pv 2) pe_int))))))), fn_body (N := n_region_at) (C := cx T) (b := b_region_at)
    (ss_seq (ss_asg se_int sg_name)
(ss_seq (ss_asg (se_cb sc_len (sa_cons (se_var 0) sa_nil)) sg_name)
(ss_seq (ss_while (st_test (se_op s2_lt (se_var 2) (se_var 3)))
(ss_seq (ss_asg (se_op s2_fdiv (se_op s2_addA (se_var 2) (se_var 3)) se_int) sg_name)
(ss_if (st_test (se_op s2_le (se_op s2_ix (se_op s2_ix (se_var 0) (se_var 4)) se_int) (se_var 1)))
(ss_asg (se_op s2_addA (se_var 4) se_int) sg_name)
(ss_asg (se_var 4) sg_name))))
(ss_seq (ss_if (st_or (st_test (se_op s2_eqA (se_var 2) se_int)) (st_test (se_op s2_ge (se_var 1) (se_call (m := 1) (sa_cons (se_op s2_ix (se_var 0) (se_op s2_sub (se_var 2) se_int)) sa_nil)))))
(ss_ret (se_un s1_neg se_int))
ss_next)
(ss_ret (se_op s2_sub (se_var 2) se_int)))))) h rfl⟩
theorem ok_shifted (T : Tx K mg) : FnOk P w K mg base CX0 2 T.a_shifted T.d_shifted ["name", "least", "greatest", "count"] (spOf (cx T) 4 wp_shifted) := by
  have G_as_words := ok_as_words (P := P) (w := w) (base := base) T
  refine T.F_shifted.ok sc_shifted (fun vs H Q E h => spOf_len h) (fun cdv A outer s H vs Q E hr h => ?_)
  have hr_as_words : Room 1 _ := hr.mono (by decide)
  rw [eq_shifted] at h
  exact ⟨_, (pss_cons (ps_if (pt_cmpR (op_eqA hr.units) (pv 0) pe_str (nomark _))
(pss_one (ps_ret (pe_tup (pa_cons (pe_op op_shr (pv 1) (pv 3)) (pa_cons (pe_op op_shr (pv 2) (pv 3)) pa_nil)))))
pss_nil)
(pss_one (ps_ret (pe_call G_as_words hr_as_words (by rfl) T.g_as_words T.F_as_words.kp T.b_as_words .nil pass0 (pa_cons (pe_op op_shlW (pv 1) (pv 3)) (pa_cons (pe_op op_shlW (pv 2) (pv 3)) pa_nil)))))), fn_body (N := n_shifted) (C := cx T) (b := b_shifted)
    (ss_seq (ss_if (st_test (se_op s2_eqA (se_var 0) se_str))
(ss_ret (se_tup (n := 2) (sa_cons (se_op s2_shr (se_var 1) (se_var 3)) (sa_cons (se_op s2_shr (se_var 2) (se_var 3)) sa_nil)) (by decide)))
ss_next)
(ss_ret (se_call (m := 2) (sa_cons (se_op s2_shl (se_var 1) (se_var 3)) (sa_cons (se_op s2_shl (se_var 2) (se_var 3)) sa_nil))))) h rfl⟩
theorem ok_top_of_bits (T : Tx K mg) : FnOk P w K mg base CX0 2 T.a_top_of_bits T.d_top_of_bits ["name", "high", "greatest"] (spOf (cx T) 3 wp_top_of_bits) := by
  have G_mask := ok_mask (P := P) (w := w) (base := base) T
  refine T.F_top_of_bits.ok sc_top_of_bits (fun vs H Q E h => spOf_len h) (fun cdv A outer s H vs Q E hr h => ?_)
  have hr_mask : Room 1 _ := hr.mono (by decide)
  rw [eq_top_of_bits] at h
  exact ⟨_, (pss_cons (ps_if (pt_cmpR (op_eqA hr.units) (pv 0) pe_str (nomark _))
(pss_one (ps_ret (pe_callB (call_min2 rfl) (by rfl) T.z_min (by decide +kernel) (pa_cons (pv 1) (pa_cons (pv 2) pa_nil)))))
pss_nil)
(pss_cons (ps_if (pt_cmpR (op_inA (IT.hu65 hr)) (pv 0) (pe_tup (pa_cons pe_str (pa_cons pe_str pa_nil))) (by rfl))
(pss_one (ps_ret (pe_call G_mask hr_mask (by rfl) T.g_mask T.F_mask.kp T.b_mask .nil pass0 (pa_cons (pe_bits (pe_callB (call_max2 rfl) (by rfl) T.z_max (by decide +kernel) (pa_cons (pv 1) (pa_cons (pv 2) pa_nil)))) pa_nil))))
pss_nil)
(pss_cons (ps_if (pt_cmpR (op_eqA hr.units) (pv 0) pe_str (nomark _))
(pss_one (ps_ret pe_int))
pss_nil)
(pss_one (ps_ret (pv 1)))))), fn_body (N := n_top_of_bits) (C := cx T) (b := b_top_of_bits)
    (ss_seq (ss_if (st_test (se_op s2_eqA (se_var 0) se_str))
(ss_ret (se_cb sc_min (sa_cons (se_var 1) (sa_cons (se_var 2) sa_nil))))
ss_next)
(ss_seq (ss_if (st_test (se_op s2_inA (se_var 0) (se_tup (n := 2) (sa_cons se_str (sa_cons se_str sa_nil)) (by decide))))
(ss_ret (se_call (m := 1) (sa_cons (se_bits (se_cb sc_max (sa_cons (se_var 1) (sa_cons (se_var 2) sa_nil)))) sa_nil)))
ss_next)
(ss_seq (ss_if (st_test (se_op s2_eqA (se_var 0) se_str))
(ss_ret se_int)
ss_next)
(ss_ret (se_var 1))))) h rfl⟩
theorem ok_law_word (T : Tx K mg) : FnOk P w K mg base CX0 2 T.a_law_word T.d_law_word ["source"] (spOf (cx T) 1 wp_law_word) := by
  have G_law_draw := ok_law_draw (P := P) (w := w) (base := base) T
  refine T.F_law_word.ok sc_law_word (fun vs H Q E h => spOf_len h) (fun cdv A outer s H vs Q E hr h => ?_)
  have hr_law_draw : Room 1 _ := hr.mono (by decide)
  rw [eq_law_word] at h
  exact ⟨_, (pss_one (ps_ret (pe_ix ix_seq (pe_lst (pa_cons pe_int (pa_cons pe_int (pa_cons pe_int (pa_cons pe_int (pa_cons pe_int (pa_cons pe_int (pa_cons pe_int (pa_cons pe_int (pa_cons pe_int (pa_cons (pe_call G_law_draw hr_law_draw (by rfl) T.g_law_draw T.F_law_draw.kp T.b_law_draw .nil pass0 (pa_cons (pv 0) (pa_cons pe_int pa_nil))) pa_nil))))))))))) (pe_callB (call_min2 rfl) (by rfl) T.z_min (by decide +kernel) (pa_cons pe_int (pa_cons (pe_call G_law_draw hr_law_draw (by rfl) T.g_law_draw T.F_law_draw.kp T.b_law_draw .nil pass0 (pa_cons (pv 0) (pa_cons pe_int pa_nil))) pa_nil))) (fun _ _ => rfl)))), fn_body (N := n_law_word) (C := cx T) (b := b_law_word)
    (ss_ret (se_op s2_ix (se_ro (n := 10) (sa_cons se_int (sa_cons se_int (sa_cons se_int (sa_cons se_int (sa_cons se_int (sa_cons se_int (sa_cons se_int (sa_cons se_int (sa_cons se_int (sa_cons (se_call (m := 2) (sa_cons (se_var 0) (sa_cons se_int sa_nil))) sa_nil)))))))))) (by decide)) (se_cb sc_min (sa_cons se_int (sa_cons (se_call (m := 2) (sa_cons (se_var 0) (sa_cons se_int sa_nil))) sa_nil))))) h rfl⟩
theorem ok_law_layout (T : Tx K mg) : FnOk P w K mg base CX0 2 T.a_law_layout T.d_law_layout ["source"] (spOf (cx T) 1 wp_law_layout) := by
  have G_law_draw := ok_law_draw (P := P) (w := w) (base := base) T
  refine T.F_law_layout.ok sc_law_layout (fun vs H Q E h => spOf_len h) (fun cdv A outer s H vs Q E hr h => ?_)
  have hr_law_draw : Room 1 _ := hr.mono (by decide)
  rw [eq_law_layout] at h
  exact ⟨_, (pss_cons (ps_set (i := 1) sc_law_layout.nd rfl (.inl rfl) (pe_op op_addA pe_int (pe_call G_law_draw hr_law_draw (by rfl) T.g_law_draw T.F_law_draw.kp T.b_law_draw .nil pass0 (pa_cons (pv 0) (pa_cons pe_int pa_nil)))))
(pss_cons (ps_set (i := 2) sc_law_layout.nd rfl (.inl rfl) (pe_op op_addA (pv 1) (pe_call G_law_draw hr_law_draw (by rfl) T.g_law_draw T.F_law_draw.kp T.b_law_draw .nil pass0 (pa_cons (pv 0) (pa_cons pe_int pa_nil)))))
(pss_cons (ps_set (i := 3) sc_law_layout.nd rfl (.inl rfl) (pe_ix ix_seq (pe_lst (pa_cons pe_int (pa_cons pe_int (pa_cons (pe_call G_law_draw hr_law_draw (by rfl) T.g_law_draw T.F_law_draw.kp T.b_law_draw .nil pass0 (pa_cons (pv 0) (pa_cons pe_int pa_nil))) pa_nil)))) (pe_call G_law_draw hr_law_draw (by rfl) T.g_law_draw T.F_law_draw.kp T.b_law_draw .nil pass0 (pa_cons (pv 0) (pa_cons pe_int pa_nil))) (fun _ _ => rfl)))
(pss_cons (ps_set (i := 4) sc_law_layout.nd rfl (.inl rfl) (pe_ix ix_seq (pe_lst (pa_cons (pe_lst (pa_cons pe_str (pa_cons pe_str pa_nil))) (pa_cons (pe_lst (pa_cons pe_str (pa_cons pe_str pa_nil))) pa_nil))) (pe_call G_law_draw hr_law_draw (by rfl) T.g_law_draw T.F_law_draw.kp T.b_law_draw .nil pass0 (pa_cons (pv 0) (pa_cons pe_int pa_nil))) (fun _ _ => rfl)))
(pss_one (ps_ret (pe_tup (pa_cons (pe_tup (pa_cons pe_int (pa_cons (pv 1) (pa_cons (pe_ix ix_seq (pv 4) pe_int (fun _ _ => rfl)) (pa_cons (pv 3) pa_nil))))) (pa_cons (pe_tup (pa_cons (pv 2) (pa_cons (pe_op op_addA pe_int (pe_call G_law_draw hr_law_draw (by rfl) T.g_law_draw T.F_law_draw.kp T.b_law_draw .nil pass0 (pa_cons (pv 0) (pa_cons pe_int pa_nil)))) (pa_cons (pe_ix ix_seq (pv 4) pe_int (fun _ _ => rfl)) (pa_cons (pe_ix ix_seq (pe_lst (pa_cons pe_int (pa_cons (pv 3) pa_nil))) (pe_call G_law_draw hr_law_draw (by rfl) T.g_law_draw T.F_law_draw.kp T.b_law_draw .nil pass0 (pa_cons (pv 0) (pa_cons pe_int pa_nil))) (fun _ _ => rfl)) pa_nil))))) pa_nil))))))))), fn_body (N := n_law_layout) (C := cx T) (b := b_law_layout)
    (ss_seq (ss_asg (se_op s2_addA se_int (se_call (m := 2) (sa_cons (se_var 0) (sa_cons se_int sa_nil)))) sg_name)
(ss_seq (ss_asg (se_op s2_addA (se_var 1) (se_call (m := 2) (sa_cons (se_var 0) (sa_cons se_int sa_nil)))) sg_name)
(ss_seq (ss_asg (se_op s2_ix (se_ro (n := 3) (sa_cons se_int (sa_cons se_int (sa_cons (se_call (m := 2) (sa_cons (se_var 0) (sa_cons se_int sa_nil))) sa_nil))) (by decide)) (se_call (m := 2) (sa_cons (se_var 0) (sa_cons se_int sa_nil)))) sg_name)
(ss_seq (ss_asg (se_op s2_ix (se_ro (n := 2) (sa_cons (se_lst (n := 2) (sa_cons se_str (sa_cons se_str sa_nil)) (by decide)) (sa_cons (se_lst (n := 2) (sa_cons se_str (sa_cons se_str sa_nil)) (by decide)) sa_nil)) (by decide)) (se_call (m := 2) (sa_cons (se_var 0) (sa_cons se_int sa_nil)))) sg_name)
(ss_ret (se_tup (n := 2) (sa_cons (se_tup (n := 4) (sa_cons se_int (sa_cons (se_var 1) (sa_cons (se_op s2_ix (se_var 4) se_int) (sa_cons (se_var 3) sa_nil)))) (by decide)) (sa_cons (se_tup (n := 4) (sa_cons (se_var 2) (sa_cons (se_op s2_addA se_int (se_call (m := 2) (sa_cons (se_var 0) (sa_cons se_int sa_nil)))) (sa_cons (se_op s2_ix (se_var 4) se_int) (sa_cons (se_op s2_ix (se_ro (n := 2) (sa_cons se_int (sa_cons (se_var 3) sa_nil)) (by decide)) (se_call (m := 2) (sa_cons (se_var 0) (sa_cons se_int sa_nil)))) sa_nil)))) (by decide)) sa_nil)) (by decide))))))) h rfl⟩
theorem ok_law_memories (T : Tx K mg) : FnOk P w K mg base CX0 2 T.a_law_memories T.d_law_memories ["source", "layout"] (spOf (cx T) 2 wp_law_memories) := by
  have G_law_draw := ok_law_draw (P := P) (w := w) (base := base) T
  have G_law_flow_at := ok_law_flow_at (P := P) (w := w) (base := base) T
  have G_law_most_at := ok_law_most_at (P := P) (w := w) (base := base) T
  refine T.F_law_memories.ok sc_law_memories (fun vs H Q E h => spOf_len h) (fun cdv A outer s H vs Q E hr h => ?_)
  have hr_law_draw : Room 1 _ := hr.mono (by decide)
  have hr_law_flow_at : Room 1 _ := hr.mono (by decide)
  have hr_law_most_at : Room 1 _ := hr.mono (by decide)
  rw [eq_law_memories] at h
  exact ⟨_, (pss_cons (ps_set (i := 2) sc_law_memories.nd rfl (.inl rfl) (pe_op op_addA (pe_ix ix_seq (pe_ix ix_seq (pv 1) pe_int (fun _ _ => rfl)) pe_int (fun _ _ => rfl)) (pe_ix ix_seq (pe_ix ix_seq (pv 1) pe_int (fun _ _ => rfl)) pe_int (fun _ _ => rfl))))
(pss_cons (ps_set (i := 3) sc_law_memories.nd rfl (.inl rfl) (pe_lst pa_nil))
(pss_cons (ps_set (i := 4) sc_law_memories.nd rfl (.inl rfl) (pe_lst pa_nil))
(pss_cons (ps_for PassesOwn.never rfl (pi_range1 rfl T.z_range (pa_cons (pv 2) pa_nil)) (pg_name (i := 5) sc_law_memories.nd rfl (.inl rfl))
(pss_cons (ps_set (i := 6) sc_law_memories.nd rfl (.inl rfl) (pe_callB (call_max2 rfl) (by rfl) T.z_max (by decide +kernel) (pa_cons pe_int (pa_cons (pe_call G_law_most_at hr_law_most_at (by rfl) T.g_law_most_at T.F_law_most_at.kp T.b_law_most_at .nil pass0 (pa_cons (pv 1) (pa_cons (pv 5) pa_nil))) pa_nil))))
(pss_cons (ps_set (i := 7) sc_law_memories.nd rfl (.inl rfl) (pe_ix ix_seq (pe_lst (pa_cons pe_int (pa_cons (pv 6) (pa_cons (pe_call G_law_draw hr_law_draw (by rfl) T.g_law_draw T.F_law_draw.kp T.b_law_draw .nil pass0 (pa_cons (pv 0) (pa_cons (pe_op op_addA (pv 6) pe_int) pa_nil))) pa_nil)))) (pe_call G_law_draw hr_law_draw (by rfl) T.g_law_draw T.F_law_draw.kp T.b_law_draw .nil pass0 (pa_cons (pv 0) (pa_cons pe_int pa_nil))) (fun _ _ => rfl)))
(pss_cons (ps_set (i := 8) sc_law_memories.nd rfl (.inl rfl) (pe_ix ix_seq (pe_lst (pa_cons (pv 7) (pa_cons (pe_call G_law_draw hr_law_draw (by rfl) T.g_law_draw T.F_law_draw.kp T.b_law_draw .nil pass0 (pa_cons (pv 0) (pa_cons (pe_op op_addA (pv 6) pe_int) pa_nil))) pa_nil))) (pe_call G_law_draw hr_law_draw (by rfl) T.g_law_draw T.F_law_draw.kp T.b_law_draw .nil pass0 (pa_cons (pv 0) (pa_cons pe_int pa_nil))) (fun _ _ => rfl)))
(pss_cons (ps_if (pt_cmpR (op_eqA hr.units) (pe_call G_law_flow_at hr_law_flow_at (by rfl) T.g_law_flow_at T.F_law_flow_at.kp T.b_law_flow_at .nil pass0 (pa_cons (pv 1) (pa_cons (pv 5) pa_nil))) pe_str (nomark _))
(pss_one (ps_set (i := 8) sc_law_memories.nd rfl (.inl rfl) (pv 7)))
pss_nil)
(pss_cons (ps_expr (pe_bm PySem.F.plainAttrs_list PySem.F.slot_list_append PySem.F.type_list_append mt_append (pv 3) (pa_cons (pv 7) pa_nil)))
(pss_one (ps_expr (pe_bm PySem.F.plainAttrs_list PySem.F.slot_list_append PySem.F.type_list_append mt_append (pv 4) (pa_cons (pv 8) pa_nil))))))))))
(pss_one (ps_ret (pe_lst (pa_cons (pv 3) (pa_cons (pv 4) pa_nil))))))))), fn_body (N := n_law_memories) (C := cx T) (b := b_law_memories)
    (ss_seq (ss_asg (se_op s2_addA (se_op s2_ix (se_op s2_ix (se_var 1) se_int) se_int) (se_op s2_ix (se_op s2_ix (se_var 1) se_int) se_int)) sg_name)
(ss_seq (ss_asg (se_lst (n := 0) sa_nil (by decide)) sg_name)
(ss_seq (ss_asg (se_lst (n := 0) sa_nil (by decide)) sg_name)
(ss_seq (ss_for (si_rng1 (sa_cons (se_var 2) sa_nil)) sg_name
(ss_seq (ss_asg (se_cb sc_max (sa_cons se_int (sa_cons (se_call (m := 2) (sa_cons (se_var 1) (sa_cons (se_var 5) sa_nil))) sa_nil))) sg_name)
(ss_seq (ss_asg (se_op s2_ix (se_ro (n := 3) (sa_cons se_int (sa_cons (se_var 6) (sa_cons (se_call (m := 2) (sa_cons (se_var 0) (sa_cons (se_op s2_addA (se_var 6) se_int) sa_nil))) sa_nil))) (by decide)) (se_call (m := 2) (sa_cons (se_var 0) (sa_cons se_int sa_nil)))) sg_name)
(ss_seq (ss_asg (se_op s2_ix (se_ro (n := 2) (sa_cons (se_var 7) (sa_cons (se_call (m := 2) (sa_cons (se_var 0) (sa_cons (se_op s2_addA (se_var 6) se_int) sa_nil))) sa_nil)) (by decide)) (se_call (m := 2) (sa_cons (se_var 0) (sa_cons se_int sa_nil)))) sg_name)
(ss_seq (ss_if (st_test (se_op s2_eqA (se_call (m := 2) (sa_cons (se_var 1) (sa_cons (se_var 5) sa_nil))) se_str))
(ss_asg (se_var 7) sg_name)
ss_next)
(ss_cut eqc_law_memories_1
(ss_seq (ss_drop (se_bl' sl_append (se_var 3) (sa_cons (se_var 7) sa_nil)))
(ss_drop (se_bl' sl_append (se_var 4) (sa_cons (se_var 8) sa_nil))))))))))
(ss_ret (se_lst (n := 2) (sa_cons (se_var 3) (sa_cons (se_var 4) sa_nil)) (by decide))))))) h rfl⟩
theorem ok_law_done (T : Tx K mg) : FnOk P w K mg base CX0 2 T.a_law_done T.d_law_done ["layout", "row", "words", "memory", "carry"] (spOf (cx T) 5 wp_law_done) := by
  have G_law_compute := ok_law_compute (P := P) (w := w) (base := base) T
  have G_law_most_at := ok_law_most_at (P := P) (w := w) (base := base) T
  refine T.F_law_done.ok sc_law_done (fun vs H Q E h => spOf_len h) (fun cdv A outer s H vs Q E hr h => ?_)
  have hr_law_compute : Room 1 _ := hr.mono (by decide)
  have hr_law_most_at : Room 1 _ := hr.mono (by decide)
  rw [eq_law_done] at h
  exact ⟨_, (pss_cons (ps_set (i := 5) sc_law_done.nd rfl (.inl rfl) (pe_ix ix_seq (pv 1) pe_int (fun _ _ => rfl)))
(pss_cons (ps_if (pt_cmpR (op_eqA hr.units) (pv 5) pe_str (nomark _))
(pss_one (ps_ret pe_int))
pss_nil)
(pss_cons (ps_if (pt_cmpR (op_eqA hr.units) (pv 5) pe_str (nomark _))
(pss_one (ps_asg (pe_ix ix_seq (pv 1) pe_int (fun _ _ => rfl)) (pg_sub (pv 2) (pe_ix ix_seq (pv 1) pe_int (fun _ _ => rfl)) set_list)))
(pss_one (ps_if (pt_cmpR (op_eqA hr.units) (pv 5) pe_str (nomark _))
(pss_one (ps_asg (pe_ix ix_seq (pv 2) (pe_ix ix_seq (pv 1) pe_int (fun _ _ => rfl)) (fun _ _ => rfl)) (pg_sub (pv 2) (pe_ix ix_seq (pv 1) pe_int (fun _ _ => rfl)) set_list)))
(pss_one (ps_if (pt_cmpR (op_eqA hr.units) (pv 5) pe_str (nomark _))
(pss_one (ps_asg (pv 4) (pg_sub (pv 2) (pe_ix ix_seq (pv 1) pe_int (fun _ _ => rfl)) set_list)))
(pss_one (ps_if (PW.pt (pw_or (pt_cmpR (op_eqA hr.units) (pv 5) pe_str (nomark _)) (pw_or1 (pt_cmpR (op_eqA hr.units) (pv 5) pe_str (nomark _)))))
(pss_cons (ps_set (i := 6) sc_law_done.nd rfl (.inl rfl) (pe_op op_addA (pe_ix ix_seq (pv 2) (pe_ix ix_seq (pv 1) pe_int (fun _ _ => rfl)) (fun _ _ => rfl)) (pe_ix ix_seq (pv 1) pe_int (fun _ _ => rfl))))
(pss_cons (ps_set (i := 7) sc_law_done.nd rfl (.inl rfl) (pe_call G_law_most_at hr_law_most_at (by rfl) T.g_law_most_at T.F_law_most_at.kp T.b_law_most_at .nil pass0 (pa_cons (pv 0) (pa_cons (pv 6) pa_nil))))
(pss_cons (ps_if (PW.pt (pw_or (pt_cmpR op_lt (pv 7) pe_int (nomark _)) (pw_or1 (PW.pt (pw_and (pt_cmpR (op_eqA hr.units) (pv 5) pe_str (nomark _)) (pw_and1 (pt_cmpR op_gt (pe_ix ix_seq (pv 2) (pe_ix ix_seq (pv 1) pe_int (fun _ _ => rfl)) (fun _ _ => rfl)) (pv 7) (nomark _))))))))
(pss_one (ps_ret (pe_un un_neg pe_int)))
pss_nil)
(pss_one (ps_if (pt_cmpR (op_eqA hr.units) (pv 5) pe_str (nomark _))
(pss_one (ps_asg (pe_ix ix_seq (pv 3) (pv 6) (fun _ _ => rfl)) (pg_sub (pv 2) (pe_ix ix_seq (pv 1) pe_int (fun _ _ => rfl)) set_list)))
(pss_one (ps_asg (pe_ix ix_seq (pv 2) (pe_ix ix_seq (pv 1) pe_int (fun _ _ => rfl)) (fun _ _ => rfl)) (pg_sub (pv 3) (pv 6) set_list))))))))
(pss_cons (ps_set (i := 8) sc_law_done.nd rfl (.inl rfl) (pe_ix ix_seq (pv 1) pe_int (fun _ _ => rfl)))
(pss_cons (ps_if (PW.pt (pw_and (pt_cmpR (op_neA hr.units) (pv 5) pe_str (nomark _)) (pw_and1 (pt_cmpR (op_neA hr.units) (pv 5) pe_str (nomark _)))))
(pss_one (ps_set (i := 8) sc_law_done.nd rfl (.inl rfl) (pe_ix ix_seq (pv 2) (pe_ix ix_seq (pv 1) pe_int (fun _ _ => rfl)) (fun _ _ => rfl))))
pss_nil)
(pss_cons (ps_set (i := 9) sc_law_done.nd rfl (.inl rfl) (pe_call G_law_compute hr_law_compute (by rfl) T.g_law_compute T.F_law_compute.kp T.b_law_compute .nil pass0 (pa_cons (pv 5) (pa_cons (pe_ix ix_seq (pv 2) (pe_ix ix_seq (pv 1) pe_int (fun _ _ => rfl)) (fun _ _ => rfl)) (pa_cons (pv 8) (pa_cons (pv 4) pa_nil))))))
(pss_cons (ps_asg (pe_ix ix_seq (pv 9) pe_int (fun _ _ => rfl)) (pg_sub (pv 2) (pe_ix ix_seq (pv 1) pe_int (fun _ _ => rfl)) set_list))
(pss_one (ps_set (i := 4) sc_law_done.nd rfl (.inl rfl) (pe_ix ix_seq (pv 9) pe_int (fun _ _ => rfl)))))))))))))))
(pss_one (ps_ret (pv 4)))))), fn_body (N := n_law_done) (C := cx T) (b := b_law_done)
    (ss_seq (ss_asg (se_op s2_ix (se_var 1) se_int) sg_name)
(ss_seq (ss_if (st_test (se_op s2_eqA (se_var 5) se_str))
(ss_ret se_int)
ss_next)
(ss_seq (ss_if (st_test (se_op s2_eqA (se_var 5) se_str))
(ss_asg (se_op s2_ix (se_var 1) se_int) (sg_sub (se_var 2) (se_op s2_ix (se_var 1) se_int)))
(ss_if (st_test (se_op s2_eqA (se_var 5) se_str))
(ss_asg (se_op s2_ix (se_var 2) (se_op s2_ix (se_var 1) se_int)) (sg_sub (se_var 2) (se_op s2_ix (se_var 1) se_int)))
(ss_if (st_test (se_op s2_eqA (se_var 5) se_str))
(ss_asg (se_var 4) (sg_sub (se_var 2) (se_op s2_ix (se_var 1) se_int)))
(ss_if (st_or (st_test (se_op s2_eqA (se_var 5) se_str)) (st_test (se_op s2_eqA (se_var 5) se_str)))
(ss_seq (ss_asg (se_op s2_addA (se_op s2_ix (se_var 2) (se_op s2_ix (se_var 1) se_int)) (se_op s2_ix (se_var 1) se_int)) sg_name)
(ss_seq (ss_asg (se_call (m := 2) (sa_cons (se_var 0) (sa_cons (se_var 6) sa_nil))) sg_name)
(ss_seq (ss_if (st_or (st_test (se_op s2_lt (se_var 7) se_int)) (st_and (st_test (se_op s2_eqA (se_var 5) se_str)) (st_test (se_op s2_gt (se_op s2_ix (se_var 2) (se_op s2_ix (se_var 1) se_int)) (se_var 7)))))
(ss_ret (se_un s1_neg se_int))
ss_next)
(ss_if (st_test (se_op s2_eqA (se_var 5) se_str))
(ss_asg (se_op s2_ix (se_var 3) (se_var 6)) (sg_sub (se_var 2) (se_op s2_ix (se_var 1) se_int)))
(ss_asg (se_op s2_ix (se_var 2) (se_op s2_ix (se_var 1) se_int)) (sg_sub (se_var 3) (se_var 6)))))))
(ss_seq (ss_asg (se_op s2_ix (se_var 1) se_int) sg_name)
(ss_seq (ss_if (st_and (st_test (se_op s2_neA (se_var 5) se_str)) (st_test (se_op s2_neA (se_var 5) se_str)))
(ss_asg (se_op s2_ix (se_var 2) (se_op s2_ix (se_var 1) se_int)) sg_name)
ss_next)
(ss_cut eqc_law_done_1
(ss_seq (ss_asg (se_call (m := 4) (sa_cons (se_var 5) (sa_cons (se_op s2_ix (se_var 2) (se_op s2_ix (se_var 1) se_int)) (sa_cons (se_var 8) (sa_cons (se_var 4) sa_nil))))) sg_name)
(ss_seq (ss_asg (se_op s2_ix (se_var 9) se_int) (sg_sub (se_var 2) (se_op s2_ix (se_var 1) se_int)))
(ss_asg (se_op s2_ix (se_var 9) se_int) sg_name))))))))))
(ss_cut eqc_law_done_2
(ss_ret (se_var 4)))))) h rfl⟩
theorem ok_safe_region (T : Tx K mg) : FnOk P w K mg base CX0 3 T.a_safe_region T.d_safe_region ["layout", "least", "greatest"] (spOf (cx T) 3 wp_safe_region) := by
  have G_region_at := ok_region_at (P := P) (w := w) (base := base) T
  have G_region_end := ok_region_end (P := P) (w := w) (base := base) T
  refine T.F_safe_region.ok sc_safe_region (fun vs H Q E h => spOf_len h) (fun cdv A outer s H vs Q E hr h => ?_)
  have hr_region_at : Room 2 _ := hr.mono (by decide)
  have hr_region_end : Room 1 _ := hr.mono (by decide)
  rw [eq_safe_region] at h
  exact ⟨_, (pss_cons (ps_set (i := 3) sc_safe_region.nd rfl (.inl rfl) (pe_call G_region_at hr_region_at (by rfl) T.g_region_at T.F_region_at.kp T.b_region_at .nil pass0 (pa_cons (pv 0) (pa_cons (pv 1) pa_nil))))
(pss_cons (ps_if (PW.pt (pw_or (pt_cmpR (op_eqA hr.units) (pv 3) (pe_un un_neg pe_int) (nomark _)) (pw_or1 (pt_cmpR op_ge (pv 2) (pe_call G_region_end hr_region_end (by rfl) T.g_region_end T.F_region_end.kp T.b_region_end .nil pass0 (pa_cons (pe_ix ix_seq (pv 0) (pv 3) (fun _ _ => rfl)) pa_nil)) (nomark _)))))
(pss_one (ps_ret pe_non))
pss_nil)
(pss_one (ps_ret (pe_ix ix_seq (pv 0) (pv 3) (fun _ _ => rfl)))))), fn_body (N := n_safe_region) (C := cx T) (b := b_safe_region)
    (ss_seq (ss_asg (se_call (m := 2) (sa_cons (se_var 0) (sa_cons (se_var 1) sa_nil))) sg_name)
(ss_seq (ss_if (st_or (st_test (se_op s2_eqA (se_var 3) (se_un s1_neg se_int))) (st_test (se_op s2_ge (se_var 2) (se_call (m := 1) (sa_cons (se_op s2_ix (se_var 0) (se_var 3)) sa_nil)))))
(ss_ret se_non)
ss_next)
(ss_ret (se_op s2_ix (se_var 0) (se_var 3))))) h rfl⟩
theorem ok_operated (T : Tx K mg) : FnOk P w K mg base CX0 3 T.a_operated T.d_operated ["name", "first", "second"] (spOf (cx T) 3 wp_operated) := by
  have G_as_words := ok_as_words (P := P) (w := w) (base := base) T
  have G_top_of_bits := ok_top_of_bits (P := P) (w := w) (base := base) T
  refine T.F_operated.ok sc_operated (fun vs H Q E h => spOf_len h) (fun cdv A outer s H vs Q E hr h => ?_)
  have hr_as_words : Room 1 _ := hr.mono (by decide)
  have hr_top_of_bits : Room 2 _ := hr.mono (by decide)
  rw [eq_operated] at h
  exact ⟨_, (pss_cons (ps_asg (pv 1) (pg_tup rfl (pgs_cons (pg_name (i := 3) sc_operated.nd rfl (.inl rfl)) (pgs_cons (pg_name (i := 4) sc_operated.nd rfl (.inl rfl)) (pgs_cons (pg_name (i := 5) sc_operated.nd rfl (.inl rfl)) (pgs_cons (pg_name (i := 3) sc_operated.nd rfl (.inl rfl)) (pgs_cons (pg_name (i := 3) sc_operated.nd rfl (.inl rfl)) pgs_nil)))))))
(pss_cons (ps_asg (pv 2) (pg_tup rfl (pgs_cons (pg_name (i := 3) sc_operated.nd rfl (.inl rfl)) (pgs_cons (pg_name (i := 6) sc_operated.nd rfl (.inl rfl)) (pgs_cons (pg_name (i := 7) sc_operated.nd rfl (.inl rfl)) (pgs_cons (pg_name (i := 3) sc_operated.nd rfl (.inl rfl)) (pgs_cons (pg_name (i := 3) sc_operated.nd rfl (.inl rfl)) pgs_nil)))))))
(pss_cons (ps_if (pt_cmpR (op_inA (IT.hu65 hr)) (pv 0) (pe_glob rfl T.g_CARRYING T.r_CARRYING) (by rfl))
(pss_cons (ps_set (i := 8) sc_operated.nd rfl (.inl rfl) (pe_ifExp (pt_cmpR (op_inA (IT.hu65 hr)) (pv 0) (pe_glob rfl T.g_CHAINED T.r_CHAINED) (by rfl)) pe_int pe_int))
(pss_cons (ps_if (pt_cmpR (op_inA (IT.hu65 hr)) (pv 0) (pe_tup (pa_cons pe_str (pa_cons pe_str pa_nil))) (by rfl))
(pss_one (ps_ret (pe_call G_as_words hr_as_words (by rfl) T.g_as_words T.F_as_words.kp T.b_as_words .nil pass0 (pa_cons (pe_op op_addA (pv 4) (pv 6)) (pa_cons (pe_op op_addA (pe_op op_addA (pv 5) (pv 7)) (pv 8)) pa_nil)))))
pss_nil)
(pss_one (ps_ret (pe_call G_as_words hr_as_words (by rfl) T.g_as_words T.F_as_words.kp T.b_as_words .nil pass0 (pa_cons (pe_op op_sub (pe_op op_sub (pv 4) (pv 7)) (pv 8)) (pa_cons (pe_op op_sub (pv 5) (pv 6)) pa_nil)))))))
pss_nil)
(pss_cons (ps_if (pt_cmpR (op_eqA hr.units) (pv 0) pe_str (nomark _))
(pss_one (ps_ret (pe_call G_as_words hr_as_words (by rfl) T.g_as_words T.F_as_words.kp T.b_as_words .nil pass0 (pa_cons (pe_op op_mulA (pv 4) (pv 6)) (pa_cons (pe_op op_mulA (pv 5) (pv 7)) pa_nil)))))
pss_nil)
(pss_cons (ps_if (pt_cmpR (op_eqA hr.units) (pv 0) pe_str (nomark _))
(pss_one (ps_ret (pe_tup (pa_cons (pe_op op_fdivW (pe_op op_mulA (pv 4) (pv 6)) (pe_glob rfl T.g_WORD T.r_WORD)) (pa_cons (pe_op op_fdivW (pe_op op_mulA (pv 5) (pv 7)) (pe_glob rfl T.g_WORD T.r_WORD)) pa_nil)))))
pss_nil)
(pss_cons (ps_if (pt_cmpR (op_eqA hr.units) (pv 0) pe_str (nomark _))
(pss_one (ps_ret (pe_ifExp (pt_cmpR op_ge (pv 6) pe_int (nomark _)) (pe_tup (pa_cons (pe_op op_fdivW (pv 4) (pv 7)) (pa_cons (pe_op op_fdivW (pv 5) (pv 6)) pa_nil))) (pe_tup (pa_cons pe_int (pa_cons (pe_glob rfl T.g_GREATEST_WORD T.r_GREATEST_WORD) pa_nil))))))
pss_nil)
(pss_one (ps_ret (pe_tup (pa_cons pe_int (pa_cons (pe_call G_top_of_bits hr_top_of_bits (by rfl) T.g_top_of_bits T.F_top_of_bits.kp T.b_top_of_bits .nil pass0 (pa_cons (pv 0) (pa_cons (pv 5) (pa_cons (pv 7) pa_nil)))) pa_nil))))))))))), fn_body (N := n_operated) (C := cx T) (b := b_operated)
    (ss_seq (ss_asg (se_var 1) (sg_tup (sgs_cons sg_name (sgs_cons sg_name (sgs_cons sg_name (sgs_cons sg_name (sgs_cons sg_name sgs_nil)))))))
(ss_seq (ss_asg (se_var 2) (sg_tup (sgs_cons sg_name (sgs_cons sg_name (sgs_cons sg_name (sgs_cons sg_name (sgs_cons sg_name sgs_nil)))))))
(ss_seq (ss_if (st_test (se_op s2_inA (se_var 0) (se_c fun w => rep_const T.kitd_CARRYING w)))
(ss_seq (ss_asg (se_if (st_test (se_op s2_inA (se_var 0) (se_c fun w => rep_const T.kitd_CHAINED w))) se_int se_int) sg_name)
(ss_seq (ss_if (st_test (se_op s2_inA (se_var 0) (se_tup (n := 2) (sa_cons se_str (sa_cons se_str sa_nil)) (by decide))))
(ss_ret (se_call (m := 2) (sa_cons (se_op s2_addA (se_var 4) (se_var 6)) (sa_cons (se_op s2_addA (se_op s2_addA (se_var 5) (se_var 7)) (se_var 8)) sa_nil))))
ss_next)
(ss_ret (se_call (m := 2) (sa_cons (se_op s2_sub (se_op s2_sub (se_var 4) (se_var 7)) (se_var 8)) (sa_cons (se_op s2_sub (se_var 5) (se_var 6)) sa_nil))))))
ss_next)
(ss_seq (ss_if (st_test (se_op s2_eqA (se_var 0) se_str))
(ss_ret (se_call (m := 2) (sa_cons (se_op s2_mulAA (se_var 4) (se_var 6)) (sa_cons (se_op s2_mulAA (se_var 5) (se_var 7)) sa_nil))))
ss_next)
(ss_seq (ss_if (st_test (se_op s2_eqA (se_var 0) se_str))
(ss_ret (se_tup (n := 2) (sa_cons (se_op s2_fdiv (se_op s2_mulAA (se_var 4) (se_var 6)) se_int) (sa_cons (se_op s2_fdiv (se_op s2_mulAA (se_var 5) (se_var 7)) se_int) sa_nil)) (by decide)))
ss_next)
(ss_seq (ss_if (st_test (se_op s2_eqA (se_var 0) se_str))
(ss_ret (se_if (st_test (se_op s2_ge (se_var 6) se_int)) (se_tup (n := 2) (sa_cons (se_op s2_fdiv (se_var 4) (se_var 7)) (sa_cons (se_op s2_fdiv (se_var 5) (se_var 6)) sa_nil)) (by decide)) (se_tup (n := 2) (sa_cons se_int (sa_cons se_int sa_nil)) (by decide))))
ss_next)
(ss_ret (se_tup (n := 2) (sa_cons se_int (sa_cons (se_call (m := 3) (sa_cons (se_var 0) (sa_cons (se_var 5) (sa_cons (se_var 7) sa_nil)))) sa_nil)) (by decide))))))))) h rfl⟩
theorem ok_law_value (T : Tx K mg) : FnOk P w K mg base CX0 3 T.a_law_value T.d_law_value ["source", "memories"] (spOf (cx T) 2 wp_law_value) := by
  have G_law_draw := ok_law_draw (P := P) (w := w) (base := base) T
  have G_law_word := ok_law_word (P := P) (w := w) (base := base) T
  refine T.F_law_value.ok sc_law_value (fun vs H Q E h => spOf_len h) (fun cdv A outer s H vs Q E hr h => ?_)
  have hr_law_draw : Room 1 _ := hr.mono (by decide)
  have hr_law_word : Room 2 _ := hr.mono (by decide)
  rw [eq_law_value] at h
  exact ⟨_, (pss_cons (ps_set (i := 2) sc_law_value.nd rfl (.inl rfl) (pe_ix ix_seq (pe_lst (pa_cons (pe_call G_law_word hr_law_word (by rfl) T.g_law_word T.F_law_word.kp T.b_law_word .nil pass0 (pa_cons (pv 0) pa_nil)) (pa_cons (pe_call G_law_draw hr_law_draw (by rfl) T.g_law_draw T.F_law_draw.kp T.b_law_draw .nil pass0 (pa_cons (pv 0) (pa_cons pe_int pa_nil))) pa_nil))) (pe_call G_law_draw hr_law_draw (by rfl) T.g_law_draw T.F_law_draw.kp T.b_law_draw .nil pass0 (pa_cons (pv 0) (pa_cons pe_int pa_nil))) (fun _ _ => rfl)))
(pss_cons (ps_set (i := 3) sc_law_value.nd rfl (.inl rfl) (pv 2))
(pss_cons (ps_if (pt_cmpR (op_eqA hr.units) (pe_call G_law_draw hr_law_draw (by rfl) T.g_law_draw T.F_law_draw.kp T.b_law_draw .nil pass0 (pa_cons (pv 0) (pa_cons pe_int pa_nil))) pe_int (nomark _))
(pss_one (ps_set (i := 3) sc_law_value.nd rfl (.inl rfl) (pe_ix ix_seq (pe_lst (pa_cons (pe_call G_law_word hr_law_word (by rfl) T.g_law_word T.F_law_word.kp T.b_law_word .nil pass0 (pa_cons (pv 0) pa_nil)) (pa_cons (pe_call G_law_draw hr_law_draw (by rfl) T.g_law_draw T.F_law_draw.kp T.b_law_draw .nil pass0 (pa_cons (pv 0) (pa_cons pe_int pa_nil))) pa_nil))) (pe_call G_law_draw hr_law_draw (by rfl) T.g_law_draw T.F_law_draw.kp T.b_law_draw .nil pass0 (pa_cons (pv 0) (pa_cons pe_int pa_nil))) (fun _ _ => rfl))))
pss_nil)
(pss_cons (ps_set (i := 4) sc_law_value.nd rfl (.inl rfl) (pe_un un_neg pe_int))
(pss_cons (ps_set (i := 5) sc_law_value.nd rfl (.inl rfl) pe_int)
(pss_cons (ps_set (i := 6) sc_law_value.nd rfl (.inl rfl) (pe_call G_law_draw hr_law_draw (by rfl) T.g_law_draw T.F_law_draw.kp T.b_law_draw .nil pass0 (pa_cons (pv 0) (pa_cons (pe_callB call_len (by rfl) T.z_len (by decide +kernel) (pa_cons (pe_ix ix_seq (pv 1) pe_int (fun _ _ => rfl)) pa_nil)) pa_nil))))
(pss_cons (ps_set (i := 7) sc_law_value.nd rfl (.inl rfl) (pe_ix ix_seq (pe_lst (pa_cons pe_int (pa_cons pe_int (pa_cons (pe_call G_law_draw hr_law_draw (by rfl) T.g_law_draw T.F_law_draw.kp T.b_law_draw .nil pass0 (pa_cons (pv 0) (pa_cons pe_int pa_nil))) (pa_cons (pe_call G_law_word hr_law_word (by rfl) T.g_law_word T.F_law_word.kp T.b_law_word .nil pass0 (pa_cons (pv 0) pa_nil)) pa_nil))))) (pe_call G_law_draw hr_law_draw (by rfl) T.g_law_draw T.F_law_draw.kp T.b_law_draw .nil pass0 (pa_cons (pv 0) (pa_cons pe_int pa_nil))) (fun _ _ => rfl)))
(pss_cons (ps_if (PW.pt (pw_and (pt_cmpR (op_eqA hr.units) (pe_call G_law_draw hr_law_draw (by rfl) T.g_law_draw T.F_law_draw.kp T.b_law_draw .nil pass0 (pa_cons (pv 0) (pa_cons pe_int pa_nil))) pe_int (nomark _)) (pw_and1 (pt_cmpR op_le (pe_op op_addA (pe_callB (call_max2 rfl) (by rfl) T.z_max (by decide +kernel) (pa_cons (pe_ix ix_seq (pe_ix ix_seq (pv 1) pe_int (fun _ _ => rfl)) (pv 6) (fun _ _ => rfl)) (pa_cons (pe_ix ix_seq (pe_ix ix_seq (pv 1) pe_int (fun _ _ => rfl)) (pv 6) (fun _ _ => rfl)) pa_nil))) (pv 7)) pe_int (nomark _)))))
(pss_cons (ps_set (i := 4) sc_law_value.nd rfl (.inl rfl) (pv 6))
(pss_cons (ps_set (i := 5) sc_law_value.nd rfl (.inl rfl) (pv 7))
(pss_cons (ps_set (i := 2) sc_law_value.nd rfl (.inl rfl) (pe_op op_addA (pe_ix ix_seq (pe_ix ix_seq (pv 1) pe_int (fun _ _ => rfl)) (pv 6) (fun _ _ => rfl)) (pv 7)))
(pss_one (ps_set (i := 3) sc_law_value.nd rfl (.inl rfl) (pe_op op_addA (pe_ix ix_seq (pe_ix ix_seq (pv 1) pe_int (fun _ _ => rfl)) (pv 6) (fun _ _ => rfl)) (pv 7)))))))
pss_nil)
(pss_cons (ps_set (i := 8) sc_law_value.nd rfl (.inl rfl) (pe_callB (call_min2 rfl) (by rfl) T.z_min (by decide +kernel) (pa_cons (pv 2) (pa_cons (pv 3) pa_nil))))
(pss_cons (ps_set (i := 9) sc_law_value.nd rfl (.inl rfl) (pe_callB (call_max2 rfl) (by rfl) T.z_max (by decide +kernel) (pa_cons (pv 2) (pa_cons (pv 3) pa_nil))))
(pss_cons (ps_if (pt_cmpR (op_eqA hr.units) (pe_call G_law_draw hr_law_draw (by rfl) T.g_law_draw T.F_law_draw.kp T.b_law_draw .nil pass0 (pa_cons (pv 0) (pa_cons pe_int pa_nil))) pe_int (nomark _))
(pss_cons (ps_set (i := 8) sc_law_value.nd rfl (.inl rfl) (pe_ix ix_seq (pe_lst (pa_cons pe_int (pa_cons (pe_call G_law_draw hr_law_draw (by rfl) T.g_law_draw T.F_law_draw.kp T.b_law_draw .nil pass0 (pa_cons (pv 0) (pa_cons (pe_op op_addA (pv 8) pe_int) pa_nil))) pa_nil))) (pe_call G_law_draw hr_law_draw (by rfl) T.g_law_draw T.F_law_draw.kp T.b_law_draw .nil pass0 (pa_cons (pv 0) (pa_cons pe_int pa_nil))) (fun _ _ => rfl)))
(pss_one (ps_set (i := 9) sc_law_value.nd rfl (.inl rfl) (pe_ix ix_seq (pe_lst (pa_cons pe_int (pa_cons (pe_op op_addA (pv 9) (pe_call G_law_draw hr_law_draw (by rfl) T.g_law_draw T.F_law_draw.kp T.b_law_draw .nil pass0 (pa_cons (pv 0) (pa_cons (pe_op op_sub pe_int (pv 9)) pa_nil)))) pa_nil))) (pe_call G_law_draw hr_law_draw (by rfl) T.g_law_draw T.F_law_draw.kp T.b_law_draw .nil pass0 (pa_cons (pv 0) (pa_cons pe_int pa_nil))) (fun _ _ => rfl)))))
pss_nil)
(pss_cons (ps_set (i := 10) sc_law_value.nd rfl (.inl rfl) pe_str)
(pss_cons (ps_if (PW.pt (pw_and (pt_cmpR (op_eqA hr.units) (pv 2) (pv 3) (nomark _)) (pw_and1 (pt_cmpR op_gt (pe_call G_law_draw hr_law_draw (by rfl) T.g_law_draw T.F_law_draw.kp T.b_law_draw .nil pass0 (pa_cons (pv 0) (pa_cons pe_int pa_nil))) pe_int (nomark _)))))
(pss_one (ps_set (i := 10) sc_law_value.nd rfl (.inl rfl) pe_str))
pss_nil)
(pss_one (ps_ret (pe_lst (pa_cons (pv 2) (pa_cons (pv 3) (pa_cons (pe_tup (pa_cons (pv 10) (pa_cons (pv 8) (pa_cons (pv 9) (pa_cons (pv 4) (pa_cons (pv 5) pa_nil)))))) pa_nil))))))))))))))))))), fn_body (N := n_law_value) (C := cx T) (b := b_law_value)
    (ss_seq (ss_asg (se_op s2_ix (se_ro (n := 2) (sa_cons (se_call (m := 1) (sa_cons (se_var 0) sa_nil)) (sa_cons (se_call (m := 2) (sa_cons (se_var 0) (sa_cons se_int sa_nil))) sa_nil)) (by decide)) (se_call (m := 2) (sa_cons (se_var 0) (sa_cons se_int sa_nil)))) sg_name)
(ss_seq (ss_asg (se_var 2) sg_name)
(ss_seq (ss_if (st_test (se_op s2_eqA (se_call (m := 2) (sa_cons (se_var 0) (sa_cons se_int sa_nil))) se_int))
(ss_asg (se_op s2_ix (se_ro (n := 2) (sa_cons (se_call (m := 1) (sa_cons (se_var 0) sa_nil)) (sa_cons (se_call (m := 2) (sa_cons (se_var 0) (sa_cons se_int sa_nil))) sa_nil)) (by decide)) (se_call (m := 2) (sa_cons (se_var 0) (sa_cons se_int sa_nil)))) sg_name)
ss_next)
(ss_cut eqc_law_value_4
(ss_seq (ss_asg (se_un s1_neg se_int) sg_name)
(ss_seq (ss_asg se_int sg_name)
(ss_seq (ss_asg (se_call (m := 2) (sa_cons (se_var 0) (sa_cons (se_cb sc_len (sa_cons (se_op s2_ix (se_var 1) se_int) sa_nil)) sa_nil))) sg_name)
(ss_seq (ss_asg (se_op s2_ix (se_ro (n := 4) (sa_cons se_int (sa_cons se_int (sa_cons (se_call (m := 2) (sa_cons (se_var 0) (sa_cons se_int sa_nil))) (sa_cons (se_call (m := 1) (sa_cons (se_var 0) sa_nil)) sa_nil)))) (by decide)) (se_call (m := 2) (sa_cons (se_var 0) (sa_cons se_int sa_nil)))) sg_name)
(ss_seq (ss_if (st_and (st_test (se_op s2_eqA (se_call (m := 2) (sa_cons (se_var 0) (sa_cons se_int sa_nil))) se_int)) (st_test (se_op s2_le (se_op s2_addA (se_cb sc_max (sa_cons (se_op s2_ix (se_op s2_ix (se_var 1) se_int) (se_var 6)) (sa_cons (se_op s2_ix (se_op s2_ix (se_var 1) se_int) (se_var 6)) sa_nil))) (se_var 7)) se_int)))
(ss_seq (ss_asg (se_var 6) sg_name)
(ss_seq (ss_asg (se_var 7) sg_name)
(ss_seq (ss_asg (se_op s2_addA (se_op s2_ix (se_op s2_ix (se_var 1) se_int) (se_var 6)) (se_var 7)) sg_name)
(ss_asg (se_op s2_addA (se_op s2_ix (se_op s2_ix (se_var 1) se_int) (se_var 6)) (se_var 7)) sg_name))))
ss_next)
(ss_cut eqc_law_value_3
(ss_seq (ss_asg (se_cb sc_min (sa_cons (se_var 2) (sa_cons (se_var 3) sa_nil))) sg_name)
(ss_seq (ss_asg (se_cb sc_max (sa_cons (se_var 2) (sa_cons (se_var 3) sa_nil))) sg_name)
(ss_seq (ss_if (st_test (se_op s2_eqA (se_call (m := 2) (sa_cons (se_var 0) (sa_cons se_int sa_nil))) se_int))
(ss_seq (ss_asg (se_op s2_ix (se_ro (n := 2) (sa_cons se_int (sa_cons (se_call (m := 2) (sa_cons (se_var 0) (sa_cons (se_op s2_addA (se_var 8) se_int) sa_nil))) sa_nil)) (by decide)) (se_call (m := 2) (sa_cons (se_var 0) (sa_cons se_int sa_nil)))) sg_name)
(ss_asg (se_op s2_ix (se_ro (n := 2) (sa_cons se_int (sa_cons (se_op s2_addA (se_var 9) (se_call (m := 2) (sa_cons (se_var 0) (sa_cons (se_op s2_sub se_int (se_var 9)) sa_nil)))) sa_nil)) (by decide)) (se_call (m := 2) (sa_cons (se_var 0) (sa_cons se_int sa_nil)))) sg_name))
ss_next)
(ss_cut eqc_law_value_2
(ss_seq (ss_asg se_str sg_name)
(ss_seq (ss_if (st_and (st_test (se_op s2_eqA (se_var 2) (se_var 3))) (st_test (se_op s2_gt (se_call (m := 2) (sa_cons (se_var 0) (sa_cons se_int sa_nil))) se_int)))
(ss_asg se_str sg_name)
ss_next)
(ss_cut eqc_law_value_1
(ss_ret (se_lst (n := 3) (sa_cons (se_var 2) (sa_cons (se_var 3) (sa_cons (se_tup (n := 5) (sa_cons (se_var 10) (sa_cons (se_var 8) (sa_cons (se_var 9) (sa_cons (se_var 4) (sa_cons (se_var 5) sa_nil))))) (by decide)) sa_nil))) (by decide)))))))))))))))))))) h rfl⟩
theorem ok_law_instruction (T : Tx K mg) : FnOk P w K mg base CX0 3 T.a_law_instruction T.d_law_instruction ["source", "layout"] (spOf (cx T) 2 wp_law_instruction) := by
  have G_law_draw := ok_law_draw (P := P) (w := w) (base := base) T
  have G_law_word := ok_law_word (P := P) (w := w) (base := base) T
  refine T.F_law_instruction.ok sc_law_instruction (fun vs H Q E h => spOf_len h) (fun cdv A outer s H vs Q E hr h => ?_)
  have hr_law_draw : Room 1 _ := hr.mono (by decide)
  have hr_law_word : Room 2 _ := hr.mono (by decide)
  rw [eq_law_instruction] at h
  exact ⟨_, (pss_cons (ps_set (i := 2) sc_law_instruction.nd rfl (.inl rfl) (pe_lst (pa_cons pe_str (pa_cons pe_str (pa_cons pe_str (pa_cons pe_str (pa_cons pe_str (pa_cons pe_str (pa_cons pe_str (pa_cons pe_str (pa_cons pe_str (pa_cons pe_str (pa_cons pe_str (pa_cons pe_str (pa_cons pe_str (pa_cons pe_str pa_nil))))))))))))))))
(pss_cons (ps_set (i := 2) sc_law_instruction.nd rfl (.inl rfl) (pe_op op_addA (pv 2) (pe_lst (pa_cons pe_str (pa_cons pe_str (pa_cons pe_str (pa_cons pe_str (pa_cons pe_str (pa_cons pe_str (pa_cons pe_str (pa_cons pe_str (pa_cons pe_str (pa_cons pe_str (pa_cons pe_str (pa_cons pe_str pa_nil)))))))))))))))
(pss_cons (ps_set (i := 3) sc_law_instruction.nd rfl (.inl rfl) (pe_ix ix_seq (pv 2) (pe_call G_law_draw hr_law_draw (by rfl) T.g_law_draw T.F_law_draw.kp T.b_law_draw .nil pass0 (pa_cons (pv 0) (pa_cons pe_int pa_nil))) (fun _ _ => rfl)))
(pss_cons (ps_set (i := 4) sc_law_instruction.nd rfl (.inl rfl) (pe_call G_law_draw hr_law_draw (by rfl) T.g_law_draw T.F_law_draw.kp T.b_law_draw .nil pass0 (pa_cons (pv 0) (pa_cons pe_int pa_nil))))
(pss_cons (ps_set (i := 5) sc_law_instruction.nd rfl (.inl rfl) (pe_call G_law_draw hr_law_draw (by rfl) T.g_law_draw T.F_law_draw.kp T.b_law_draw .nil pass0 (pa_cons (pv 0) (pa_cons pe_int pa_nil))))
(pss_cons (ps_set (i := 6) sc_law_instruction.nd rfl (.inl rfl) (pe_ix ix_seq (pe_lst (pa_cons (pe_call G_law_draw hr_law_draw (by rfl) T.g_law_draw T.F_law_draw.kp T.b_law_draw .nil pass0 (pa_cons (pv 0) (pa_cons pe_int pa_nil))) (pa_cons (pv 5) pa_nil))) (pe_callTy call_int1 (by rfl) T.z_int (by decide +kernel) (pa_cons (pe_cmpR (op_eqA hr.units) (pe_call G_law_draw hr_law_draw (by rfl) T.g_law_draw T.F_law_draw.kp T.b_law_draw .nil pass0 (pa_cons (pv 0) (pa_cons pe_int pa_nil))) pe_int (nomark _)) pa_nil)) (fun _ _ => rfl)))
(pss_cons (ps_if (pt_cmpR (op_eqA hr.units) (pe_call G_law_draw hr_law_draw (by rfl) T.g_law_draw T.F_law_draw.kp T.b_law_draw .nil pass0 (pa_cons (pv 0) (pa_cons pe_int pa_nil))) pe_int (nomark _))
(pss_one (ps_set (i := 5) sc_law_instruction.nd rfl (.inl rfl) (pv 4)))
pss_nil)
(pss_cons (ps_if (pt_cmpR (op_eqA hr.units) (pv 3) pe_str (nomark _))
(pss_one (ps_ret (pe_tup (pa_cons (pv 3) (pa_cons (pv 4) (pa_cons (pe_call G_law_word hr_law_word (by rfl) T.g_law_word T.F_law_word.kp T.b_law_word .nil pass0 (pa_cons (pv 0) pa_nil)) pa_nil))))))
pss_nil)
(pss_cons (ps_if (pt_cmpR (op_eqA hr.units) (pv 3) pe_str (nomark _))
(pss_one (ps_ret (pe_tup (pa_cons (pv 3) (pa_cons (pv 4) (pa_cons (pv 5) pa_nil))))))
pss_nil)
(pss_cons (ps_if (pt_cmpR (op_eqA hr.units) (pv 3) pe_str (nomark _))
(pss_one (ps_ret (pe_tup (pa_cons (pv 3) (pa_cons (pv 4) pa_nil)))))
pss_nil)
(pss_cons (ps_if (pt_cmpR (op_eqA hr.units) (pv 3) pe_str (nomark _))
(pss_one (ps_ret (pe_tup (pa_cons (pv 3) pa_nil))))
pss_nil)
(pss_cons (ps_if (PW.pt (pw_or (pt_cmpR (op_eqA hr.units) (pv 3) pe_str (nomark _)) (pw_or1 (pt_cmpR (op_eqA hr.units) (pv 3) pe_str (nomark _)))))
(pss_one (ps_ret (pe_tup (pa_cons (pv 3) (pa_cons (pv 4) (pa_cons (pv 5) (pa_cons (pe_call G_law_draw hr_law_draw (by rfl) T.g_law_draw T.F_law_draw.kp T.b_law_draw .nil pass0 (pa_cons (pv 0) (pa_cons (pe_op op_addA (pe_ix ix_seq (pe_ix ix_seq (pv 1) pe_int (fun _ _ => rfl)) pe_int (fun _ _ => rfl)) (pe_ix ix_seq (pe_ix ix_seq (pv 1) pe_int (fun _ _ => rfl)) pe_int (fun _ _ => rfl))) pa_nil))) pa_nil)))))))
pss_nil)
(pss_cons (ps_if (PW.pt (pw_or (pt_cmpR (op_eqA hr.units) (pv 3) pe_str (nomark _)) (pw_or1 (pt_cmpR (op_eqA hr.units) (pv 3) pe_str (nomark _)))))
(pss_one (ps_ret (pe_tup (pa_cons (pv 3) (pa_cons (pv 4) (pa_cons (pv 5) (pa_cons (pe_call G_law_draw hr_law_draw (by rfl) T.g_law_draw T.F_law_draw.kp T.b_law_draw .nil pass0 (pa_cons (pv 0) (pa_cons pe_int pa_nil))) pa_nil)))))))
pss_nil)
(pss_one (ps_ret (pe_tup (pa_cons (pv 3) (pa_cons (pv 4) (pa_cons (pv 5) (pa_cons (pv 6) pa_nil)))))))))))))))))))), fn_body (N := n_law_instruction) (C := cx T) (b := b_law_instruction)
    (ss_seq (ss_asg (se_lst (n := 14) (sa_cons se_str (sa_cons se_str (sa_cons se_str (sa_cons se_str (sa_cons se_str (sa_cons se_str (sa_cons se_str (sa_cons se_str (sa_cons se_str (sa_cons se_str (sa_cons se_str (sa_cons se_str (sa_cons se_str (sa_cons se_str sa_nil)))))))))))))) (by decide)) sg_name)
(ss_seq (ss_asg (se_op s2_addA (se_var 2) (se_lst (n := 12) (sa_cons se_str (sa_cons se_str (sa_cons se_str (sa_cons se_str (sa_cons se_str (sa_cons se_str (sa_cons se_str (sa_cons se_str (sa_cons se_str (sa_cons se_str (sa_cons se_str (sa_cons se_str sa_nil)))))))))))) (by decide))) sg_name)
(ss_seq (ss_asg (se_op s2_ix (se_var 2) (se_call (m := 2) (sa_cons (se_var 0) (sa_cons se_int sa_nil)))) sg_name)
(ss_seq (ss_asg (se_call (m := 2) (sa_cons (se_var 0) (sa_cons se_int sa_nil))) sg_name)
(ss_seq (ss_asg (se_call (m := 2) (sa_cons (se_var 0) (sa_cons se_int sa_nil))) sg_name)
(ss_seq (ss_asg (se_op s2_ix (se_ro (n := 2) (sa_cons (se_call (m := 2) (sa_cons (se_var 0) (sa_cons se_int sa_nil))) (sa_cons (se_var 5) sa_nil)) (by decide)) (se_cb sc_int (sa_cons (se_op s2_eqA (se_call (m := 2) (sa_cons (se_var 0) (sa_cons se_int sa_nil))) se_int) sa_nil))) sg_name)
(ss_seq (ss_if (st_test (se_op s2_eqA (se_call (m := 2) (sa_cons (se_var 0) (sa_cons se_int sa_nil))) se_int))
(ss_asg (se_var 4) sg_name)
ss_next)
(ss_cut eqc_law_instruction_1
(ss_seq (ss_if (st_test (se_op s2_eqA (se_var 3) se_str))
(ss_ret (se_tup (n := 3) (sa_cons (se_var 3) (sa_cons (se_var 4) (sa_cons (se_call (m := 1) (sa_cons (se_var 0) sa_nil)) sa_nil))) (by decide)))
ss_next)
(ss_seq (ss_if (st_test (se_op s2_eqA (se_var 3) se_str))
(ss_ret (se_tup (n := 3) (sa_cons (se_var 3) (sa_cons (se_var 4) (sa_cons (se_var 5) sa_nil))) (by decide)))
ss_next)
(ss_seq (ss_if (st_test (se_op s2_eqA (se_var 3) se_str))
(ss_ret (se_tup (n := 2) (sa_cons (se_var 3) (sa_cons (se_var 4) sa_nil)) (by decide)))
ss_next)
(ss_seq (ss_if (st_test (se_op s2_eqA (se_var 3) se_str))
(ss_ret (se_tup (n := 1) (sa_cons (se_var 3) sa_nil) (by decide)))
ss_next)
(ss_seq (ss_if (st_or (st_test (se_op s2_eqA (se_var 3) se_str)) (st_test (se_op s2_eqA (se_var 3) se_str)))
(ss_ret (se_tup (n := 4) (sa_cons (se_var 3) (sa_cons (se_var 4) (sa_cons (se_var 5) (sa_cons (se_call (m := 2) (sa_cons (se_var 0) (sa_cons (se_op s2_addA (se_op s2_ix (se_op s2_ix (se_var 1) se_int) se_int) (se_op s2_ix (se_op s2_ix (se_var 1) se_int) se_int)) sa_nil))) sa_nil)))) (by decide)))
ss_next)
(ss_seq (ss_if (st_or (st_test (se_op s2_eqA (se_var 3) se_str)) (st_test (se_op s2_eqA (se_var 3) se_str)))
(ss_ret (se_tup (n := 4) (sa_cons (se_var 3) (sa_cons (se_var 4) (sa_cons (se_var 5) (sa_cons (se_call (m := 2) (sa_cons (se_var 0) (sa_cons se_int sa_nil))) sa_nil)))) (by decide)))
ss_next)
(ss_ret (se_tup (n := 4) (sa_cons (se_var 3) (sa_cons (se_var 4) (sa_cons (se_var 5) (sa_cons (se_var 6) sa_nil)))) (by decide))))))))))))))))) h rfl⟩
theorem ok_loaded_fact (T : Tx K mg) : FnOk P w K mg base CX0 4 T.a_loaded_fact T.d_loaded_fact ["layout", "least", "greatest"] (spOf (cx T) 3 wp_loaded_fact) := by
  have G_safe_region := ok_safe_region (P := P) (w := w) (base := base) T
  refine T.F_loaded_fact.ok sc_loaded_fact (fun vs H Q E h => spOf_len h) (fun cdv A outer s H vs Q E hr h => ?_)
  have hr_safe_region : Room 3 _ := hr.mono (by decide)
  rw [eq_loaded_fact] at h
  exact ⟨_, (pss_cons (ps_set (i := 3) sc_loaded_fact.nd rfl (.inl rfl) (pe_call G_safe_region hr_safe_region (by rfl) T.g_safe_region T.F_safe_region.kp T.b_safe_region .nil pass0 (pa_cons (pv 0) (pa_cons (pv 1) (pa_cons (pv 2) pa_nil)))))
(pss_cons (ps_if (pt_cmpR op_isN (pv 3) pe_non (nomark _))
(pss_one (ps_ret (pe_tup (pa_cons pe_str (pa_cons pe_int (pa_cons (pe_glob rfl T.g_GREATEST_WORD T.r_GREATEST_WORD) (StX.pa_star (pe_glob rfl T.g_NO_CELL T.r_NO_CELL) pa_nil)))))))
pss_nil)
(pss_cons (ps_asg (pv 3) (pg_tup rfl (pgs_cons (pg_name (i := 4) sc_loaded_fact.nd rfl (.inl rfl)) (pgs_cons (pg_name (i := 4) sc_loaded_fact.nd rfl (.inl rfl)) (pgs_cons (pg_name (i := 5) sc_loaded_fact.nd rfl (.inl rfl)) (pgs_cons (pg_name (i := 6) sc_loaded_fact.nd rfl (.inl rfl)) pgs_nil))))))
(pss_cons (ps_if (pt_cmpR (op_eqA hr.units) (pv 1) (pv 2) (nomark _))
(pss_one (ps_ret (pe_tup (pa_cons (pv 5) (pa_cons pe_int (pa_cons (pv 6) (pa_cons (pv 1) (pa_cons pe_int pa_nil))))))))
pss_nil)
(pss_one (ps_ret (pe_tup (pa_cons (pv 5) (pa_cons pe_int (pa_cons (pv 6) (StX.pa_star (pe_glob rfl T.g_NO_CELL T.r_NO_CELL) pa_nil))))))))))), fn_body (N := n_loaded_fact) (C := cx T) (b := b_loaded_fact)
    (ss_seq (ss_asg (se_call (m := 3) (sa_cons (se_var 0) (sa_cons (se_var 1) (sa_cons (se_var 2) sa_nil)))) sg_name)
(ss_seq (ss_if (st_test (se_op s2_is (se_var 3) se_non))
(ss_ret (se_tupS (sa_cons se_str (sa_cons se_int (sa_cons se_int (sa_star (se_c fun w => rep_const T.kitd_NO_CELL w) sa_nil))))))
ss_next)
(ss_seq (ss_asg (se_var 3) (sg_tup (sgs_cons sg_name (sgs_cons sg_name (sgs_cons sg_name (sgs_cons sg_name sgs_nil))))))
(ss_seq (ss_if (st_test (se_op s2_eqA (se_var 1) (se_var 2)))
(ss_ret (se_tup (n := 5) (sa_cons (se_var 5) (sa_cons se_int (sa_cons (se_var 6) (sa_cons (se_var 1) (sa_cons se_int sa_nil))))) (by decide)))
ss_next)
(ss_ret (se_tupS (sa_cons (se_var 5) (sa_cons se_int (sa_cons (se_var 6) (sa_star (se_c fun w => rep_const T.kitd_NO_CELL w) sa_nil)))))))))) h rfl⟩
theorem ok_result_fact (T : Tx K mg) : FnOk P w K mg base CX0 5 T.a_result_fact T.d_result_fact ["layout", "state", "instruction"] (spOf (cx T) 3 wp_result_fact) := by
  have G_addresses := ok_addresses (P := P) (w := w) (base := base) T
  have G_cell_of_sum := ok_cell_of_sum (P := P) (w := w) (base := base) T
  have G_joined_flow := ok_joined_flow (P := P) (w := w) (base := base) T
  have G_loaded_fact := ok_loaded_fact (P := P) (w := w) (base := base) T
  have G_operated := ok_operated (P := P) (w := w) (base := base) T
  have G_shifted := ok_shifted (P := P) (w := w) (base := base) T
  refine T.F_result_fact.ok sc_result_fact (fun vs H Q E h => spOf_len h) (fun cdv A outer s H vs Q E hr h => ?_)
  have hr_addresses : Room 1 _ := hr.mono (by decide)
  have hr_cell_of_sum : Room 1 _ := hr.mono (by decide)
  have hr_joined_flow : Room 1 _ := hr.mono (by decide)
  have hr_loaded_fact : Room 4 _ := hr.mono (by decide)
  have hr_operated : Room 3 _ := hr.mono (by decide)
  have hr_shifted : Room 2 _ := hr.mono (by decide)
  rw [eq_result_fact] at h
  exact ⟨_, (pss_cons (ps_set (i := 3) sc_result_fact.nd rfl (.inl rfl) (pe_ix ix_seq (pv 2) pe_int (fun _ _ => rfl)))
(pss_cons (ps_if (pt_cmpR (op_eqA hr.units) (pv 3) pe_str (nomark _))
(pss_cons (ps_set (i := 4) sc_result_fact.nd rfl (.inl rfl) (pe_ix ix_seq (pv 2) pe_int (fun _ _ => rfl)))
(pss_one (ps_ret (pe_tup (pa_cons pe_str (pa_cons (pv 4) (pa_cons (pv 4) (StX.pa_star (pe_glob rfl T.g_NO_CELL T.r_NO_CELL) pa_nil))))))))
pss_nil)
(pss_cons (ps_if (pt_cmpR (op_eqA hr.units) (pv 3) pe_str (nomark _))
(pss_one (ps_ret (pe_tup (pa_cons (pe_ix ix_seq (pv 1) (pe_glob rfl T.g_CARRY T.r_CARRY) (fun _ _ => rfl)) (pa_cons pe_int (pa_cons pe_int (StX.pa_star (pe_glob rfl T.g_NO_CELL T.r_NO_CELL) pa_nil)))))))
pss_nil)
(pss_cons (ps_if (pt_cmpR (op_eqA hr.units) (pv 3) pe_str (nomark _))
(pss_cons (ps_asg (pe_call G_addresses hr_addresses (by rfl) T.g_addresses T.F_addresses.kp T.b_addresses .nil pass0 (pa_cons (pv 1) (pa_cons (pv 2) pa_nil))) (pg_tup rfl (pgs_cons (pg_name (i := 5) sc_result_fact.nd rfl (.inl rfl)) (pgs_cons (pg_name (i := 6) sc_result_fact.nd rfl (.inl rfl)) pgs_nil))))
(pss_one (ps_ret (pe_call G_loaded_fact hr_loaded_fact (by rfl) T.g_loaded_fact T.F_loaded_fact.kp T.b_loaded_fact .nil pass0 (pa_cons (pv 0) (pa_cons (pv 5) (pa_cons (pv 6) pa_nil)))))))
pss_nil)
(pss_cons (ps_set (i := 7) sc_result_fact.nd rfl (.inl rfl) (pe_ix ix_seq (pv 1) (pe_ix ix_seq (pv 2) pe_int (fun _ _ => rfl)) (fun _ _ => rfl)))
(pss_cons (ps_if (pt_cmpR (op_eqA hr.units) (pv 3) pe_str (nomark _))
(pss_one (ps_ret (pv 7)))
pss_nil)
(pss_cons (ps_if (pt_cmpR (op_inA (IT.hu65 hr)) (pv 3) (pe_glob rfl T.g_SHIFTS T.r_SHIFTS) (by rfl))
(pss_cons (ps_asg (pe_call G_shifted hr_shifted (by rfl) T.g_shifted T.F_shifted.kp T.b_shifted .nil pass0 (pa_cons (pv 3) (pa_cons (pe_ix ix_seq (pv 7) pe_int (fun _ _ => rfl)) (pa_cons (pe_ix ix_seq (pv 7) pe_int (fun _ _ => rfl)) (pa_cons (pe_ix ix_seq (pv 2) pe_int (fun _ _ => rfl)) pa_nil))))) (pg_tup rfl (pgs_cons (pg_name (i := 5) sc_result_fact.nd rfl (.inl rfl)) (pgs_cons (pg_name (i := 6) sc_result_fact.nd rfl (.inl rfl)) pgs_nil))))
(pss_one (ps_ret (pe_tup (pa_cons (pe_ix ix_seq (pv 7) pe_int (fun _ _ => rfl)) (pa_cons (pv 5) (pa_cons (pv 6) (StX.pa_star (pe_glob rfl T.g_NO_CELL T.r_NO_CELL) pa_nil))))))))
pss_nil)
(pss_cons (ps_set (i := 8) sc_result_fact.nd rfl (.inl rfl) (pe_ix ix_seq (pv 1) (pe_ix ix_seq (pv 2) pe_int (fun _ _ => rfl)) (fun _ _ => rfl)))
(pss_cons (ps_set (i := 9) sc_result_fact.nd rfl (.inl rfl) (pe_lst (pa_cons (pe_ix ix_seq (pv 7) pe_int (fun _ _ => rfl)) (pa_cons (pe_ix ix_seq (pv 8) pe_int (fun _ _ => rfl)) pa_nil))))
(pss_cons (ps_if (pt_cmpR (op_inA (IT.hu65 hr)) (pv 3) (pe_glob rfl T.g_CHAINED T.r_CHAINED) (by rfl))
(pss_one (ps_expr (pe_bm PySem.F.plainAttrs_list PySem.F.slot_list_append PySem.F.type_list_append mt_append (pv 9) (pa_cons (pe_ix ix_seq (pv 1) (pe_glob rfl T.g_CARRY T.r_CARRY) (fun _ _ => rfl)) pa_nil))))
pss_nil)
(pss_cons (ps_asg (pe_call G_operated hr_operated (by rfl) T.g_operated T.F_operated.kp T.b_operated .nil pass0 (pa_cons (pv 3) (pa_cons (pv 7) (pa_cons (pv 8) pa_nil)))) (pg_tup rfl (pgs_cons (pg_name (i := 5) sc_result_fact.nd rfl (.inl rfl)) (pgs_cons (pg_name (i := 6) sc_result_fact.nd rfl (.inl rfl)) pgs_nil))))
(pss_cons (ps_set (i := 10) sc_result_fact.nd rfl (.inl rfl) (pe_ifExp (pt_cmpR (op_eqA hr.units) (pv 3) pe_str (nomark _)) (pe_call G_cell_of_sum hr_cell_of_sum (by rfl) T.g_cell_of_sum T.F_cell_of_sum.kp T.b_cell_of_sum .nil pass0 (pa_cons (pv 7) (pa_cons (pv 8) pa_nil))) (pe_glob rfl T.g_NO_CELL T.r_NO_CELL)))
(pss_one (ps_ret (pe_tup (pa_cons (pe_call G_joined_flow hr_joined_flow (by rfl) T.g_joined_flow T.F_joined_flow.kp T.b_joined_flow .nil pass0 (pa_cons (pv 9) pa_nil)) (pa_cons (pv 5) (pa_cons (pv 6) (StX.pa_star (pv 10) pa_nil))))))))))))))))))), fn_body (N := n_result_fact) (C := cx T) (b := b_result_fact)
    (ss_seq (ss_asg (se_op s2_ix (se_var 2) se_int) sg_name)
(ss_seq (ss_if (st_test (se_op s2_eqA (se_var 3) se_str))
(ss_seq (ss_asg (se_op s2_ix (se_var 2) se_int) sg_name)
(ss_ret (se_tupS (sa_cons se_str (sa_cons (se_var 4) (sa_cons (se_var 4) (sa_star (se_c fun w => rep_const T.kitd_NO_CELL w) sa_nil)))))))
ss_next)
(ss_seq (ss_if (st_test (se_op s2_eqA (se_var 3) se_str))
(ss_ret (se_tupS (sa_cons (se_op s2_ix (se_var 1) se_int) (sa_cons se_int (sa_cons se_int (sa_star (se_c fun w => rep_const T.kitd_NO_CELL w) sa_nil))))))
ss_next)
(ss_seq (ss_if (st_test (se_op s2_eqA (se_var 3) se_str))
(ss_seq (ss_asg (se_call (m := 2) (sa_cons (se_var 1) (sa_cons (se_var 2) sa_nil))) (sg_tup (sgs_cons sg_name (sgs_cons sg_name sgs_nil))))
(ss_ret (se_call (m := 3) (sa_cons (se_var 0) (sa_cons (se_var 5) (sa_cons (se_var 6) sa_nil))))))
ss_next)
(ss_seq (ss_asg (se_op s2_ix (se_var 1) (se_op s2_ix (se_var 2) se_int)) sg_name)
(ss_seq (ss_if (st_test (se_op s2_eqA (se_var 3) se_str))
(ss_ret (se_var 7))
ss_next)
(ss_seq (ss_if (st_test (se_op s2_inA (se_var 3) (se_c fun w => rep_const T.kitd_SHIFTS w)))
(ss_seq (ss_asg (se_call (m := 4) (sa_cons (se_var 3) (sa_cons (se_op s2_ix (se_var 7) se_int) (sa_cons (se_op s2_ix (se_var 7) se_int) (sa_cons (se_op s2_ix (se_var 2) se_int) sa_nil))))) (sg_tup (sgs_cons sg_name (sgs_cons sg_name sgs_nil))))
(ss_ret (se_tupS (sa_cons (se_op s2_ix (se_var 7) se_int) (sa_cons (se_var 5) (sa_cons (se_var 6) (sa_star (se_c fun w => rep_const T.kitd_NO_CELL w) sa_nil)))))))
ss_next)
(ss_seq (ss_asg (se_op s2_ix (se_var 1) (se_op s2_ix (se_var 2) se_int)) sg_name)
(ss_seq (ss_asg (se_lst (n := 2) (sa_cons (se_op s2_ix (se_var 7) se_int) (sa_cons (se_op s2_ix (se_var 8) se_int) sa_nil)) (by decide)) sg_name)
(ss_seq (ss_if (st_test (se_op s2_inA (se_var 3) (se_c fun w => rep_const T.kitd_CHAINED w)))
(ss_drop (se_bl' sl_append (se_var 9) (sa_cons (se_op s2_ix (se_var 1) se_int) sa_nil)))
ss_next)
(ss_cut eqc_result_fact_1
(ss_seq (ss_asg (se_call (m := 3) (sa_cons (se_var 3) (sa_cons (se_var 7) (sa_cons (se_var 8) sa_nil)))) (sg_tup (sgs_cons sg_name (sgs_cons sg_name sgs_nil))))
(ss_seq (ss_asg (se_if (st_test (se_op s2_eqA (se_var 3) se_str)) (se_call (m := 2) (sa_cons (se_var 7) (sa_cons (se_var 8) sa_nil))) (se_c fun w => rep_const T.kitd_NO_CELL w)) sg_name)
(ss_ret (se_tupS (sa_cons (se_call (m := 1) (sa_cons (se_var 9) sa_nil)) (sa_cons (se_var 5) (sa_cons (se_var 6) (sa_star (se_var 10) sa_nil))))))))))))))))))) h rfl⟩
theorem ok_next_state (T : Tx K mg) : FnOk P w K mg base CX0 6 T.a_next_state T.d_next_state ["layout", "state", "instruction"] (spOf (cx T) 3 wp_next_state) := by
  have G_addresses := ok_addresses (P := P) (w := w) (base := base) T
  have G_given_register := ok_given_register (P := P) (w := w) (base := base) T
  have G_result_fact := ok_result_fact (P := P) (w := w) (base := base) T
  have G_without_cell := ok_without_cell (P := P) (w := w) (base := base) T
  refine T.F_next_state.ok sc_next_state (fun vs H Q E h => spOf_len h) (fun cdv A outer s H vs Q E hr h => ?_)
  have hr_addresses : Room 1 _ := hr.mono (by decide)
  have hr_given_register : Room 1 _ := hr.mono (by decide)
  have hr_result_fact : Room 5 _ := hr.mono (by decide)
  have hr_without_cell : Room 1 _ := hr.mono (by decide)
  rw [eq_next_state] at h
  exact ⟨_, (pss_cons (ps_set (i := 3) sc_next_state.nd rfl (.inl rfl) (pe_ix ix_seq (pv 2) pe_int (fun _ _ => rfl)))
(pss_cons (ps_set (i := 4) sc_next_state.nd rfl (.inl rfl) (pe_call G_given_register hr_given_register (by rfl) T.g_given_register T.F_given_register.kp T.b_given_register .nil pass0 (pa_cons (pv 2) pa_nil)))
(pss_cons (ps_if (pt_cmpR op_ge (pv 4) pe_int (nomark _))
(pss_cons (ps_set (i := 5) sc_next_state.nd rfl (.inl rfl) (pe_call G_result_fact hr_result_fact (by rfl) T.g_result_fact T.F_result_fact.kp T.b_result_fact .nil pass0 (pa_cons (pv 0) (pa_cons (pv 1) (pa_cons (pv 2) pa_nil)))))
(pss_cons (ps_set (i := 6) sc_next_state.nd rfl (.inl rfl) (pe_ifExp (pt_cmpR (op_inA (IT.hu65 hr)) (pv 3) (pe_glob rfl T.g_CARRYING T.r_CARRYING) (by rfl)) (pe_ix ix_seq (pv 5) pe_int (fun _ _ => rfl)) (pe_ix ix_seq (pv 1) (pe_glob rfl T.g_CARRY T.r_CARRY) (fun _ _ => rfl))))
(pss_one (ps_ret (pe_tup (StX.pa_star (pe_slice sl_any (pv 1) po_none (po_some (pv 4))) (pa_cons (pv 5) (StX.pa_star (pe_slice sl_any (pv 1) (po_some (pe_op op_addA (pv 4) pe_int)) (po_some (pe_glob rfl T.g_CARRY T.r_CARRY))) (pa_cons (pv 6) pa_nil)))))))))
pss_nil)
(pss_cons (ps_if (pt_cmpR (op_eqA hr.units) (pv 3) pe_str (nomark _))
(pss_one (ps_ret (pe_tup (StX.pa_star (pe_slice sl_any (pv 1) po_none (po_some (pe_glob rfl T.g_CARRY T.r_CARRY))) (pa_cons pe_str pa_nil)))))
pss_nil)
(pss_cons (ps_if (pt_cmpR (op_eqA hr.units) (pv 3) pe_str (nomark _))
(pss_cons (ps_asg (pe_call G_addresses hr_addresses (by rfl) T.g_addresses T.F_addresses.kp T.b_addresses .nil pass0 (pa_cons (pv 1) (pa_cons (pv 2) pa_nil))) (pg_tup rfl (pgs_cons (pg_name (i := 7) sc_next_state.nd rfl (.inr rfl)) (pgs_cons (pg_name (i := 8) sc_next_state.nd rfl (.inr rfl)) pgs_nil))))
(pss_cons (ps_setLc (i := 9) (own := [("fact", 5)]) (g := gName 5) (by rfl) sc_next_state.nd rfl rfl (sw_true rfl rfl rfl (by decide +kernel)) (pi_seqA (pe_slice sl_any (pv 1) po_none (po_some (pe_glob rfl T.g_REGISTERS T.r_REGISTERS)))) (blkOk_by (N := n_next_state) (sc := defScope s_next_state) (by decide +kernel)) (fun _ _ _ _ _ => (pg_name (i := 5) sc_next_state.nd rfl (Or.inl rfl))) (fun _ _ _ _ _ => pts_nil) (fun _ _ _ _ _ => (pe_ifExp (pt_chain op_le op_le (pv 7) (pe_ix (show IxR _ (rIx K) from ix_seq) (pv 5) pe_int (fun _ _ => rfl)) (pv 8)) (pe_call G_without_cell hr_without_cell (by rfl) T.g_without_cell T.F_without_cell.kp T.b_without_cell .nil pass0 (pa_cons (pv 5) pa_nil)) (pv 5))))
(pss_one (ps_ret (pe_tup (StX.pa_star (pv 9) (pa_cons (pe_ix ix_seq (pv 1) (pe_glob rfl T.g_CARRY T.r_CARRY) (fun _ _ => rfl)) pa_nil)))))))
pss_nil)
(pss_one (ps_ret (pv 1)))))))), fn_body (N := n_next_state) (C := cx T) (b := b_next_state)
    (ss_seq (ss_asg (se_op s2_ix (se_var 2) se_int) sg_name)
(ss_seq (ss_asg (se_call (m := 1) (sa_cons (se_var 2) sa_nil)) sg_name)
(ss_seq (ss_if (st_test (se_op s2_ge (se_var 4) se_int))
(ss_seq (ss_asg (se_call (m := 3) (sa_cons (se_var 0) (sa_cons (se_var 1) (sa_cons (se_var 2) sa_nil)))) sg_name)
(ss_seq (ss_asg (se_if (st_test (se_op s2_inA (se_var 3) (se_c fun w => rep_const T.kitd_CARRYING w))) (se_op s2_ix (se_var 5) se_int) (se_op s2_ix (se_var 1) se_int)) sg_name)
(ss_ret (se_tupS (sa_star (se_sl ssl_A (se_var 1) so_none (so_some (se_var 4))) (sa_cons (se_var 5) (sa_star (se_sl ssl_A (se_var 1) (so_some (se_op s2_addA (se_var 4) se_int)) (so_some se_int)) (sa_cons (se_var 6) sa_nil))))))))
ss_next)
(ss_seq (ss_if (st_test (se_op s2_eqA (se_var 3) se_str))
(ss_ret (se_tupS (sa_star (se_sl ssl_A (se_var 1) so_none (so_some se_int)) (sa_cons se_str sa_nil))))
ss_next)
(ss_seq (ss_if (st_test (se_op s2_eqA (se_var 3) se_str))
(ss_seq (ss_asg (se_call (m := 2) (sa_cons (se_var 1) (sa_cons (se_var 2) sa_nil))) (sg_tup (sgs_cons sg_name (sgs_cons sg_name sgs_nil))))
(ss_seq (ss_asg (se_lc (si_seqA (se_sl ssl_A (se_var 1) so_none (so_some se_int))) sg_name (kw_name (by decide)) st_yes (se_if (st_test (se_chain s2_le s2_le (se_var 7) (se_op s2_ix (se_var 5) se_int) (se_var 8))) (se_call (m := 1) (sa_cons (se_var 5) sa_nil)) (se_var 5))) sg_name)
(ss_ret (se_tupS (sa_star (se_var 9) (sa_cons (se_op s2_ix (se_var 1) se_int) sa_nil))))))
ss_next)
(ss_ret (se_var 1))))))) h rfl⟩
theorem ok_law_stays_true (T : Tx K mg) : FnOk P w K mg base CX0 7 T.a_law_stays_true T.d_law_stays_true ["script", "at"] (spOf (cx T) 2 wp_law_stays_true) := by
  have G_law_done := ok_law_done (P := P) (w := w) (base := base) T
  have G_law_draw := ok_law_draw (P := P) (w := w) (base := base) T
  have G_law_instruction := ok_law_instruction (P := P) (w := w) (base := base) T
  have G_law_layout := ok_law_layout (P := P) (w := w) (base := base) T
  have G_law_memories := ok_law_memories (P := P) (w := w) (base := base) T
  have G_law_source := ok_law_source (P := P) (w := w) (base := base) T
  have G_law_true := ok_law_true (P := P) (w := w) (base := base) T
  have G_law_value := ok_law_value (P := P) (w := w) (base := base) T
  have G_next_state := ok_next_state (P := P) (w := w) (base := base) T
  refine T.F_law_stays_true.ok sc_law_stays_true (fun vs H Q E h => spOf_len h) (fun cdv A outer s H vs Q E hr h => ?_)
  have hr_law_done : Room 2 _ := hr.mono (by decide)
  have hr_law_draw : Room 1 _ := hr.mono (by decide)
  have hr_law_instruction : Room 3 _ := hr.mono (by decide)
  have hr_law_layout : Room 2 _ := hr.mono (by decide)
  have hr_law_memories : Room 2 _ := hr.mono (by decide)
  have hr_law_source : Room 1 _ := hr.mono (by decide)
  have hr_law_true : Room 1 _ := hr.mono (by decide)
  have hr_law_value : Room 3 _ := hr.mono (by decide)
  have hr_next_state : Room 6 _ := hr.mono (by decide)
  rw [eq_law_stays_true] at h
  exact ⟨_, (pss_cons (ps_set (i := 2) sc_law_stays_true.nd rfl (.inl rfl) (pe_call G_law_source hr_law_source (by rfl) T.g_law_source T.F_law_source.kp T.b_law_source .nil pass0 (pa_cons (pv 0) (pa_cons (pv 1) pa_nil))))
(pss_cons (ps_set (i := 3) sc_law_stays_true.nd rfl (.inl rfl) (pe_call G_law_layout hr_law_layout (by rfl) T.g_law_layout T.F_law_layout.kp T.b_law_layout .nil pass0 (pa_cons (pv 2) pa_nil)))
(pss_cons (ps_set (i := 4) sc_law_stays_true.nd rfl (.inr rfl) (pe_call G_law_memories hr_law_memories (by rfl) T.g_law_memories T.F_law_memories.kp T.b_law_memories .nil pass0 (pa_cons (pv 2) (pa_cons (pv 3) pa_nil))))
(pss_cons (ps_setLc (i := 6) (own := [("k", 5)]) (g := gName 5) (by rfl) sc_law_stays_true.nd rfl rfl (sw_true rfl rfl rfl (by decide +kernel)) (pi_range1 rfl T.z_range (pa_cons pe_int pa_nil)) (blkOk_by (N := n_law_stays_true) (sc := defScope s_law_stays_true) (by decide +kernel)) (fun _ _ _ _ _ => (pg_name (i := 5) sc_law_stays_true.nd rfl (Or.inl rfl))) (fun _ _ _ _ _ => pts_nil) (fun _ _ _ _ _ => (pe_call G_law_value hr_law_value (by rfl) T.g_law_value T.F_law_value.kp T.b_law_value .nil pass0 (pa_cons (pe_call G_law_source hr_law_source (by rfl) T.g_law_source T.F_law_source.kp T.b_law_source .nil pass0 (pa_cons (pv 0) (pa_cons (pe_op (show OpR _ _ (rAddA K) from op_addA) (pe_op (show OpR _ _ (rAddA K) from op_addA) (pv 1) pe_int) (pv 5)) pa_nil))) (pa_cons (pv 4) pa_nil)))))
(pss_cons (ps_setLc (i := 7) (own := [("value", 16)]) (g := gName 16) (by rfl) sc_law_stays_true.nd rfl rfl (sw_true rfl rfl rfl (by decide +kernel)) (pi_seqA (pv 6)) (blkOk_by (N := n_law_stays_true) (sc := defScope s_law_stays_true) (by decide +kernel)) (fun _ _ _ _ _ => (pg_name (i := 16) sc_law_stays_true.nd rfl (Or.inl rfl))) (fun _ _ _ _ _ => pts_nil) (fun _ _ _ _ _ => (pe_ix (show IxR _ (rIx K) from ix_seq) (pv 16) pe_int (fun _ _ => rfl))))
(pss_cons (ps_setLc (i := 8) (own := [("value", 16)]) (g := gName 16) (by rfl) sc_law_stays_true.nd rfl rfl (sw_true rfl rfl rfl (by decide +kernel)) (pi_seqA (pv 6)) (blkOk_by (N := n_law_stays_true) (sc := defScope s_law_stays_true) (by decide +kernel)) (fun _ _ _ _ _ => (pg_name (i := 16) sc_law_stays_true.nd rfl (Or.inl rfl))) (fun _ _ _ _ _ => pts_nil) (fun _ _ _ _ _ => (pe_ix (show IxR _ (rIx K) from ix_seq) (pv 16) pe_int (fun _ _ => rfl))))
(pss_cons (ps_set (i := 2) sc_law_stays_true.nd rfl (.inl rfl) (pe_call G_law_source hr_law_source (by rfl) T.g_law_source T.F_law_source.kp T.b_law_source .nil pass0 (pa_cons (pv 0) (pa_cons (pe_op op_addA (pv 1) pe_int) pa_nil))))
(pss_cons (ps_set (i := 9) sc_law_stays_true.nd rfl (.inl rfl) (pe_lst (pa_cons (pe_call G_law_draw hr_law_draw (by rfl) T.g_law_draw T.F_law_draw.kp T.b_law_draw .nil pass0 (pa_cons (pv 2) (pa_cons pe_int pa_nil))) (pa_cons (pe_call G_law_draw hr_law_draw (by rfl) T.g_law_draw T.F_law_draw.kp T.b_law_draw .nil pass0 (pa_cons (pv 2) (pa_cons pe_int pa_nil))) pa_nil))))
(pss_cons (ps_set (i := 10) sc_law_stays_true.nd rfl (.inl rfl) pe_str)
(pss_cons (ps_if (PW.pt (pw_and (pt_cmpR (op_eqA hr.units) (pe_ix ix_seq (pv 9) pe_int (fun _ _ => rfl)) (pe_ix ix_seq (pv 9) pe_int (fun _ _ => rfl)) (nomark _)) (pw_and1 (pt_cmpR op_gt (pe_call G_law_draw hr_law_draw (by rfl) T.g_law_draw T.F_law_draw.kp T.b_law_draw .nil pass0 (pa_cons (pv 2) (pa_cons pe_int pa_nil))) pe_int (nomark _)))))
(pss_one (ps_set (i := 10) sc_law_stays_true.nd rfl (.inl rfl) pe_str))
pss_nil)
(pss_cons (ps_set (i := 11) sc_law_stays_true.nd rfl (.inl rfl) (pe_op op_addA (pe_callTy call_tuple_of (by rfl) T.z_tuple (by decide +kernel) (pa_cons (pe_lc (own := [("value", 16)]) (g := gName 16) rfl sc_law_stays_true.nd (pi_seqA (pv 6)) (blkOk_by (N := n_law_stays_true) (sc := defScope s_law_stays_true) (by decide +kernel)) (fun _ _ _ _ _ => (pg_name (i := 16) sc_law_stays_true.nd rfl (Or.inl rfl))) (fun _ _ _ _ _ => pts_nil) (fun _ _ _ _ _ => (pe_ix (show IxR _ (rIx K) from ix_seq) (pv 16) pe_int (fun _ _ => rfl)))) pa_nil)) (pe_tup (pa_cons (pv 10) pa_nil))))
(pss_cons (ps_for PassesOwn.never rfl (pi_range1 rfl T.z_range (pa_cons pe_int pa_nil)) (pg_name (i := 12) sc_law_stays_true.nd rfl (.inl rfl))
(pss_cons (ps_set (i := 13) sc_law_stays_true.nd rfl (.inl rfl) (pe_call G_law_instruction hr_law_instruction (by rfl) T.g_law_instruction T.F_law_instruction.kp T.b_law_instruction .nil pass0 (pa_cons (pv 2) (pa_cons (pv 3) pa_nil))))
(pss_cons (ps_if (PW.pt (pw_and (pt_cmpR (op_inA (IT.hu65 hr)) (pe_ix ix_seq (pv 13) pe_int (fun _ _ => rfl)) (pe_tup (pa_cons pe_str (pa_cons pe_str pa_nil))) (by rfl)) (pw_and1 (pt_cmpR (op_eqA hr.units) (pe_ix ix_seq (pe_ix ix_seq (pv 11) (pe_ix ix_seq (pv 13) pe_int (fun _ _ => rfl)) (fun _ _ => rfl)) pe_int (fun _ _ => rfl)) pe_str (nomark _)))))
(pss_one ps_continue)
pss_nil)
(pss_cons (ps_set (i := 14) sc_law_stays_true.nd rfl (.inl rfl) (pe_call G_law_done hr_law_done (by rfl) T.g_law_done T.F_law_done.kp T.b_law_done .nil pass0 (pa_cons (pv 3) (pa_cons (pv 13) (pa_cons (pv 7) (pa_cons (pe_ix ix_seq (pv 4) pe_int (fun _ _ => rfl)) (pa_cons (pe_ix ix_seq (pv 9) pe_int (fun _ _ => rfl)) pa_nil)))))))
(pss_cons (ps_set (i := 15) sc_law_stays_true.nd rfl (.inl rfl) (pe_call G_law_done hr_law_done (by rfl) T.g_law_done T.F_law_done.kp T.b_law_done .nil pass0 (pa_cons (pv 3) (pa_cons (pv 13) (pa_cons (pv 8) (pa_cons (pe_ix ix_seq (pv 4) pe_int (fun _ _ => rfl)) (pa_cons (pe_ix ix_seq (pv 9) pe_int (fun _ _ => rfl)) pa_nil)))))))
(pss_cons (ps_if (PW.pt (pw_or (pt_cmpR op_lt (pv 14) pe_int (nomark _)) (pw_or1 (pt_cmpR op_lt (pv 15) pe_int (nomark _)))))
(pss_one (ps_ret pe_bl))
pss_nil)
(pss_cons (ps_set (i := 9) sc_law_stays_true.nd rfl (.inl rfl) (pe_lst (pa_cons (pv 14) (pa_cons (pv 15) pa_nil))))
(pss_cons (ps_set (i := 11) sc_law_stays_true.nd rfl (.inl rfl) (pe_call G_next_state hr_next_state (by rfl) T.g_next_state T.F_next_state.kp T.b_next_state .nil pass0 (pa_cons (pv 3) (pa_cons (pv 11) (pa_cons (pv 13) pa_nil)))))
(pss_cons (ps_if (PW.pt (pw_or (pt_not (pt_truth (pe_callB call_isi (by rfl) T.z_isinstance (by decide +kernel) (pa_cons (pv 11) (pa_cons (pe_bltn (v := .ty "tuple") (u := .type "tuple") (by rfl) T.z_tuple (by decide +kernel) rfl) pa_nil))) (by intro _; rfl))) (pw_or1 (pt_cmpR (op_neA hr.units) (pe_callB call_len (by rfl) T.z_len (by decide +kernel) (pa_cons (pv 11) pa_nil)) pe_int (nomark _)))))
(pss_one (ps_ret pe_bl))
pss_nil)
(pss_cons (ps_for PassesOwn.never rfl (pi_range1 rfl T.z_range (pa_cons pe_int pa_nil)) (pg_name (i := 5) sc_law_stays_true.nd rfl (.inl rfl))
(pss_cons (ps_if (PW.pt (pw_or (pt_not (pt_truth (pe_call G_law_true hr_law_true (by rfl) T.g_law_true T.F_law_true.kp T.b_law_true .nil pass0 (pa_cons (pe_ix ix_seq (pv 11) (pv 5) (fun _ _ => rfl)) (pa_cons (pe_ix ix_seq (pv 7) (pv 5) (fun _ _ => rfl)) (pa_cons (pe_ix ix_seq (pv 4) pe_int (fun _ _ => rfl)) pa_nil)))) (by intro _; rfl))) (pw_or1 (pt_not (pt_truth (pe_call G_law_true hr_law_true (by rfl) T.g_law_true T.F_law_true.kp T.b_law_true .nil pass0 (pa_cons (pe_ix ix_seq (pv 11) (pv 5) (fun _ _ => rfl)) (pa_cons (pe_ix ix_seq (pv 8) (pv 5) (fun _ _ => rfl)) (pa_cons (pe_ix ix_seq (pv 4) pe_int (fun _ _ => rfl)) pa_nil)))) (by intro _; rfl))))))
(pss_one (ps_ret pe_bl))
pss_nil)
(pss_one (ps_if (PW.pt (pw_and (pt_cmpR (op_neA hr.units) (pe_ix ix_seq (pe_ix ix_seq (pv 11) (pv 5) (fun _ _ => rfl)) pe_int (fun _ _ => rfl)) pe_str (nomark _)) (pw_and1 (pt_cmpR (op_neA hr.units) (pe_ix ix_seq (pv 7) (pv 5) (fun _ _ => rfl)) (pe_ix ix_seq (pv 8) (pv 5) (fun _ _ => rfl)) (nomark _)))))
(pss_one (ps_ret pe_bl))
pss_nil))))
(pss_cons (ps_if (PW.pt (pw_and (pt_cmpR (op_neA hr.units) (pe_ix ix_seq (pv 11) pe_int (fun _ _ => rfl)) pe_str (nomark _)) (pw_and1 (pt_cmpR (op_neA hr.units) (pv 14) (pv 15) (nomark _)))))
(pss_one (ps_ret pe_bl))
pss_nil)
(pss_one (ps_if (pt_cmpR (op_eqA hr.units) (pe_ix ix_seq (pv 13) pe_int (fun _ _ => rfl)) pe_str (nomark _))
(pss_one (ps_ret pe_bl))
pss_nil)))))))))))))
(pss_one (ps_ret pe_bl)))))))))))))), fn_body (N := n_law_stays_true) (C := cx T) (b := b_law_stays_true)
    (ss_seq (ss_asg (se_call (m := 2) (sa_cons (se_var 0) (sa_cons (se_var 1) sa_nil))) sg_name)
(ss_seq (ss_asg (se_call (m := 1) (sa_cons (se_var 2) sa_nil)) sg_name)
(ss_seq (ss_asg (se_call (m := 2) (sa_cons (se_var 2) (sa_cons (se_var 3) sa_nil))) sg_name)
(ss_seq (ss_asg (se_lc (si_rng1 (sa_cons se_int sa_nil)) sg_name (kw_name (by decide)) st_yes (se_call (m := 2) (sa_cons (se_call (m := 2) (sa_cons (se_var 0) (sa_cons (se_op s2_addA (se_op s2_addA (se_var 1) se_int) (se_var 5)) sa_nil))) (sa_cons (se_var 4) sa_nil)))) sg_name)
(ss_seq (ss_asg (se_lc (si_seqA (se_var 6)) sg_name (kw_name (by decide)) st_yes (se_op s2_ix (se_var 16) se_int)) sg_name)
(ss_seq (ss_asg (se_lc (si_seqA (se_var 6)) sg_name (kw_name (by decide)) st_yes (se_op s2_ix (se_var 16) se_int)) sg_name)
(ss_seq (ss_asg (se_call (m := 2) (sa_cons (se_var 0) (sa_cons (se_op s2_addA (se_var 1) se_int) sa_nil))) sg_name)
(ss_seq (ss_asg (se_lst (n := 2) (sa_cons (se_call (m := 2) (sa_cons (se_var 2) (sa_cons se_int sa_nil))) (sa_cons (se_call (m := 2) (sa_cons (se_var 2) (sa_cons se_int sa_nil))) sa_nil)) (by decide)) sg_name)
(ss_seq (ss_asg se_str sg_name)
(ss_seq (ss_if (st_and (st_test (se_op s2_eqA (se_op s2_ix (se_var 9) se_int) (se_op s2_ix (se_var 9) se_int))) (st_test (se_op s2_gt (se_call (m := 2) (sa_cons (se_var 2) (sa_cons se_int sa_nil))) se_int)))
(ss_asg se_str sg_name)
ss_next)
(ss_cut eqc_law_stays_true_2
(ss_seq (ss_asg (se_op s2_addA (se_cb sc_tuple (sa_cons (se_lc (si_seqA (se_var 6)) sg_name (kw_name (by decide)) st_yes (se_op s2_ix (se_var 16) se_int)) sa_nil)) (se_tup (n := 1) (sa_cons (se_var 10) sa_nil) (by decide))) sg_name)
(ss_seq (ss_for (si_rng1 (sa_cons se_int sa_nil)) sg_name
(ss_seq (ss_asg (se_call (m := 2) (sa_cons (se_var 2) (sa_cons (se_var 3) sa_nil))) sg_name)
(ss_seq (ss_if (st_and (st_test (se_op s2_inA (se_op s2_ix (se_var 13) se_int) (se_tup (n := 2) (sa_cons se_str (sa_cons se_str sa_nil)) (by decide)))) (st_test (se_op s2_eqA (se_op s2_ix (se_op s2_ix (se_var 11) (se_op s2_ix (se_var 13) se_int)) se_int) se_str)))
ss_cont
ss_next)
(ss_cut eqc_law_stays_true_1
(ss_seq (ss_asg (se_call (m := 5) (sa_cons (se_var 3) (sa_cons (se_var 13) (sa_cons (se_var 7) (sa_cons (se_op s2_ix (se_var 4) se_int) (sa_cons (se_op s2_ix (se_var 9) se_int) sa_nil)))))) sg_name)
(ss_seq (ss_asg (se_call (m := 5) (sa_cons (se_var 3) (sa_cons (se_var 13) (sa_cons (se_var 8) (sa_cons (se_op s2_ix (se_var 4) se_int) (sa_cons (se_op s2_ix (se_var 9) se_int) sa_nil)))))) sg_name)
(ss_seq (ss_if (st_or (st_test (se_op s2_lt (se_var 14) se_int)) (st_test (se_op s2_lt (se_var 15) se_int)))
(ss_ret se_bl)
ss_next)
(ss_seq (ss_asg (se_lst (n := 2) (sa_cons (se_var 14) (sa_cons (se_var 15) sa_nil)) (by decide)) sg_name)
(ss_seq (ss_asg (se_call (m := 3) (sa_cons (se_var 3) (sa_cons (se_var 11) (sa_cons (se_var 13) sa_nil)))) sg_name)
(ss_seq (ss_if (st_or (st_not (st_tru (se_cb sc_isi (sa_cons (se_var 11) (sa_cons se_con sa_nil))))) (st_test (se_op s2_neA (se_cb sc_len (sa_cons (se_var 11) sa_nil)) se_int)))
(ss_ret se_bl)
ss_next)
(ss_seq (ss_for (si_rng1 (sa_cons se_int sa_nil)) sg_name
(ss_seq (ss_if (st_or (st_not (st_tru (se_call (m := 3) (sa_cons (se_op s2_ix (se_var 11) (se_var 5)) (sa_cons (se_op s2_ix (se_var 7) (se_var 5)) (sa_cons (se_op s2_ix (se_var 4) se_int) sa_nil)))))) (st_not (st_tru (se_call (m := 3) (sa_cons (se_op s2_ix (se_var 11) (se_var 5)) (sa_cons (se_op s2_ix (se_var 8) (se_var 5)) (sa_cons (se_op s2_ix (se_var 4) se_int) sa_nil)))))))
(ss_ret se_bl)
ss_next)
(ss_if (st_and (st_test (se_op s2_neA (se_op s2_ix (se_op s2_ix (se_var 11) (se_var 5)) se_int) se_str)) (st_test (se_op s2_neA (se_op s2_ix (se_var 7) (se_var 5)) (se_op s2_ix (se_var 8) (se_var 5)))))
(ss_ret se_bl)
ss_next)))
(ss_seq (ss_if (st_and (st_test (se_op s2_neA (se_op s2_ix (se_var 11) se_int) se_str)) (st_test (se_op s2_neA (se_var 14) (se_var 15))))
(ss_ret se_bl)
ss_next)
(ss_if (st_test (se_op s2_eqA (se_op s2_ix (se_var 13) se_int) se_str))
(ss_ret se_bl)
ss_next)))))))))))))
(ss_ret se_bl)))))))))))))) h rfl⟩
def spLaw (K : PySem.W.Frag) : Sp := fun vs H Q _ => ∃ (a : Addr) (ns : List Int), vs = [.ref a] ∧ SqL K H a (ns.map V.int) ∧ ns.length ≤ 63 ∧ ∀ H', Q (.bl true) H'
theorem ok_law' (T : Tx K mg) {f : Addr} {fd : FuncData} (F : Fun K "law" "law" s_law f fd) : FnOk P w K mg base CX0 8 f fd ["script"] (spLaw K) := by
  have G_law_stays_true := ok_law_stays_true (P := P) (w := w) (base := base) T
  refine F.ok sc_law (fun vs H Q E h => ?_) (fun cdv A outer s H vs Q E hr h => ?_)
  · obtain ⟨a, ns, rfl, _, _, _⟩ := h
    rfl
  obtain ⟨a, ns, rfl, hS, hlen, q⟩ := h
  have hr_law_stays_true : Room 7 _ := hr.mono (by decide)
  obtain ⟨H0, w0, hh, rr⟩ := holds_start (C := cx T) (fun p hp => absurd hp (by simp)) hS
  have h : spOf (cx T) 1 wp_law [.ref a] H Q E := ⟨H0, w0, [], _, _, hh, .cons rr .nil, rfl, law_true ns hlen, fun w' S' H' v d s1 h1 r1 x1 => by cases x1; rw [r1.bl_at]; exact q H'⟩
  rw [eq_law] at h
  exact ⟨_, (pss_cons (ps_for PassesOwn.never rfl (pi_range1 rfl T.z_range (pa_cons pe_int pa_nil)) (pg_name (i := 1) sc_law.nd rfl (.inl rfl))
(pss_one (ps_if (pt_not (pt_truth (pe_call G_law_stays_true hr_law_stays_true (by rfl) T.g_law_stays_true T.F_law_stays_true.kp T.b_law_stays_true .nil pass0 (pa_cons (pv 0) (pa_cons (pe_op op_mulA pe_int (pv 1)) pa_nil))) (by intro _; rfl)))
(pss_one (ps_ret pe_bl))
pss_nil)))
(pss_one (ps_ret pe_bl))), fn_body (N := n_law) (C := cx T) (b := b_law)
    (ss_seq (ss_for (si_rng1 (sa_cons se_int sa_nil)) sg_name
(ss_if (st_not (st_tru (se_call (m := 2) (sa_cons (se_var 0) (sa_cons (se_op s2_mulAA se_int (se_var 1)) sa_nil)))))
(ss_ret se_bl)
ss_next))
(ss_ret se_bl)) h rfl⟩
end
theorem all_mk {l : PySem.W.OpenLaw} {w : World} {K : PySem.W.Frag} {h : Heap} {mg : Str → Option Value} {fa : Addr} (X : K.In h) (G : h.Ns mainGlobals mg) (hfa : mg "law" = some (.ref fa))
    {f1 : Addr} {od1 an1 : Option Addr} {sl1 : Array (Option Value)} {oc1 kV1 dc1 pm1 cd1 ct1 : Value}
    {f2 : Addr} {od2 an2 : Option Addr} {sl2 : Array (Option Value)} {oc2 kV2 dc2 pm2 cd2 ct2 : Value}
    {f3 : Addr} {od3 an3 : Option Addr} {sl3 : Array (Option Value)} {oc3 kV3 dc3 pm3 cd3 ct3 : Value}
    {f4 : Addr} {od4 an4 : Option Addr} {sl4 : Array (Option Value)} {oc4 kV4 dc4 pm4 cd4 ct4 : Value}
    {f5 : Addr} {od5 an5 : Option Addr} {sl5 : Array (Option Value)} {oc5 kV5 dc5 pm5 cd5 ct5 : Value}
    {f6 : Addr} {od6 an6 : Option Addr} {sl6 : Array (Option Value)} {oc6 kV6 dc6 pm6 cd6 ct6 : Value}
    {f7 : Addr} {od7 an7 : Option Addr} {sl7 : Array (Option Value)} {oc7 kV7 dc7 pm7 cd7 ct7 : Value}
    {f8 : Addr} {od8 an8 : Option Addr} {sl8 : Array (Option Value)} {oc8 kV8 dc8 pm8 cd8 ct8 : Value}
    {f9 : Addr} {od9 an9 : Option Addr} {sl9 : Array (Option Value)} {oc9 kV9 dc9 pm9 cd9 ct9 : Value}
    {f10 : Addr} {od10 an10 : Option Addr} {sl10 : Array (Option Value)} {oc10 kV10 dc10 pm10 cd10 ct10 : Value}
    {f11 : Addr} {od11 an11 : Option Addr} {sl11 : Array (Option Value)} {oc11 kV11 dc11 pm11 cd11 ct11 : Value}
    {f12 : Addr} {od12 an12 : Option Addr} {sl12 : Array (Option Value)} {oc12 kV12 dc12 pm12 cd12 ct12 : Value}
    {f13 : Addr} {od13 an13 : Option Addr} {sl13 : Array (Option Value)} {oc13 kV13 dc13 pm13 cd13 ct13 : Value}
    {f14 : Addr} {od14 an14 : Option Addr} {sl14 : Array (Option Value)} {oc14 kV14 dc14 pm14 cd14 ct14 : Value}
    {f15 : Addr} {od15 an15 : Option Addr} {sl15 : Array (Option Value)} {oc15 kV15 dc15 pm15 cd15 ct15 : Value}
    {f16 : Addr} {od16 an16 : Option Addr} {sl16 : Array (Option Value)} {oc16 kV16 dc16 pm16 cd16 ct16 : Value}
    {f17 : Addr} {od17 an17 : Option Addr} {sl17 : Array (Option Value)} {oc17 kV17 dc17 pm17 cd17 ct17 : Value}
    {f18 : Addr} {od18 an18 : Option Addr} {sl18 : Array (Option Value)} {oc18 kV18 dc18 pm18 cd18 ct18 : Value}
    {f19 : Addr} {od19 an19 : Option Addr} {sl19 : Array (Option Value)} {oc19 kV19 dc19 pm19 cd19 ct19 : Value}
    {f20 : Addr} {od20 an20 : Option Addr} {sl20 : Array (Option Value)} {oc20 kV20 dc20 pm20 cd20 ct20 : Value}
    {f21 : Addr} {od21 an21 : Option Addr} {sl21 : Array (Option Value)} {oc21 kV21 dc21 pm21 cd21 ct21 : Value}
    {f22 : Addr} {od22 an22 : Option Addr} {sl22 : Array (Option Value)} {oc22 kV22 dc22 pm22 cd22 ct22 : Value}
    {f23 : Addr} {od23 an23 : Option Addr} {sl23 : Array (Option Value)} {oc23 kV23 dc23 pm23 cd23 ct23 : Value}
    {f24 : Addr} {od24 an24 : Option Addr} {sl24 : Array (Option Value)} {oc24 kV24 dc24 pm24 cd24 ct24 : Value}
    {f25 : Addr} {od25 an25 : Option Addr} {sl25 : Array (Option Value)} {oc25 kV25 dc25 pm25 cd25 ct25 : Value}
    {f26 : Addr} {od26 an26 : Option Addr} {sl26 : Array (Option Value)} {oc26 kV26 dc26 pm26 cd26 ct26 : Value}
    {f27 : Addr} {od27 an27 : Option Addr} {sl27 : Array (Option Value)} {oc27 kV27 dc27 pm27 cd27 ct27 : Value}
    {f28 : Addr} {od28 an28 : Option Addr} {sl28 : Array (Option Value)} {oc28 kV28 dc28 pm28 cd28 ct28 : Value}
    {f29 : Addr} {od29 an29 : Option Addr} {sl29 : Array (Option Value)} {oc29 kV29 dc29 pm29 cd29 ct29 : Value}
    {f30 : Addr} {od30 an30 : Option Addr} {sl30 : Array (Option Value)} {oc30 kV30 dc30 pm30 cd30 ct30 : Value}
    {c_GIVES_NOTHING : Addr}
    {t_GREATEST_WORD : Tok}
    {t_REGISTERS : Tok}
    {t_CARRY : Tok}
    {c_NO_CELL : Addr}
    {t_WORD : Tok}
    {c_CARRYING : Addr}
    {c_CHAINED : Addr}
    {c_SHIFTS : Addr}
    (a1 : PySem.W.nsIn K mainGlobals "joined_flow" = some (some (.ref f1))) (l1 : K.lookup f1 = some ⟨oc1, od1, .func (PySem.W.fnOf "joined_flow" "joined_flow" (defArgs s_joined_flow) (defBody s_joined_flow) (defScope s_joined_flow) .none kV1 dc1 pm1 an1 cd1 ct1), sl1⟩) (c1 : PySem.W.codeIn K cd1 "joined_flow" = true) (k1 : PySem.W.keepIn K (.ref f1) = true)
    (a2 : PySem.W.nsIn K mainGlobals "mask" = some (some (.ref f2))) (l2 : K.lookup f2 = some ⟨oc2, od2, .func (PySem.W.fnOf "mask" "mask" (defArgs s_mask) (defBody s_mask) (defScope s_mask) .none kV2 dc2 pm2 an2 cd2 ct2), sl2⟩) (c2 : PySem.W.codeIn K cd2 "mask" = true) (k2 : PySem.W.keepIn K (.ref f2) = true)
    (a3 : PySem.W.nsIn K mainGlobals "given_register" = some (some (.ref f3))) (l3 : K.lookup f3 = some ⟨oc3, od3, .func (PySem.W.fnOf "given_register" "given_register" (defArgs s_given_register) (defBody s_given_register) (defScope s_given_register) .none kV3 dc3 pm3 an3 cd3 ct3), sl3⟩) (c3 : PySem.W.codeIn K cd3 "given_register" = true) (k3 : PySem.W.keepIn K (.ref f3) = true)
    (a4 : PySem.W.nsIn K mainGlobals "region_end" = some (some (.ref f4))) (l4 : K.lookup f4 = some ⟨oc4, od4, .func (PySem.W.fnOf "region_end" "region_end" (defArgs s_region_end) (defBody s_region_end) (defScope s_region_end) .none kV4 dc4 pm4 an4 cd4 ct4), sl4⟩) (c4 : PySem.W.codeIn K cd4 "region_end" = true) (k4 : PySem.W.keepIn K (.ref f4) = true)
    (a5 : PySem.W.nsIn K mainGlobals "region_at" = some (some (.ref f5))) (l5 : K.lookup f5 = some ⟨oc5, od5, .func (PySem.W.fnOf "region_at" "region_at" (defArgs s_region_at) (defBody s_region_at) (defScope s_region_at) .none kV5 dc5 pm5 an5 cd5 ct5), sl5⟩) (c5 : PySem.W.codeIn K cd5 "region_at" = true) (k5 : PySem.W.keepIn K (.ref f5) = true)
    (a6 : PySem.W.nsIn K mainGlobals "addresses" = some (some (.ref f6))) (l6 : K.lookup f6 = some ⟨oc6, od6, .func (PySem.W.fnOf "addresses" "addresses" (defArgs s_addresses) (defBody s_addresses) (defScope s_addresses) .none kV6 dc6 pm6 an6 cd6 ct6), sl6⟩) (c6 : PySem.W.codeIn K cd6 "addresses" = true) (k6 : PySem.W.keepIn K (.ref f6) = true)
    (a7 : PySem.W.nsIn K mainGlobals "safe_region" = some (some (.ref f7))) (l7 : K.lookup f7 = some ⟨oc7, od7, .func (PySem.W.fnOf "safe_region" "safe_region" (defArgs s_safe_region) (defBody s_safe_region) (defScope s_safe_region) .none kV7 dc7 pm7 an7 cd7 ct7), sl7⟩) (c7 : PySem.W.codeIn K cd7 "safe_region" = true) (k7 : PySem.W.keepIn K (.ref f7) = true)
    (a8 : PySem.W.nsIn K mainGlobals "next_state" = some (some (.ref f8))) (l8 : K.lookup f8 = some ⟨oc8, od8, .func (PySem.W.fnOf "next_state" "next_state" (defArgs s_next_state) (defBody s_next_state) (defScope s_next_state) .none kV8 dc8 pm8 an8 cd8 ct8), sl8⟩) (c8 : PySem.W.codeIn K cd8 "next_state" = true) (k8 : PySem.W.keepIn K (.ref f8) = true)
    (a9 : PySem.W.nsIn K mainGlobals "without_cell" = some (some (.ref f9))) (l9 : K.lookup f9 = some ⟨oc9, od9, .func (PySem.W.fnOf "without_cell" "without_cell" (defArgs s_without_cell) (defBody s_without_cell) (defScope s_without_cell) .none kV9 dc9 pm9 an9 cd9 ct9), sl9⟩) (c9 : PySem.W.codeIn K cd9 "without_cell" = true) (k9 : PySem.W.keepIn K (.ref f9) = true)
    (a10 : PySem.W.nsIn K mainGlobals "result_fact" = some (some (.ref f10))) (l10 : K.lookup f10 = some ⟨oc10, od10, .func (PySem.W.fnOf "result_fact" "result_fact" (defArgs s_result_fact) (defBody s_result_fact) (defScope s_result_fact) .none kV10 dc10 pm10 an10 cd10 ct10), sl10⟩) (c10 : PySem.W.codeIn K cd10 "result_fact" = true) (k10 : PySem.W.keepIn K (.ref f10) = true)
    (a11 : PySem.W.nsIn K mainGlobals "loaded_fact" = some (some (.ref f11))) (l11 : K.lookup f11 = some ⟨oc11, od11, .func (PySem.W.fnOf "loaded_fact" "loaded_fact" (defArgs s_loaded_fact) (defBody s_loaded_fact) (defScope s_loaded_fact) .none kV11 dc11 pm11 an11 cd11 ct11), sl11⟩) (c11 : PySem.W.codeIn K cd11 "loaded_fact" = true) (k11 : PySem.W.keepIn K (.ref f11) = true)
    (a12 : PySem.W.nsIn K mainGlobals "cell_of_sum" = some (some (.ref f12))) (l12 : K.lookup f12 = some ⟨oc12, od12, .func (PySem.W.fnOf "cell_of_sum" "cell_of_sum" (defArgs s_cell_of_sum) (defBody s_cell_of_sum) (defScope s_cell_of_sum) .none kV12 dc12 pm12 an12 cd12 ct12), sl12⟩) (c12 : PySem.W.codeIn K cd12 "cell_of_sum" = true) (k12 : PySem.W.keepIn K (.ref f12) = true)
    (a13 : PySem.W.nsIn K mainGlobals "as_words" = some (some (.ref f13))) (l13 : K.lookup f13 = some ⟨oc13, od13, .func (PySem.W.fnOf "as_words" "as_words" (defArgs s_as_words) (defBody s_as_words) (defScope s_as_words) .none kV13 dc13 pm13 an13 cd13 ct13), sl13⟩) (c13 : PySem.W.codeIn K cd13 "as_words" = true) (k13 : PySem.W.keepIn K (.ref f13) = true)
    (a14 : PySem.W.nsIn K mainGlobals "shifted" = some (some (.ref f14))) (l14 : K.lookup f14 = some ⟨oc14, od14, .func (PySem.W.fnOf "shifted" "shifted" (defArgs s_shifted) (defBody s_shifted) (defScope s_shifted) .none kV14 dc14 pm14 an14 cd14 ct14), sl14⟩) (c14 : PySem.W.codeIn K cd14 "shifted" = true) (k14 : PySem.W.keepIn K (.ref f14) = true)
    (a15 : PySem.W.nsIn K mainGlobals "operated" = some (some (.ref f15))) (l15 : K.lookup f15 = some ⟨oc15, od15, .func (PySem.W.fnOf "operated" "operated" (defArgs s_operated) (defBody s_operated) (defScope s_operated) .none kV15 dc15 pm15 an15 cd15 ct15), sl15⟩) (c15 : PySem.W.codeIn K cd15 "operated" = true) (k15 : PySem.W.keepIn K (.ref f15) = true)
    (a16 : PySem.W.nsIn K mainGlobals "top_of_bits" = some (some (.ref f16))) (l16 : K.lookup f16 = some ⟨oc16, od16, .func (PySem.W.fnOf "top_of_bits" "top_of_bits" (defArgs s_top_of_bits) (defBody s_top_of_bits) (defScope s_top_of_bits) .none kV16 dc16 pm16 an16 cd16 ct16), sl16⟩) (c16 : PySem.W.codeIn K cd16 "top_of_bits" = true) (k16 : PySem.W.keepIn K (.ref f16) = true)
    (a17 : PySem.W.nsIn K mainGlobals "_law_source" = some (some (.ref f17))) (l17 : K.lookup f17 = some ⟨oc17, od17, .func (PySem.W.fnOf "_law_source" "_law_source" (defArgs s_law_source) (defBody s_law_source) (defScope s_law_source) .none kV17 dc17 pm17 an17 cd17 ct17), sl17⟩) (c17 : PySem.W.codeIn K cd17 "_law_source" = true) (k17 : PySem.W.keepIn K (.ref f17) = true)
    (a18 : PySem.W.nsIn K mainGlobals "_law_draw" = some (some (.ref f18))) (l18 : K.lookup f18 = some ⟨oc18, od18, .func (PySem.W.fnOf "_law_draw" "_law_draw" (defArgs s_law_draw) (defBody s_law_draw) (defScope s_law_draw) .none kV18 dc18 pm18 an18 cd18 ct18), sl18⟩) (c18 : PySem.W.codeIn K cd18 "_law_draw" = true) (k18 : PySem.W.keepIn K (.ref f18) = true)
    (a19 : PySem.W.nsIn K mainGlobals "_law_word" = some (some (.ref f19))) (l19 : K.lookup f19 = some ⟨oc19, od19, .func (PySem.W.fnOf "_law_word" "_law_word" (defArgs s_law_word) (defBody s_law_word) (defScope s_law_word) .none kV19 dc19 pm19 an19 cd19 ct19), sl19⟩) (c19 : PySem.W.codeIn K cd19 "_law_word" = true) (k19 : PySem.W.keepIn K (.ref f19) = true)
    (a20 : PySem.W.nsIn K mainGlobals "_law_layout" = some (some (.ref f20))) (l20 : K.lookup f20 = some ⟨oc20, od20, .func (PySem.W.fnOf "_law_layout" "_law_layout" (defArgs s_law_layout) (defBody s_law_layout) (defScope s_law_layout) .none kV20 dc20 pm20 an20 cd20 ct20), sl20⟩) (c20 : PySem.W.codeIn K cd20 "_law_layout" = true) (k20 : PySem.W.keepIn K (.ref f20) = true)
    (a21 : PySem.W.nsIn K mainGlobals "_law_flow_at" = some (some (.ref f21))) (l21 : K.lookup f21 = some ⟨oc21, od21, .func (PySem.W.fnOf "_law_flow_at" "_law_flow_at" (defArgs s_law_flow_at) (defBody s_law_flow_at) (defScope s_law_flow_at) .none kV21 dc21 pm21 an21 cd21 ct21), sl21⟩) (c21 : PySem.W.codeIn K cd21 "_law_flow_at" = true) (k21 : PySem.W.keepIn K (.ref f21) = true)
    (a22 : PySem.W.nsIn K mainGlobals "_law_most_at" = some (some (.ref f22))) (l22 : K.lookup f22 = some ⟨oc22, od22, .func (PySem.W.fnOf "_law_most_at" "_law_most_at" (defArgs s_law_most_at) (defBody s_law_most_at) (defScope s_law_most_at) .none kV22 dc22 pm22 an22 cd22 ct22), sl22⟩) (c22 : PySem.W.codeIn K cd22 "_law_most_at" = true) (k22 : PySem.W.keepIn K (.ref f22) = true)
    (a23 : PySem.W.nsIn K mainGlobals "_law_memories" = some (some (.ref f23))) (l23 : K.lookup f23 = some ⟨oc23, od23, .func (PySem.W.fnOf "_law_memories" "_law_memories" (defArgs s_law_memories) (defBody s_law_memories) (defScope s_law_memories) .none kV23 dc23 pm23 an23 cd23 ct23), sl23⟩) (c23 : PySem.W.codeIn K cd23 "_law_memories" = true) (k23 : PySem.W.keepIn K (.ref f23) = true)
    (a24 : PySem.W.nsIn K mainGlobals "_law_value" = some (some (.ref f24))) (l24 : K.lookup f24 = some ⟨oc24, od24, .func (PySem.W.fnOf "_law_value" "_law_value" (defArgs s_law_value) (defBody s_law_value) (defScope s_law_value) .none kV24 dc24 pm24 an24 cd24 ct24), sl24⟩) (c24 : PySem.W.codeIn K cd24 "_law_value" = true) (k24 : PySem.W.keepIn K (.ref f24) = true)
    (a25 : PySem.W.nsIn K mainGlobals "_law_instruction" = some (some (.ref f25))) (l25 : K.lookup f25 = some ⟨oc25, od25, .func (PySem.W.fnOf "_law_instruction" "_law_instruction" (defArgs s_law_instruction) (defBody s_law_instruction) (defScope s_law_instruction) .none kV25 dc25 pm25 an25 cd25 ct25), sl25⟩) (c25 : PySem.W.codeIn K cd25 "_law_instruction" = true) (k25 : PySem.W.keepIn K (.ref f25) = true)
    (a26 : PySem.W.nsIn K mainGlobals "_law_compute" = some (some (.ref f26))) (l26 : K.lookup f26 = some ⟨oc26, od26, .func (PySem.W.fnOf "_law_compute" "_law_compute" (defArgs s_law_compute) (defBody s_law_compute) (defScope s_law_compute) .none kV26 dc26 pm26 an26 cd26 ct26), sl26⟩) (c26 : PySem.W.codeIn K cd26 "_law_compute" = true) (k26 : PySem.W.keepIn K (.ref f26) = true)
    (a27 : PySem.W.nsIn K mainGlobals "_law_done" = some (some (.ref f27))) (l27 : K.lookup f27 = some ⟨oc27, od27, .func (PySem.W.fnOf "_law_done" "_law_done" (defArgs s_law_done) (defBody s_law_done) (defScope s_law_done) .none kV27 dc27 pm27 an27 cd27 ct27), sl27⟩) (c27 : PySem.W.codeIn K cd27 "_law_done" = true) (k27 : PySem.W.keepIn K (.ref f27) = true)
    (a28 : PySem.W.nsIn K mainGlobals "_law_true" = some (some (.ref f28))) (l28 : K.lookup f28 = some ⟨oc28, od28, .func (PySem.W.fnOf "_law_true" "_law_true" (defArgs s_law_true) (defBody s_law_true) (defScope s_law_true) .none kV28 dc28 pm28 an28 cd28 ct28), sl28⟩) (c28 : PySem.W.codeIn K cd28 "_law_true" = true) (k28 : PySem.W.keepIn K (.ref f28) = true)
    (a29 : PySem.W.nsIn K mainGlobals "_law_stays_true" = some (some (.ref f29))) (l29 : K.lookup f29 = some ⟨oc29, od29, .func (PySem.W.fnOf "_law_stays_true" "_law_stays_true" (defArgs s_law_stays_true) (defBody s_law_stays_true) (defScope s_law_stays_true) .none kV29 dc29 pm29 an29 cd29 ct29), sl29⟩) (c29 : PySem.W.codeIn K cd29 "_law_stays_true" = true) (k29 : PySem.W.keepIn K (.ref f29) = true)
    (a30 : PySem.W.nsIn K mainGlobals "law" = some (some (.ref f30))) (l30 : K.lookup f30 = some ⟨oc30, od30, .func (PySem.W.fnOf "law" "law" (defArgs s_law) (defBody s_law) (defScope s_law) .none kV30 dc30 pm30 an30 cd30 ct30), sl30⟩) (c30 : PySem.W.codeIn K cd30 "law" = true) (k30 : PySem.W.keepIn K (.ref f30) = true)
    (g_GIVES_NOTHING : PySem.W.nsIn K mainGlobals "GIVES_NOTHING" = some (some (.ref c_GIVES_NOTHING)))
    (g_GREATEST_WORD : PySem.W.nsIn K mainGlobals "GREATEST_WORD" = some (some (.int (65535) t_GREATEST_WORD)))
    (g_REGISTERS : PySem.W.nsIn K mainGlobals "REGISTERS" = some (some (.int (16) t_REGISTERS)))
    (g_CARRY : PySem.W.nsIn K mainGlobals "CARRY" = some (some (.int (16) t_CARRY)))
    (g_NO_CELL : PySem.W.nsIn K mainGlobals "NO_CELL" = some (some (.ref c_NO_CELL)))
    (g_WORD : PySem.W.nsIn K mainGlobals "WORD" = some (some (.int (65536) t_WORD)))
    (g_CARRYING : PySem.W.nsIn K mainGlobals "CARRYING" = some (some (.ref c_CARRYING)))
    (g_CHAINED : PySem.W.nsIn K mainGlobals "CHAINED" = some (some (.ref c_CHAINED)))
    (g_SHIFTS : PySem.W.nsIn K mainGlobals "SHIFTS" = some (some (.ref c_SHIFTS)))
    (z_abs : PySem.W.nsIn K mainGlobals "abs" = some none)
    (z_int : PySem.W.nsIn K mainGlobals "int" = some none)
    (z_isinstance : PySem.W.nsIn K mainGlobals "isinstance" = some none)
    (z_len : PySem.W.nsIn K mainGlobals "len" = some none)
    (z_max : PySem.W.nsIn K mainGlobals "max" = some none)
    (z_min : PySem.W.nsIn K mainGlobals "min" = some none)
    (z_range : PySem.W.nsIn K mainGlobals "range" = some none)
    (z_tuple : PySem.W.nsIn K mainGlobals "tuple" = some none)
    (kitd_GIVES_NOTHING : repB K 6 (.ref c_GIVES_NOTHING) d_GIVES_NOTHING = true)
    (kitd_NO_CELL : repB K 6 (.ref c_NO_CELL) d_NO_CELL = true)
    (kitd_CARRYING : repB K 6 (.ref c_CARRYING) d_CARRYING = true)
    (kitd_CHAINED : repB K 6 (.ref c_CHAINED) d_CHAINED = true)
    (kitd_SHIFTS : repB K 6 (.ref c_SHIFTS) d_SHIFTS = true)
    : ∃ fd : FuncData, (∀ (s : Shared) (v : Value), BindsTo s fd ⟨[v], []⟩ [("script", v)]) ∧ ∀ base : Heap, K.In base → base.Ns mainGlobals mg → FnOk l.prog w K mg base CX0 8 fa fd ["script"] (spLaw K) := by
  have e := hfa.symm.trans (PySem.W.mg_of X G a30)
  cases e
  have F1 := fun_mk (st := s_joined_flow) l1 c1 k1
  have b1 := F1.binds (ps := ["flows"]) fun _ _ _ _ _ _ us hl => match us, hl with | [_], _ => rfl
  have F2 := fun_mk (st := s_mask) l2 c2 k2
  have b2 := F2.binds (ps := ["count"]) fun _ _ _ _ _ _ us hl => match us, hl with | [_], _ => rfl
  have F3 := fun_mk (st := s_given_register) l3 c3 k3
  have b3 := F3.binds (ps := ["instruction"]) fun _ _ _ _ _ _ us hl => match us, hl with | [_], _ => rfl
  have F4 := fun_mk (st := s_region_end) l4 c4 k4
  have b4 := F4.binds (ps := ["region"]) fun _ _ _ _ _ _ us hl => match us, hl with | [_], _ => rfl
  have F5 := fun_mk (st := s_region_at) l5 c5 k5
  have b5 := F5.binds (ps := ["layout", "address"]) fun _ _ _ _ _ _ us hl => match us, hl with | [_, _], _ => rfl
  have F6 := fun_mk (st := s_addresses) l6 c6 k6
  have b6 := F6.binds (ps := ["state", "instruction"]) fun _ _ _ _ _ _ us hl => match us, hl with | [_, _], _ => rfl
  have F7 := fun_mk (st := s_safe_region) l7 c7 k7
  have b7 := F7.binds (ps := ["layout", "least", "greatest"]) fun _ _ _ _ _ _ us hl => match us, hl with | [_, _, _], _ => rfl
  have F8 := fun_mk (st := s_next_state) l8 c8 k8
  have b8 := F8.binds (ps := ["layout", "state", "instruction"]) fun _ _ _ _ _ _ us hl => match us, hl with | [_, _, _], _ => rfl
  have F9 := fun_mk (st := s_without_cell) l9 c9 k9
  have b9 := F9.binds (ps := ["fact"]) fun _ _ _ _ _ _ us hl => match us, hl with | [_], _ => rfl
  have F10 := fun_mk (st := s_result_fact) l10 c10 k10
  have b10 := F10.binds (ps := ["layout", "state", "instruction"]) fun _ _ _ _ _ _ us hl => match us, hl with | [_, _, _], _ => rfl
  have F11 := fun_mk (st := s_loaded_fact) l11 c11 k11
  have b11 := F11.binds (ps := ["layout", "least", "greatest"]) fun _ _ _ _ _ _ us hl => match us, hl with | [_, _, _], _ => rfl
  have F12 := fun_mk (st := s_cell_of_sum) l12 c12 k12
  have b12 := F12.binds (ps := ["first", "second"]) fun _ _ _ _ _ _ us hl => match us, hl with | [_, _], _ => rfl
  have F13 := fun_mk (st := s_as_words) l13 c13 k13
  have b13 := F13.binds (ps := ["least", "greatest"]) fun _ _ _ _ _ _ us hl => match us, hl with | [_, _], _ => rfl
  have F14 := fun_mk (st := s_shifted) l14 c14 k14
  have b14 := F14.binds (ps := ["name", "least", "greatest", "count"]) fun _ _ _ _ _ _ us hl => match us, hl with | [_, _, _, _], _ => rfl
  have F15 := fun_mk (st := s_operated) l15 c15 k15
  have b15 := F15.binds (ps := ["name", "first", "second"]) fun _ _ _ _ _ _ us hl => match us, hl with | [_, _, _], _ => rfl
  have F16 := fun_mk (st := s_top_of_bits) l16 c16 k16
  have b16 := F16.binds (ps := ["name", "high", "greatest"]) fun _ _ _ _ _ _ us hl => match us, hl with | [_, _, _], _ => rfl
  have F17 := fun_mk (st := s_law_source) l17 c17 k17
  have b17 := F17.binds (ps := ["script", "k"]) fun _ _ _ _ _ _ us hl => match us, hl with | [_, _], _ => rfl
  have F18 := fun_mk (st := s_law_draw) l18 c18 k18
  have b18 := F18.binds (ps := ["source", "many"]) fun _ _ _ _ _ _ us hl => match us, hl with | [_, _], _ => rfl
  have F19 := fun_mk (st := s_law_word) l19 c19 k19
  have b19 := F19.binds (ps := ["source"]) fun _ _ _ _ _ _ us hl => match us, hl with | [_], _ => rfl
  have F20 := fun_mk (st := s_law_layout) l20 c20 k20
  have b20 := F20.binds (ps := ["source"]) fun _ _ _ _ _ _ us hl => match us, hl with | [_], _ => rfl
  have F21 := fun_mk (st := s_law_flow_at) l21 c21 k21
  have b21 := F21.binds (ps := ["layout", "address"]) fun _ _ _ _ _ _ us hl => match us, hl with | [_, _], _ => rfl
  have F22 := fun_mk (st := s_law_most_at) l22 c22 k22
  have b22 := F22.binds (ps := ["layout", "address"]) fun _ _ _ _ _ _ us hl => match us, hl with | [_, _], _ => rfl
  have F23 := fun_mk (st := s_law_memories) l23 c23 k23
  have b23 := F23.binds (ps := ["source", "layout"]) fun _ _ _ _ _ _ us hl => match us, hl with | [_, _], _ => rfl
  have F24 := fun_mk (st := s_law_value) l24 c24 k24
  have b24 := F24.binds (ps := ["source", "memories"]) fun _ _ _ _ _ _ us hl => match us, hl with | [_, _], _ => rfl
  have F25 := fun_mk (st := s_law_instruction) l25 c25 k25
  have b25 := F25.binds (ps := ["source", "layout"]) fun _ _ _ _ _ _ us hl => match us, hl with | [_, _], _ => rfl
  have F26 := fun_mk (st := s_law_compute) l26 c26 k26
  have b26 := F26.binds (ps := ["name", "a", "b", "c"]) fun _ _ _ _ _ _ us hl => match us, hl with | [_, _, _, _], _ => rfl
  have F27 := fun_mk (st := s_law_done) l27 c27 k27
  have b27 := F27.binds (ps := ["layout", "row", "words", "memory", "carry"]) fun _ _ _ _ _ _ us hl => match us, hl with | [_, _, _, _, _], _ => rfl
  have F28 := fun_mk (st := s_law_true) l28 c28 k28
  have b28 := F28.binds (ps := ["fact", "word", "memory"]) fun _ _ _ _ _ _ us hl => match us, hl with | [_, _, _], _ => rfl
  have F29 := fun_mk (st := s_law_stays_true) l29 c29 k29
  have b29 := F29.binds (ps := ["script", "at"]) fun _ _ _ _ _ _ us hl => match us, hl with | [_, _], _ => rfl
  have F30 := fun_mk (st := s_law) l30 c30 k30
  have b30 := F30.binds (ps := ["script"]) fun _ _ _ _ _ _ us hl => match us, hl with | [_], _ => rfl
  let T : Tx K mg := ⟨_, _, F1, b1, PySem.W.mg_of X G a1, _, _, F2, b2, PySem.W.mg_of X G a2, _, _, F3, b3, PySem.W.mg_of X G a3, _, _, F4, b4, PySem.W.mg_of X G a4, _, _, F5, b5, PySem.W.mg_of X G a5, _, _, F6, b6, PySem.W.mg_of X G a6, _, _, F7, b7, PySem.W.mg_of X G a7, _, _, F8, b8, PySem.W.mg_of X G a8, _, _, F9, b9, PySem.W.mg_of X G a9, _, _, F10, b10, PySem.W.mg_of X G a10, _, _, F11, b11, PySem.W.mg_of X G a11, _, _, F12, b12, PySem.W.mg_of X G a12, _, _, F13, b13, PySem.W.mg_of X G a13, _, _, F14, b14, PySem.W.mg_of X G a14, _, _, F15, b15, PySem.W.mg_of X G a15, _, _, F16, b16, PySem.W.mg_of X G a16, _, _, F17, b17, PySem.W.mg_of X G a17, _, _, F18, b18, PySem.W.mg_of X G a18, _, _, F19, b19, PySem.W.mg_of X G a19, _, _, F20, b20, PySem.W.mg_of X G a20, _, _, F21, b21, PySem.W.mg_of X G a21, _, _, F22, b22, PySem.W.mg_of X G a22, _, _, F23, b23, PySem.W.mg_of X G a23, _, _, F24, b24, PySem.W.mg_of X G a24, _, _, F25, b25, PySem.W.mg_of X G a25, _, _, F26, b26, PySem.W.mg_of X G a26, _, _, F27, b27, PySem.W.mg_of X G a27, _, _, F28, b28, PySem.W.mg_of X G a28, _, _, F29, b29, PySem.W.mg_of X G a29, _, _, F30, b30, PySem.W.mg_of X G a30, _, PySem.W.mg_of X G g_GIVES_NOTHING, rfl, _, PySem.W.mg_of X G g_GREATEST_WORD, ⟨_, rfl⟩, _, PySem.W.mg_of X G g_REGISTERS, ⟨_, rfl⟩, _, PySem.W.mg_of X G g_CARRY, ⟨_, rfl⟩, _, PySem.W.mg_of X G g_NO_CELL, rfl, _, PySem.W.mg_of X G g_WORD, ⟨_, rfl⟩, _, PySem.W.mg_of X G g_CARRYING, rfl, _, PySem.W.mg_of X G g_CHAINED, rfl, _, PySem.W.mg_of X G g_SHIFTS, rfl, PySem.W.mg_none_of X G z_abs, PySem.W.mg_none_of X G z_int, PySem.W.mg_none_of X G z_isinstance, PySem.W.mg_none_of X G z_len, PySem.W.mg_none_of X G z_max, PySem.W.mg_none_of X G z_min, PySem.W.mg_none_of X G z_range, PySem.W.mg_none_of X G z_tuple, kitd_GIVES_NOTHING, kitd_NO_CELL, kitd_CARRYING, kitd_CHAINED, kitd_SHIFTS⟩
  exact ⟨PySem.W.fnOf "law" "law" (defArgs s_law) (defBody s_law) (defScope s_law) .none kV30 dc30 pm30 an30 cd30 ct30, fun s v => .of_eq rfl, fun base _ _ => ok_law' T F30⟩
end K68
open PySem PySem.W PyProof.Rows
set_option maxHeartbeats 0 in
theorem PySem.Challenge.cw_quietsmith_k68_values_stay_in_their_fact_holds : PySem.Challenge.rw_quietsmith_k68_values_stay_in_their_fact.Holds := by
  w_on; o_law; k_head; (case hw => w_witness2)
  k_fill
  refine L2.walk_of (l := PySem.Challenge.rw_quietsmith_k68_values_stay_in_their_fact) (n := 63) (k := 8) (x := "script") (CX := fun _ => L2.CX0) (sp := fun w => K68.spLaw _) rfl (by decide) rfl ⟨rfl, by decide, by decide⟩ (fun w h Y => PySem.W.kIn_of Y) ?F (fun _ _ a ns hl _ hS => ⟨a, ns, rfl, hS, hl, fun _ => rfl⟩) (fun _ _ _ _ _ h => h)
  case F =>
    intro w mg fa h KX G hmg
    refine' K68.all_mk KX G hmg ?a1 ?l1 ?c1 ?k1 ?a2 ?l2 ?c2 ?k2 ?a3 ?l3 ?c3 ?k3 ?a4 ?l4 ?c4 ?k4 ?a5 ?l5 ?c5 ?k5 ?a6 ?l6 ?c6 ?k6 ?a7 ?l7 ?c7 ?k7 ?a8 ?l8 ?c8 ?k8 ?a9 ?l9 ?c9 ?k9 ?a10 ?l10 ?c10 ?k10 ?a11 ?l11 ?c11 ?k11 ?a12 ?l12 ?c12 ?k12 ?a13 ?l13 ?c13 ?k13 ?a14 ?l14 ?c14 ?k14 ?a15 ?l15 ?c15 ?k15 ?a16 ?l16 ?c16 ?k16 ?a17 ?l17 ?c17 ?k17 ?a18 ?l18 ?c18 ?k18 ?a19 ?l19 ?c19 ?k19 ?a20 ?l20 ?c20 ?k20 ?a21 ?l21 ?c21 ?k21 ?a22 ?l22 ?c22 ?k22 ?a23 ?l23 ?c23 ?k23 ?a24 ?l24 ?c24 ?k24 ?a25 ?l25 ?c25 ?k25 ?a26 ?l26 ?c26 ?k26 ?a27 ?l27 ?c27 ?k27 ?a28 ?l28 ?c28 ?k28 ?a29 ?l29 ?c29 ?k29 ?a30 ?l30 ?c30 ?k30 ?g_GIVES_NOTHING ?g_GREATEST_WORD ?g_REGISTERS ?g_CARRY ?g_NO_CELL ?g_WORD ?g_CARRYING ?g_CHAINED ?g_SHIFTS ?z_abs ?z_int ?z_isinstance ?z_len ?z_max ?z_min ?z_range ?z_tuple ?kitd_GIVES_NOTHING ?kitd_NO_CELL ?kitd_CARRYING ?kitd_CHAINED ?kitd_SHIFTS
    (case a1 => k_is)
    (case l1 => k_is)
    (case c1 => k_is)
    (case k1 => k_is)
    (case a2 => k_is)
    (case l2 => k_is)
    (case c2 => k_is)
    (case k2 => k_is)
    (case a3 => k_is)
    (case l3 => k_is)
    (case c3 => k_is)
    (case k3 => k_is)
    (case a4 => k_is)
    (case l4 => k_is)
    (case c4 => k_is)
    (case k4 => k_is)
    (case a5 => k_is)
    (case l5 => k_is)
    (case c5 => k_is)
    (case k5 => k_is)
    (case a6 => k_is)
    (case l6 => k_is)
    (case c6 => k_is)
    (case k6 => k_is)
    (case a7 => k_is)
    (case l7 => k_is)
    (case c7 => k_is)
    (case k7 => k_is)
    (case a8 => k_is)
    (case l8 => k_is)
    (case c8 => k_is)
    (case k8 => k_is)
    (case a9 => k_is)
    (case l9 => k_is)
    (case c9 => k_is)
    (case k9 => k_is)
    (case a10 => k_is)
    (case l10 => k_is)
    (case c10 => k_is)
    (case k10 => k_is)
    (case a11 => k_is)
    (case l11 => k_is)
    (case c11 => k_is)
    (case k11 => k_is)
    (case a12 => k_is)
    (case l12 => k_is)
    (case c12 => k_is)
    (case k12 => k_is)
    (case a13 => k_is)
    (case l13 => k_is)
    (case c13 => k_is)
    (case k13 => k_is)
    (case a14 => k_is)
    (case l14 => k_is)
    (case c14 => k_is)
    (case k14 => k_is)
    (case a15 => k_is)
    (case l15 => k_is)
    (case c15 => k_is)
    (case k15 => k_is)
    (case a16 => k_is)
    (case l16 => k_is)
    (case c16 => k_is)
    (case k16 => k_is)
    (case a17 => k_is)
    (case l17 => k_is)
    (case c17 => k_is)
    (case k17 => k_is)
    (case a18 => k_is)
    (case l18 => k_is)
    (case c18 => k_is)
    (case k18 => k_is)
    (case a19 => k_is)
    (case l19 => k_is)
    (case c19 => k_is)
    (case k19 => k_is)
    (case a20 => k_is)
    (case l20 => k_is)
    (case c20 => k_is)
    (case k20 => k_is)
    (case a21 => k_is)
    (case l21 => k_is)
    (case c21 => k_is)
    (case k21 => k_is)
    (case a22 => k_is)
    (case l22 => k_is)
    (case c22 => k_is)
    (case k22 => k_is)
    (case a23 => k_is)
    (case l23 => k_is)
    (case c23 => k_is)
    (case k23 => k_is)
    (case a24 => k_is)
    (case l24 => k_is)
    (case c24 => k_is)
    (case k24 => k_is)
    (case a25 => k_is)
    (case l25 => k_is)
    (case c25 => k_is)
    (case k25 => k_is)
    (case a26 => k_is)
    (case l26 => k_is)
    (case c26 => k_is)
    (case k26 => k_is)
    (case a27 => k_is)
    (case l27 => k_is)
    (case c27 => k_is)
    (case k27 => k_is)
    (case a28 => k_is)
    (case l28 => k_is)
    (case c28 => k_is)
    (case k28 => k_is)
    (case a29 => k_is)
    (case l29 => k_is)
    (case c29 => k_is)
    (case k29 => k_is)
    (case a30 => k_is)
    (case l30 => k_is)
    (case c30 => k_is)
    (case k30 => k_is)
    (case g_GIVES_NOTHING => k_is)
    (case g_GREATEST_WORD => k_is)
    (case g_REGISTERS => k_is)
    (case g_CARRY => k_is)
    (case g_NO_CELL => k_is)
    (case g_WORD => k_is)
    (case g_CARRYING => k_is)
    (case g_CHAINED => k_is)
    (case g_SHIFTS => k_is)
    (case z_abs => k_is)
    (case z_int => k_is)
    (case z_isinstance => k_is)
    (case z_len => k_is)
    (case z_max => k_is)
    (case z_min => k_is)
    (case z_range => k_is)
    (case z_tuple => k_is)
    (case kitd_GIVES_NOTHING => kernel_rfl)
    (case kitd_NO_CELL => kernel_rfl)
    (case kitd_CARRYING => kernel_rfl)
    (case kitd_CHAINED => kernel_rfl)
    (case kitd_SHIFTS => kernel_rfl)

