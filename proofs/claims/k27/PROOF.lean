import PyProof.Rows.All
import Wide.All
import OpenK.AllK
import Wide.FinOn
import HandS.ForMost
import HandS.AnyAll
import HandS.EndTab
import HandS.GenList
import HandS.Walk
import HandS.Words
import HandS.More
import HandS.IsInst
import HandS.ForExc
import HandS.ExcInit
import HandS.FStr
import KE.KExcSuper
import HandS.ExcField
import KE.KExcIs
import KE.KIsAll
import HandS.TryOnly
import HandS.Deep
import HandS.Star
import HandS.TupMul
import HandS.Call
import HandS.ExcOwn
import HandS.Zip
import KE.GoesMore
import KE.GoesEnum
import HandS.TupAny
import HandS.WideBits
import HandS.Flow
import HandS.Codes
import HandS.Text
import HandS.Defaults
import PySem.Challenge.RW_quietsmith_k27_layout_forms
set_option Elab.async false
set_option linter.all false
set_option maxRecDepth 100000
/-! heaps that a law's own text works on: what it holds, as a list of addresses and objects; the two first helpers' promises -/
namespace Lw
open PySem PySem.Spec PyProof.Rows L2
theorem same_upd {H : Hp} {p : Addr} {o : HO} (h : H p = none) : Same H (upd H p o) := fun b x e => by
  rw [upd_ne (ne_of_none e h)]
  exact e
/-- what stood stands, but for the object at p -/
def Keep (H H' : Hp) (p : Addr) : Prop := ∀ b o, b ≠ p → H b = some o → H' b = some o
theorem Keep.trans {H H1 H2 : Hp} {p : Addr} (a : Keep H H1 p) (b : Keep H1 H2 p) : Keep H H2 p := fun c o n e => b c o n (a c o n e)
theorem keep_upd (H : Hp) (p : Addr) (o : HO) : Keep H (upd H p o) p := fun b u n e => by
  rw [upd_ne n]
  exact e
theorem Same.keep {H H' : Hp} {p : Addr} (s : Same H H') : Keep H H' p := fun b o _ e => s b o e
theorem Keep.new {H H1 H2 : Hp} {p : Addr} (n : H p = none) (s : Same H H1) (k : Keep H1 H2 p) : Same H H2 := fun b o e => k b o (ne_of_none e n) (s b o e)
theorem Keep.free {H H' : Hp} {p r : Addr} {o : HO} (k : Keep H H' p) (hp : H' p = some o) (hr : H' r = none) : H r = none := by
  cases e : H r with
  | none => rfl
  | some u =>
    have n : r ≠ p := fun z => by
      rw [z, hp] at hr
      cases hr
    rw [k r u n e] at hr
    cases hr
theorem at_int {ns : List Int} {i : Int} (h0 : 0 ≤ i) (h1 : i < ns.length) : ∃ z, atI (ns.map V.int) i = some (.int z) := by
  obtain ⟨j, rfl⟩ := Int.eq_ofNat_of_zero_le h0
  have hj : j < ns.length := by omega
  refine ⟨ns[j], atI_nat ?_⟩
  rw [List.getElem?_map, List.getElem?_eq_getElem hj]
  rfl
def spSource (K : PySem.W.Frag) : Sp := fun vs H Q _ => ∃ (a : Addr) (ns : List Int) (k : Int), vs = [.ref a, .int k] ∧ SqL K H a (ns.map V.int) ∧ ns.length ≤ 63 ∧ 0 ≤ k ∧
  ∀ (p : Addr) (x y : Int), H p = none → 0 ≤ x → Q (.ref p) (upd H p (.lst [.int x, .int y]))
def spDraw : Sp := fun vs H Q _ => ∃ (p : Addr) (x y m : Int), vs = [.ref p, .int m] ∧ H p = some (.lst [.int x, .int y]) ∧ 0 ≤ x ∧ 0 < m ∧ m ≤ 100000 ∧
  ∀ (v x' y' : Int), 0 ≤ v → v < m → 0 ≤ x' → Q (.int v) (upd H p (.lst [.int x', .int y']))
/-- since H0: what stood stands; L: what is new and known, each place once -/
structure Objs (H0 H : Hp) (L : List (Addr × HO)) : Prop where
  same : Same H0 H
  at_ : ∀ q ∈ L, H q.1 = some q.2
  nd : (L.map (·.1)).Nodup
  new : ∀ q ∈ L, H0 q.1 = none
section
variable {H0 H H' : Hp} {L : List (Addr × HO)} {a : Addr} {o o' : HO} {i : Nat}
theorem Objs.nil (H : Hp) : Objs H H [] := ⟨Same.refl H, fun _ h => absurd h (by simp), List.nodup_nil, fun _ h => absurd h (by simp)⟩
theorem Objs.get (h : Objs H0 H L) (i : Nat) (hi : L[i]? = some (a, o)) : H a = some o := h.at_ _ (List.mem_of_getElem? hi)
theorem Objs.mono (h : Objs H0 H L) (s : Same H H') : Objs H0 H' L := ⟨h.same.trans s, fun q hq => s _ _ (h.at_ q hq), h.nd, h.new⟩
theorem Objs.fresh (h : Objs H0 H L) (n : H a = none) : a ∉ L.map (·.1) ∧ H0 a = none :=
  ⟨fun z => (by
    obtain ⟨q, hq, e⟩ := List.mem_map.mp z
    have := h.at_ q hq
    rw [e, n] at this
    cases this), h.same.free n⟩
theorem Objs.push (h : Objs H0 H L) (n : H a = none) (s : Same H H') (e : H' a = some o) : Objs H0 H' ((a, o) :: L) := by
  obtain ⟨h1, h2⟩ := h.fresh n
  refine ⟨h.same.trans s, fun q hq => ?_, ?_, fun q hq => ?_⟩
  · rcases List.mem_cons.mp hq with z | z
    · rw [z]; exact e
    · exact s _ _ (h.at_ q z)
  · rw [List.map_cons, List.nodup_cons]
    exact ⟨h1, h.nd⟩
  · rcases List.mem_cons.mp hq with z | z
    · rw [z]; exact h2
    · exact h.new q z
theorem Objs.add (h : Objs H0 H L) (n : H a = none) : Objs H0 (upd H a o) ((a, o) :: L) := h.push n (same_upd n) upd_same
theorem Objs.skip (h : Objs H0 H L) (n : H a = none) : Objs H0 (upd H a o) L := h.mono (same_upd n)
theorem Objs.set (h : Objs H0 H L) (i : Nat) (hi : L[i]? = some (a, o)) (k : Keep H H' a) (e : H' a = some o') : Objs H0 H' (L.set i (a, o')) := by
  have hm : (a, o) ∈ L := List.mem_of_getElem? hi
  obtain ⟨hlt, hie⟩ := List.getElem?_eq_some_iff.mp hi
  have hmap : (L.set i (a, o')).map (·.1) = L.map (·.1) := by
    rw [List.map_set]
    apply List.ext_getElem?
    intro j
    by_cases hj : i = j
    · subst hj
      rw [List.getElem?_set_self (by simpa using hlt), List.getElem?_map, hi]
      rfl
    · rw [List.getElem?_set_ne hj]
  have h0 := h.new _ hm
  refine ⟨Keep.new h0 h.same k, fun q hq => ?_, by rw [hmap]; exact h.nd, fun q hq => ?_⟩
  · obtain ⟨j, hj⟩ := List.getElem?_of_mem hq
    by_cases hij : i = j
    · subst hij
      rw [List.getElem?_set_self hlt] at hj
      cases hj
      exact e
    · rw [List.getElem?_set_ne hij] at hj
      have hq2 := List.mem_of_getElem? hj
      refine k _ _ (fun z => ?_) (h.at_ q hq2)
      have e1 : (L.map (·.1))[i]? = some a := by rw [List.getElem?_map, hi]; rfl
      have e2 : (L.map (·.1))[j]? = some a := by rw [List.getElem?_map, hj, ← z]; rfl
      obtain ⟨g1, f1⟩ := List.getElem?_eq_some_iff.mp e1
      obtain ⟨g2, f2⟩ := List.getElem?_eq_some_iff.mp e2
      exact hij ((List.getElem_inj h.nd).mp (f1.trans f2.symm))
  · obtain ⟨j, hj⟩ := List.getElem?_of_mem hq
    by_cases hij : i = j
    · subst hij
      rw [List.getElem?_set_self hlt] at hj
      cases hj
      exact h0
    · rw [List.getElem?_set_ne hij] at hj
      exact h.new q (List.mem_of_getElem? hj)
theorem Objs.put (h : Objs H0 H L) (i : Nat) (hi : L[i]? = some (a, o)) : Objs H0 (upd H a o') (L.set i (a, o')) := h.set i hi (keep_upd H a o') upd_same
/-- one more, that was new at some time since -/
theorem Objs.join {b : Addr} {u : HO} (h : Objs H0 H' L) (n : b ∉ L.map (·.1)) (n0 : H0 b = none) (e : H' b = some u) : Objs H0 H' ((b, u) :: L) := by
  refine ⟨h.same, fun q hq => ?_, ?_, fun q hq => ?_⟩
  · rcases List.mem_cons.mp hq with z | z
    · rw [z]; exact e
    · exact h.at_ q z
  · rw [List.map_cons, List.nodup_cons]
    exact ⟨n, h.nd⟩
  · rcases List.mem_cons.mp hq with z | z
    · rw [z]; exact n0
    · exact h.new q z
theorem Objs.sub {L' : List (Addr × HO)} (h : Objs H0 H L) (s : List.Sublist L' L) : Objs H0 H L' :=
  ⟨h.same, fun q hq => h.at_ q (s.subset hq), h.nd.sublist (s.map _), fun q hq => h.new q (s.subset hq)⟩
theorem Objs.ne (h : Objs H0 H L) {b : Addr} {u : HO} (i j : Nat) (hi : L[i]? = some (a, o)) (hj : L[j]? = some (b, u)) (hij : i ≠ j) : a ≠ b := fun z => by
  have e1 : (L.map (·.1))[i]? = some a := by rw [List.getElem?_map, hi]; rfl
  have e2 : (L.map (·.1))[j]? = some a := by rw [List.getElem?_map, hj, z]; rfl
  obtain ⟨g1, f1⟩ := List.getElem?_eq_some_iff.mp e1
  obtain ⟨g2, f2⟩ := List.getElem?_eq_some_iff.mp e2
  exact hij ((List.getElem_inj h.nd).mp (f1.trans f2.symm))
end
theorem ixN_of {n : Nat} {i : Int} (h0 : 0 ≤ i) (h1 : i < n) : ixN n i = some i.toNat := by
  unfold ixN
  rw [if_pos h0, if_pos h1]
theorem get_at {ns : List Int} {i : Nat} (h : i < ns.length) : atI (ns.map V.int) (0 + (i : Int)) = some (.int ns[i]) := by
  rw [Int.zero_add]
  refine atI_nat ?_
  rw [List.getElem?_map, List.getElem?_eq_getElem h]
  rfl
theorem at_back {ns : List Int} {i : Nat} (h : i < ns.length) : atI (ns.map V.int) ((ns.length : Int) - 1 - (0 + (i : Int))) = some (.int (ns[ns.length - 1 - i]'(by omega))) := by
  rw [show (ns.length : Int) - 1 - (0 + (i : Int)) = ((ns.length - 1 - i : Nat) : Int) by omega]
  refine atI_nat ?_
  rw [List.getElem?_map, List.getElem?_eq_getElem (by omega)]
  rfl
theorem ne_of_none' {H : Hp} {a b : Addr} {o : HO} (h : H a = some o) (h' : H b = none) : b ≠ a := (ne_of_none h h').symm
end Lw

set_option Elab.async false
set_option linter.all false
set_option maxRecDepth 100000
set_option maxHeartbeats 2000000
/-! all(e for target in walked), any(..): the element may call own defs; by the frame of the generator as a context of its own. -/
namespace GA
open PySem PySem.Spec PyProof.Rows L2 GenW GxR

/-- the frame of a generator expression that was made at s -/
abbrev gen (X : Cx) (A : Around) (s : Shared) (H : Hp) (cenv : Env) (fp : List Addr) (pn : List (Addr × Obj)) : Cx :=
  { X with A := A, s_0 := s, H_0 := H, env := cenv, outer := X.stack, stack := cenv :: X.stack, ex := fp, fn := fun _ => false, pn := pn, xe := fun _ _ => False }
/-- its environment -/
abbrev genv (X : Cx) (scope : Scope) (C : Addr) (code : Value) : Env := genEnv scope (cloFrom X.env.cells scope.names []) C code builtinsNs X.env
structure GenOk (N : List Str) (sc scope : Scope) (own : List (Str × Nat)) : Prop where
  blk : BlkOk N sc scope own
  co : scope.isCoroutine = false
  cell : ∀ y ∈ scope.names, y.2 ≠ .cell
  dot : scope.names.lookup (".0" : Str) = some NameKind.local
theorem genOk_by {N : List Str} {sc scope : Scope} {own : List (Str × Nat)} (h : (scope.kind = .function ∧ (∀ y ∈ scope.names, scope.names.lookup y.1 = some y.2) ∧ (∀ p ∈ own, N[p.2]? = some p.1) ∧
    (∀ y ∈ scope.names, y.2 = .free → sc.names.lookup y.1 = some .cell ∨ sc.names.lookup y.1 = some .free) ∧ (∀ y ∈ scope.names, y.2 = .local ∨ y.2 = .cell → y.1 ∈ own.map (·.1) ∨ y.1 ∉ N)) ∧
    scope.isCoroutine = false ∧ (∀ y ∈ scope.names, y.2 ≠ .cell) ∧ scope.names.lookup (".0" : Str) = some NameKind.local) : GenOk N sc scope own :=
  ⟨⟨h.1.1, h.1.2.1, h.1.2.2.1, h.1.2.2.2.1, h.1.2.2.2.2⟩, h.2.1, h.2.2.1, h.2.2.2⟩

section
variable {X : Cx} {pins : List (Addr × Obj)} {σ : L2.St} {H : Hp} {s : Shared}
theorem gen_start {A : Around} {scope : Scope} {own : List (Str × Nat)} {fp : List Addr} {a : Addr} {code : Value} {go : Obj} {m0 : Str → Option Value} {s5 : Shared} (I : Inv X pins σ H s) (ok : GenOk X.N X.env.scope scope own) (hN : X.N.Nodup)
    (hA : A.frames = some X.stack) (hh : A.handled = none) (hfp : ∀ b ∈ fp, FpOk X pins H b ∧ b < s.heap.objs.size) (kp : ∀ b o, s.heap.get? b = some o → s5.heap.get? b = some o) (hns : s5.heap.Ns s.heap.objs.size m0) (hos : s5.os = s.os) (hb5 : AllBare s5.gens)
    (ha : s.heap.objs.size < a) (hgo : s5.heap.get? a = some go) (hgd : ∀ v, go.data ≠ .cell v) :
    Inv (gen X (A.deeper (genv X scope s.heap.objs.size code)) s H (genv X scope s.heap.objs.size code) fp [(a, go)]) [] (wipe σ (own.map (·.2))) H s5 := by
  have hfree : ∀ y ∈ scope.names, y.2 = .free → ∃ c, X.env.cells.lookup y.1 = some c := fun y hy e => by
    rcases ok.blk.free y hy e with k | k
    · exact I.ok.has _ (.inl k)
    · exact I.ok.has _ (.inr k)
  have cm : ∀ {y c}, (y, c) ∈ cloFrom X.env.cells scope.names [] → X.env.cells.lookup y = some c ∧ c < s.heap.objs.size ∧ (y, NameKind.free) ∈ scope.names := fun {y c} hm => by
    rcases cloFrom_mem hm with hm | ⟨h1, rfl⟩
    · cases hm
    · obtain ⟨c, hc⟩ := hfree _ h1 rfl
      rw [hc]
      obtain ⟨w, z⟩ := I.cell _ _ hc
      exact ⟨rfl, z.lt, h1⟩
  have cm2 : ∀ {y c}, (cloFrom X.env.cells scope.names []).lookup y = some c → X.env.cells.lookup y = some c ∧ c < s.heap.objs.size ∧ (y, NameKind.free) ∈ scope.names := fun {y c} e => cm (PySem.mem_of_lookup e)
  have look : ∀ {y}, scope.names.lookup y = some .free → ∃ c, (cloFrom X.env.cells scope.names []).lookup y = some c := fun {y} hl =>
    mem_lookup (cloFrom_has (cells := X.env.cells) (acc := []) (PySem.mem_of_lookup hl))
  refine ⟨⟨I.ok.mod, ok.blk.kind, I.ok.glob, rfl, Nat.le_refl _, fun y z c e1 e2 => I.ok.inj y z c (cm2 e1).1 (cm2 e2).1, fun y hy => ?_, fun y c z e => ?_, fun _ => hh, Around.frames_deeper hA, .inr ⟨rfl, rfl⟩, fun b hb => ⟨?_, fun y c e z => ?_⟩, I.bs, Nat.le_trans I.ok.bsz I.sz, fun b o e hb => ?_, fun b hb z => ?_, I.stack, I.stkFree⟩,
    hos, hb5, Un.kept kp, ⟨m0, hns, fun i y av e1 e2 e3 => ?_⟩, fun y c e => ?_, I.hok.fresh (Nat.le_refl _), fun y c e => ?_, fun p hp => ?_, I.hok.kept kp, by rw [wipe_length]; exact I.len⟩
  · have hy : scope.names.lookup y = some .cell ∨ scope.names.lookup y = some .free := hy
    rcases hy with hy | hy
    · exact absurd rfl (ok.cell _ (PySem.mem_of_lookup hy))
    · exact look hy
  · cases z
  · exact Nat.ne_of_lt (hfp b hb).2
  · exact (hfp b hb).1.2.2.2.2.1 y c (cm2 e).1 z
  · rcases (hfp b hb).1.2.2.2.1 with z | z
    · exact I.ok.noex b o e z
    · exact absurd (Nat.lt_of_lt_of_le (Heap.lt_size e) (Nat.le_trans I.ok.bsz z)) (Nat.lt_irrefl _)
  · rcases List.mem_cons.mp (I.stkSub b z) with z | z
    · exact (hfp b hb).1.2.1 z
    · exact (hfp b hb).1.2.2.1 z
  · obtain ⟨e2, hne⟩ := wipe_some e2
    have hfr : scope.names.lookup y = some .free := by
      have no : ∀ k, scope.names.lookup y = some k → ¬ (k = .local ∨ k = .cell) := fun k e hh => by
        rcases ok.blk.own _ (PySem.mem_of_lookup e) hh with e' | e'
        · obtain ⟨p, hp, hpy⟩ := List.mem_map.mp e'
          have e3 := ok.blk.ix p hp
          have : p.1 = y := hpy
          rw [this] at e3
          exact hne (List.mem_map.mpr ⟨p, hp, nodup_ix hN e3 e1⟩)
        · exact e' (List.mem_of_getElem? e1)
      have e3 : Vis scope y := e3
      rcases e3 with e3 | e3 | e3
      · exact absurd (.inl rfl) (no _ e3)
      · exact absurd (.inr rfl) (no _ e3)
      · exact e3
    obtain ⟨m, hn, hl⟩ := I.loc
    have hvis : Vis X.env.scope y := (ok.blk.free _ (PySem.mem_of_lookup hfr) rfl).elim (fun k => .inr (.inl k)) (fun k => .inr (.inr k))
    obtain ⟨w, r, q⟩ := hl i y av e1 e2 hvis
    obtain ⟨c, hc⟩ := look hfr
    refine ⟨w, r, .inr ⟨.inr hfr, c, hc, ?_⟩⟩
    rcases q with ⟨k, _⟩ | ⟨_, c', e', z⟩
    · have k : X.env.scope.names.lookup y = some .local := k
      rcases ok.blk.free _ (PySem.mem_of_lookup hfr) rfl with k' | k' <;> rw [show X.env.scope.names.lookup y = _ from k'] at k <;> cases k
    · rw [(cm2 hc).1] at e'
      cases e'
      obtain ⟨o, ho, hd⟩ := z
      exact ⟨o, kp _ _ ho, hd⟩
  · obtain ⟨v, o, ho, hd⟩ := I.cell y c (cm2 e).1
    exact ⟨v, o, kp _ _ ho, hd⟩
  · exact I.freeC y c (cm2 e).1
  · have e : p = (a, go) := by simpa using hp
    subst e
    refine ⟨hgo, I.hok.fresh (Nat.le_of_lt ha), Nat.ne_of_gt ha, fun z => ?_, hgd⟩
    have z : a ∈ frs X.stack := z
    rcases List.mem_cons.mp (I.stkSub a z) with e | e
    · exact absurd (Nat.lt_trans I.lt ha) (by rw [e]; exact Nat.lt_irrefl _)
    · exact I.nofs (Nat.le_of_lt ha) e

/-- the generator expression's code object: made, or found in the def's table; the table may have grown -/
theorem gcode {A : Around} {E : Value → Shared → Prop} {c P : Addr} {gpos : Pos} {qn : Str} {scope : Scope} {Q : Value → Shared → Prop} (TB : LamX.TabB X.base X.mg c P) (hcode : X.env.code = .ref c) (I : Inv X pins σ H s) (ht : TabG H P)
    (hQ : ∀ code s' H', Tabbed P H H' → Inv X pins σ H' s' → s.heap.objs.size ≤ s'.heap.objs.size → (∀ b o, b ≠ P → s.heap.get? b = some o → s'.heap.get? b = some o) → Q code s') :
    wpAny (model X.prog X.w) A (genexprCode X.env gpos qn scope) Q E s := by
  obtain ⟨ps, hP, ht⟩ := ht
  have hPs : s.heap.get? P = some { cls := .none, data := .fields ps } := I.hok P _ hP
  have cd : PySem.W.CodeHd s.heap c P := TB.code.keeps fun b u e => I.bk b u e
  cases hf : codeAmong gpos ps.toList with
  | none =>
    refine wpAny_genexprCodeX hcode (cd.code hPs ht) (cd.tab hPs) hf fun c' h' tk hx hge hlt hco' _ htab' _ => ?_
    obtain ⟨o1, vs, f1, tf, fl, tg, inF, tx, tt, op, _, _, _, _, _, _, _, _, _, htr, _⟩ := hco'
    have J := inv_tab (h' := h') (g' := s.gens) (d' := s.drawn) (t' := tk) I hP (fun b o hb e => hx b o hb e) htab'.2 I.bare
    exact hQ _ _ _ ⟨⟨_, upd_same, htr⟩, fun b hb => upd_ne hb⟩ J (Nat.le_trans hge (Nat.le_of_lt hlt)) fun b o hb e => hx b o hb e
  | some cv =>
    refine wpAny_genexprCode_hit hcode (cd.code hPs ht) hf ?_
    exact hQ cv s H ⟨⟨ps, hP, ht⟩, fun _ _ => rfl⟩ I (Nat.le_refl _) fun _ _ _ e => e
theorem gblt {A : Around} {E : Value → Shared → Prop} {c P : Addr} {Q : Addr → Shared → Prop} (TB : LamX.TabB X.base X.mg c P) (I : Inv X pins σ H s) (h : Q builtinsNs s) : wpAny (model X.prog X.w) A (builtinsFor X.env.globals X.env.builtins) Q E s := by
  obtain ⟨bm, ob, e1, e2, e3, e4, e5, e6, e7, e8⟩ := TB.bm
  exact wpAny_builtinsFor (m := X.mg) (by rw [I.ok.glob]; exact I.mod.glob.keeps I.bk) e1 e2 (I.bk _ _ e5) e6 e7 e8 h

/-! ### the generator's run -/
structure Wk (s s' : Shared) : Prop where
  os : s'.os = s.os
  bare : AllBare s'.gens
  keep : ∀ b o, s.heap.get? b = some o → s'.heap.get? b = some o
def YB (Y0 : Bool → Shared → Prop) : Protocol := fun _ _ v s kap => ∃ b, v = .bool b ∧ Y0 b s ∧ (b = true → ∀ s', Wk s s' → kap (.send .none) s')
def RB (F : Shared → Prop) : GenEnd := fun _ _ r s => ((r = .ok (.ret .none) ∨ r = .ok .next) ∧ F s) ∨ ∃ e, r = .error e ∧ False
theorem over_gloop {A : Around} {e : Expr} {gs : List Comprehension} {sc : Scope} {pos : Pos} {it : Value} {cenv : Env} : A.over (.compLoop (.GeneratorExp e gs sc pos) 0 it .none cenv) [] = A.deeper cenv := by
  first
    | rfl
    | (obtain ⟨hd, d, fr, gs, u⟩ := A; simp [Around.over, Around.deeper, marksOver, frameCount, unitsOf, envsOf, guardsOf, pushEnvs, pushGuards, Code.envs, Code.env?, Code.isFrame, Code.guards, Code.isGuard, Code.weight, Code.frames, Code.isCreation, Code.isCaller, Code.cUnits])
theorem over_gstart {A : Around} {e : Expr} {gs : List Comprehension} {sc : Scope} {pos : Pos} {it : Value} {cenv : Env} : A.over (.compStart (.GeneratorExp e gs sc pos) 0 it .none cenv) [] = A.deeper cenv := by
  first
    | rfl
    | (obtain ⟨hd, d, fr, gs, u⟩ := A; simp [Around.over, Around.deeper, marksOver, frameCount, unitsOf, envsOf, guardsOf, pushEnvs, pushGuards, Code.envs, Code.env?, Code.isFrame, Code.guards, Code.isGuard, Code.weight, Code.frames, Code.isCreation, Code.isCaller, Code.cUnits])
end
section
variable {Z : Cx} {tg iter elt : Expr} {scope : Scope} {gpos : Pos} {A : Around} {it : Addr} {fp : List Addr} {tn : Nat → Heap → Prop} {J : It} {g : TG} {te : TE} {W : Nat → Nat → Hp → Prop} {QT QF : Hp → Prop} {σ0 : L2.St} {vs : List Nat}
theorem seg_gloop (hA : A.deeper Z.env = Z.A) (hc : Z.calm = true) (hxe : ∀ e s, ¬ Z.xe e s) (hco : Z.env.scope.isCoroutine = false) (T : Turn Z.prog Z.w Z.K tg J fp it tn) (pg : PG Z tg g) (pe : PE Z elt te)
    (hσ : ∀ σ2 : L2.St, wipe σ2 vs = σ0 → ∀ (i : Nat) v, σ0[i]? = some (some v) → σ2[i]? = some (some v)) (hl : ∀ σ2 : L2.St, wipe σ2 vs = σ0 → σ0.length = σ2.length)
    (stat : ∀ {σ' : L2.St} {H' : Hp} {s' : Shared}, Inv Z [] σ' H' s' → (∀ b ∈ fp, H' b = none) → ∀ b ∈ fp, FpOk Z [] H' b)
    (turn : ∀ i m H, W i m H → (J.stop i H ∧ QT H) ∨ (J.go i H ∧ ∃ Nx : Hp → Prop, (∀ H', Nx H' → ∃ m', m' < m ∧ W (i + 1) m' H') ∧ ∀ x H', J.yld i H x H' → g x σ0 H' fun σ2 H2 => wipe σ2 vs = σ0 ∧
      te σ2 H2 fun y H4 => ∃ b, y = .bl b ∧ (if b = true then Nx H4 else QF H4))) :
    ∀ (m n i : Nat) (s₀ s : Shared) (H : Hp), m < n → Inv Z [] σ0 H s → tn i s.heap → (∀ b ∈ fp, H b = none) → W i m H →
      Seg (model Z.prog Z.w) A (RB fun s => ∃ H', Inv Z [] σ0 H' s ∧ QT H') (YB fun b s => ∃ H', Inv Z [] σ0 H' s ∧ (b = false → QF H')) n s₀
        (.compLoop (.GeneratorExp elt [⟨tg, iter, [], 0⟩] scope gpos) 0 (.ref it) .none Z.env)
        ((model Z.prog Z.w).den (.compLoop (.GeneratorExp elt [⟨tg, iter, [], 0⟩] scope gpos) 0 (.ref it) .none Z.env)) [] s := by
  intro m
  induction m using Nat.strongRecOn with
  | ind m ih =>
    intro n i s₀ s H hmn I st nfp w
    have ov : A.over (.compLoop (.GeneratorExp elt [⟨tg, iter, [], 0⟩] scope gpos) 0 (.ref it) .none Z.env) [] = Z.A := over_gloop.trans hA
    obtain ⟨n, rfl⟩ : ∃ k, n = k + 1 := ⟨n - 1, by omega⟩
    show Seg _ A _ _ _ s₀ _ ((compTurn (.GeneratorExp elt [⟨tg, iter, [], 0⟩] scope gpos) 0 (.ref it) .none Z.env).onRaise (leaving Z.env)) [] s
    rw [compTurn_gen, Sem.onRaise_eq_wrap]
    refine seg_bind_wrap (wpAny_standAt ?_)
    refine seg_bind_wrap ?_
    rw [ov]
    rcases turn i m H w with ⟨stop, q⟩ | ⟨go, Nx, hNx, step⟩
    · refine thnF (T.done Z rfl rfl rfl hc i [] s σ0 H (fun _ _ => False) I (stat I nfp) st stop) fun r s1 ⟨hr, I1⟩ => ?_
      subst hr
      exact seg_end (.ok .next) (.inl ⟨.inr rfl, H, I1, q⟩)
    · refine thnF (T.item Z rfl rfl rfl hc i [] s σ0 H (fun _ _ => False) I (stat I nfp) st go) fun r s1 ⟨u, hr, h1⟩ => ?_
      subst hr
      refine seg_bind_wrap ?_
      rw [ov]
      refine thnF h1 fun _ s2 ⟨x, H2, I2, r2, y2, st2, n2⟩ => ?_
      have I2' := I2.pinned (stat I2 n2) (T.obj _ _ st2)
      refine seg_bind_wrap ?_
      rw [ov]
      refine wpAny_mono (pg.run _ s2 _ H2 x u _ I2' r2 (step x H2 y2)) (fun _ s3 ⟨σ3, H3, I3, hw3, q3⟩ => ?_) fun e s' z => (hxe e s' z).elim
      refine seg_bind_wrap (wpAny_tests_nil ?_)
      simp only [if_true]
      have hy : ∀ v, yieldOut Z.env v = yieldValue v := fun v => by simp only [yieldOut, hco, Bool.false_eq_true, if_false]
      simp only [hy]
      rw [Sem.bind_eq_wrap', Sem.bind_eq_wrap', Sem.wrap_wrap, Sem.wrap_wrap]
      refine seg_wrap ?_
      rw [ov]
      refine wpAny_mono (pe.run _ s3 σ3 H3 _ I3 q3) (fun z s4 ⟨yv, H4, I4, r4, b, eb, q4⟩ => ?_) fun e s' z => (hxe e s' z).elim
      subst eb
      obtain rfl : z = Value.bool b := r4
      have pin' : ∀ b ∈ fp, ∀ o, s2.heap.get? b = some o → s4.heap.get? b = some o ∧ H4 b = none := fun b hb o e =>
        let z := I4.pin (b, o) (List.mem_append_right _ (List.mem_append_right _ (mem_pinsAt hb e)))
        ⟨z.1, z.2.1⟩
      have I5 : Inv Z [] σ0 H4 s4 := (I4.unpinned (pins := [])).weak (hl σ3 hw3) (hσ σ3 hw3)
      refine seg_at (seg_yield rfl rfl rfl ⟨b, rfl, ⟨H4, I5, fun hb => by subst hb; simpa using q4⟩, fun hb s' wk => ?_⟩)
      subst hb
      obtain ⟨m', hm, w'⟩ := hNx H4 (by simpa using q4)
      have I6 : Inv Z [] σ0 H4 s' := I5.call' (ch := []) wk.os (Un.kept wk.keep) (I5.hok.kept wk.keep) wk.bare fun b hb => absurd hb (by simp)
      refine seg_again rfl (ih m' hm n (i + 1) s' s' H4 (by omega) I6 (T.keep _ _ _ st2 fun b hb o e => wk.keep b o (pin' b hb o e).1) (fun b hb => ?_) w')
      obtain ⟨o, e, _⟩ := T.obj _ _ st2 b hb
      exact (pin' b hb o e).2

theorem seg_gstart (hA : A.deeper Z.env = Z.A) (hc : Z.calm = true) (hxe : ∀ e s, ¬ Z.xe e s) (hco : Z.env.scope.isCoroutine = false) (T : Turn Z.prog Z.w Z.K tg J fp it tn) (pg : PG Z tg g) (pe : PE Z elt te)
    (hσ : ∀ σ2 : L2.St, wipe σ2 vs = σ0 → ∀ (i : Nat) v, σ0[i]? = some (some v) → σ2[i]? = some (some v)) (hl : ∀ σ2 : L2.St, wipe σ2 vs = σ0 → σ0.length = σ2.length)
    (stat : ∀ {σ' : L2.St} {H' : Hp} {s' : Shared}, Inv Z [] σ' H' s' → (∀ b ∈ fp, H' b = none) → ∀ b ∈ fp, FpOk Z [] H' b)
    (turn : ∀ i m H, W i m H → (J.stop i H ∧ QT H) ∨ (J.go i H ∧ ∃ Nx : Hp → Prop, (∀ H', Nx H' → ∃ m', m' < m ∧ W (i + 1) m' H') ∧ ∀ x H', J.yld i H x H' → g x σ0 H' fun σ2 H2 => wipe σ2 vs = σ0 ∧
      te σ2 H2 fun y H4 => ∃ b, y = .bl b ∧ (if b = true then Nx H4 else QF H4))) (m n : Nat) (s₀ s : Shared) (H : Hp) (hmn : m < n) (I : Inv Z [] σ0 H s) (st : tn 0 s.heap) (nfp : ∀ b ∈ fp, H b = none) (w : W 0 m H) :
      Seg (model Z.prog Z.w) A (RB fun s => ∃ H', Inv Z [] σ0 H' s ∧ QT H') (YB fun b s => ∃ H', Inv Z [] σ0 H' s ∧ (b = false → QF H')) n s₀
        (.compStart (.GeneratorExp elt [⟨tg, iter, [], 0⟩] scope gpos) 0 (.ref it) .none Z.env)
        ((model Z.prog Z.w).den (.compStart (.GeneratorExp elt [⟨tg, iter, [], 0⟩] scope gpos) 0 (.ref it) .none Z.env)) [] s := by
  have loop := seg_gloop (iter := iter) (scope := scope) (gpos := gpos) hA hc hxe hco T pg pe hσ hl stat turn m n 0 s₀ s H hmn I st nfp w
  show Seg _ A _ _ _ s₀ _ ((compStart (.GeneratorExp elt [⟨tg, iter, [], 0⟩] scope gpos) 0 (.ref it) .none Z.env).onRaise (leaving Z.env)) [] s
  unfold compStart
  rw [Sem.onRaise_eq_wrap]
  show Seg _ A _ _ _ s₀ _ ((ask >>= _).wrap _ _ _ _) [] s
  refine seg_bind_wrap (wpAny_askSetting ?_)
  split
  · exact seg_again rfl loop
  · first
      | exact seg_bind_wrap (wpAny_rule (seg_bind_wrap (wpAny_standAt (seg_bind_wrap (T.self _ 0 s _ _ st (seg_again rfl loop))))))
      | (refine seg_bind_wrap (wpAny_rule ?_); show Seg _ A _ _ _ s₀ _ ((standAt iter.pos >>= _).wrap _ _ _ _) [] s; exact seg_bind_wrap (wpAny_standAt (seg_bind_wrap (T.self _ 0 s _ _ st (seg_again rfl loop)))))
/-- only the table of generators, the tokens and what was drawn are others; the heap has grown -/
theorem inv_wk {H : Hp} {s s' : Shared} (I : Inv Z [] σ0 H s) (wk : Wk s s') : Inv Z [] σ0 H s' :=
  I.call' (ch := []) wk.os (Un.kept wk.keep) (I.hok.kept wk.keep) wk.bare fun b hb => absurd hb (by simp)
/-! ### who asks: all, any -/
theorem all_loop {A : Around} {a : Addr} {gi : Nat} (hh : A.handled = none) (hd : A.depth < recursionLimit) (hgen : ∀ {H : Hp} {s : Shared}, Inv Z [] σ0 H s → s.heap.IsGen a gi) :
    ∀ (n : Nat) (s : Shared) (gs : GenState) (H : Hp), Inv Z [] σ0 H s → s.gens[gi]? = some gs →
      gs.Goes (model Z.prog Z.w) A.in1.in1 (RB fun s => ∃ H', Inv Z [] σ0 H' s ∧ QT H') (YB fun b s => ∃ H', Inv Z [] σ0 H' s ∧ (b = false → QF H')) n (.send .none) (s.setGen gi .running) →
      codeAny (model Z.prog Z.w) A (.builtin "all.loop" ⟨[.ref a], []⟩) (fun r s' => ∃ b H', r = .ok (.ret (.bool b)) ∧ Inv Z [] σ0 H' s' ∧ (if b = true then QT H' else QF H')) s := by
  intro n
  induction n with
  | zero =>
    intro s gs H I hgs hgo
    refine codeAny_builtin F.entry_all_loop ?_
    rw [Around.under_plainId F.plain_all_loop _]
    show wpAny _ A.in1 (pyNext (.ref a) >>= _) _ _ s
    refine wpAny_bind (next_genG (F := fun _ _ s => ∃ H', Inv Z [] σ0 H' s ∧ QT H') (Er := fun _ _ => False) hh I.nolimit hd (hgen I) hgs hgo (fun v s₁ gs' hb hv => ?_) (fun s₁ hp h' hk => ?_) fun _ _ z => z.elim)
    · obtain ⟨b, rfl, ⟨H1, I1, q1⟩, nx⟩ := hv
      refine wpAny_bind (wpAny_holding (wpAny_truthy_bool ?_))
      refine wpAny_bind (wpAny_letGo ?_)
      cases b with
      | true => exact (nx rfl s₁ ⟨rfl, I1.bare, fun _ _ e => e⟩).elim
      | false =>
        first
          | exact wpAny_pure ⟨false, H1, rfl, inv_wk I1 ⟨rfl, allBare_setGen I1.bare hb, fun _ _ e => e⟩, by simpa using q1 rfl⟩
          | (simp only [Bool.false_eq_true, if_false]; exact wpAny_pure ⟨false, H1, rfl, inv_wk I1 ⟨rfl, allBare_setGen I1.bare hb, fun _ _ e => e⟩, by simpa using q1 rfl⟩)
          | (simp only [Bool.false_eq_true, if_false]; exact wpAny_bind (wpAny_rule (wpAny_pure ⟨false, H1, rfl, inv_wk I1 ⟨rfl, allBare_setGen I1.bare hb, fun _ _ e => e⟩, by simpa using q1 rfl⟩)))
    · obtain ⟨H1, I1, q1⟩ := hp
      refine wpAny_bind (wpAny_rule (wpAny_pure ⟨true, H1, rfl, inv_wk I1 ⟨rfl, allBare_setGen I1.bare rfl, hk⟩, by simpa using q1⟩))
  | succ n ih =>
    intro s gs H I hgs hgo
    refine codeAny_builtin F.entry_all_loop ?_
    rw [Around.under_plainId F.plain_all_loop _]
    show wpAny _ A.in1 (pyNext (.ref a) >>= _) _ _ s
    have hsz : gi + 1 ≤ s.gens.size := by
      rcases Nat.lt_or_ge gi s.gens.size with h | h
      · exact h
      · rw [Array.getElem?_eq_none h] at hgs; cases hgs
    refine wpAny_bind (wpAny_gsz hsz (next_genG (F := fun _ _ s => ∃ H', Inv Z [] σ0 H' s ∧ QT H') (Er := fun _ _ => False) hh I.nolimit hd (hgen I) hgs hgo (fun v s₁ gs' hb hv => fun hs1 => ?_) (fun s₁ hp h' hk => fun _ => ?_) fun _ _ z => z.elim))
    · obtain ⟨b, rfl, ⟨H1, I1, q1⟩, nx⟩ := hv
      refine wpAny_bind (wpAny_holding (wpAny_truthy_bool ?_))
      refine wpAny_bind (wpAny_letGo ?_)
      have hs1' : gi < s₁.gens.size := by
        rw [setGen_size] at hs1
        exact hs1
      cases b with
      | true =>
        simp only [if_true]
        refine wpAny_pure ⟨plainId_quiet F.plain_all_loop _, ih _ gs' H1 (inv_wk I1 ⟨rfl, allBare_setGen I1.bare hb, fun _ _ e => e⟩) (setGen_at hs1') ?_⟩
        exact nx rfl _ ⟨rfl, allBare_setGen (allBare_setGen I1.bare hb) rfl, fun _ _ e => e⟩
      | false =>
        first
          | exact wpAny_pure ⟨false, H1, rfl, inv_wk I1 ⟨rfl, allBare_setGen I1.bare hb, fun _ _ e => e⟩, by simpa using q1 rfl⟩
          | (simp only [Bool.false_eq_true, if_false]; exact wpAny_pure ⟨false, H1, rfl, inv_wk I1 ⟨rfl, allBare_setGen I1.bare hb, fun _ _ e => e⟩, by simpa using q1 rfl⟩)
          | (simp only [Bool.false_eq_true, if_false]; exact wpAny_bind (wpAny_rule (wpAny_pure ⟨false, H1, rfl, inv_wk I1 ⟨rfl, allBare_setGen I1.bare hb, fun _ _ e => e⟩, by simpa using q1 rfl⟩)))
    · obtain ⟨H1, I1, q1⟩ := hp
      refine wpAny_bind (wpAny_rule (wpAny_pure ⟨true, H1, rfl, inv_wk I1 ⟨rfl, allBare_setGen I1.bare rfl, hk⟩, by simpa using q1⟩))
end

section
variable {X : Cx} {tg iter elt : Expr} {scope : Scope} {gpos p pos : Pos} {wi : TI} {g : TG} {te : TE} {own : List (Str × Nat)} {c P : Addr} {k : Nat}
/-- all(elt for target in iter): W by the turn and a measure, Nx what a turn is to reach -/
def tAll (P : Addr) (wi : TI) (g : TG) (te : TE) (vs : List Nat) : TE := fun σ H Q => wi σ H fun J H1 => TabG H1 P ∧ ∀ H2, Tabbed P H1 H2 → ∃ W : Nat → Nat → Hp → Prop, (∃ m, W 0 m H2) ∧ ∀ i m H, W i m H →
  (J.stop i H ∧ Q (.bl true) H) ∨ (J.go i H ∧ ∃ Nx : Hp → Prop, (∀ H', Nx H' → ∃ m', m' < m ∧ W (i + 1) m' H') ∧ ∀ x H', J.yld i H x H' → g x (wipe σ vs) H' fun σ2 H2 => wipe σ2 vs = wipe σ vs ∧
    te σ2 H2 fun y H4 => ∃ b, y = .bl b ∧ (if b = true then Nx H4 else Q (.bl false) H4))
theorem wipe_wipe {σ σ2 : L2.St} {vs : List Nat} (h : wipe σ2 vs = wipe σ vs) : (∀ (i : Nat) v, (wipe σ vs)[i]? = some (some v) → σ2[i]? = some (some v)) ∧ (wipe σ vs).length = σ2.length := by
  refine ⟨fun i v e => ?_, ?_⟩
  · rw [← h] at e
    exact (wipe_some e).1
  · rw [← h, wipe_length]
theorem pe_all (hr : Room (k + 1) X.A) (hc : X.calm = true) (hN : X.N.Nodup) (hg : Gl X "all") (hm : X.mg "all" = none) (hb : bootBuiltins "all" = some (.builtin "all")) (TB : LamX.TabB X.base X.mg c P) (hcode : X.env.code = .ref c) (hi : PI X tg iter wi) (ok : GenOk X.N X.env.scope scope own)
    (hpg : ∀ (s : Shared) (H : Hp) (C : Addr) (code : Value) (fp : List Addr) (pn : List (Addr × Obj)), PG (gen X (X.A.in1.in1.deeper (genv X scope C code)) s H (genv X scope C code) fp pn) tg g)
    (hpe : ∀ (s : Shared) (H : Hp) (C : Addr) (code : Value) (fp : List Addr) (pn : List (Addr × Obj)), Room k (X.A.in1.in1.deeper (genv X scope C code)) → PE (gen X (X.A.in1.in1.deeper (genv X scope C code)) s H (genv X scope C code) fp pn) elt te)
    (hs : ∀ v, genFold iter X.env v = pure v := by intro _; rfl)
    (he : starEach [.GeneratorExp elt [⟨tg, iter, [], 0⟩] scope gpos] X.env = (false, eval (.GeneratorExp elt [⟨tg, iter, [], 0⟩] scope gpos) X.env) :: starEach [] X.env := by rfl) :
    PE X (.Call (.Name "all" p) [.GeneratorExp elt [⟨tg, iter, [], 0⟩] scope gpos] [] pos) (tAll P wi g te (own.map (·.2))) := by
  refine ⟨fun pins s σ H Q I h => ?_⟩
  refine wpAny_Call_Name_kw (ld_blt I hg hm hb ?_)
  refine PyProof.Rows.callWith_builtin1 ?_ he (by rfl)
  rw [he]
  show wpAny _ _ (spliced ((false, eval (.GeneratorExp elt [⟨tg, iter, [], 0⟩] scope gpos) X.env) :: backTo pos (starEach [] X.env))) _ _ s
  refine Calls.spliced_cons ?_
  have hfree : ∀ y ∈ scope.names, y.2 = .free → ∃ c, X.env.cells.lookup y.1 = some c := fun y hy e => by
    rcases ok.blk.free y hy e with k | k
    · exact I.ok.has _ (.inl k)
    · exact I.ok.has _ (.inr k)
  refine wpAny_GeneratorExp_make ok.co (closure_ok hfree) ok.cell ok.dot ok.blk.kind hr.depth ?_ hs
  refine thn (hi.run pins s σ H _ I h) fun xv s1 h1 => thn h1 fun itv s2 h2 => ?_
  obtain ⟨it, fp, tn, J, H2, rfl, I2, T, st2, f2, tab2, q2⟩ := h2
  refine ⟨I2.nolimit, ?_⟩
  refine gcode TB hcode I2 tab2 fun code s3 H3 tb3 I3 sz3 kp3 => ?_
  refine gblt TB I3 ?_
  intro h' hn' hs'
  have nP : ∀ b, H2 b = none → b ≠ P := fun b e z => by
    obtain ⟨ps, e2, _⟩ := tab2
    rw [z, e2] at e
    cases e
  have f3 : ∀ b ∈ fp, FpOk X pins H3 b ∧ b < s3.heap.objs.size := fun b hb => by
    obtain ⟨o, e, _⟩ := T.obj _ _ st2 b hb
    have hP := nP b (f2 b hb).1
    refine ⟨⟨by rw [tb3.2 b hP]; exact (f2 b hb).1, (f2 b hb).2⟩, Heap.lt_size (kp3 b o hP e)⟩
  have st3 : tn 0 s3.heap := T.keep _ _ _ st2 fun b hb o e => kp3 b o (nP b (f2 b hb).1) e
  have hsz : h'.objs.size = s3.heap.objs.size + 1 := by rw [hs'.1, Heap.size_push]
  have keep' : ∀ b o, s3.heap.get? b = some o → h'.get? b = some o := fun b o e => hs'.extBut b o (Nat.ne_of_lt (Heap.lt_size e)) (Heap.get?_push_of_some _ e)
  generalize hgo : ({ cls := .type "generator", data := .fields #[.int s3.gens.size 0, .str "<genexpr>" (s3.toks + 1), .str (X.env.qual ++ "<genexpr>") (s3.toks + 1 + 1)] } : Obj) = go
  have hgoc : go.cls = .type "generator" ∧ go.data = .fields #[.int s3.gens.size 0, .str "<genexpr>" (s3.toks + 1), .str (X.env.qual ++ "<genexpr>") (s3.toks + 1 + 1)] ∧ go.slots = #[] := by rw [← hgo]; exact ⟨rfl, rfl, rfl⟩
  have hpush : (h'.push go).get? h'.objs.size = some go := by rw [← hgo]; exact Heap.get?_push_size _ rfl
  generalize hgi : s3.gens.size = gi at hgoc
  obtain ⟨W, ⟨m0, w0⟩, turn⟩ := q2 H3 tb3
  generalize hs5 : ({ s3 with gens := s3.gens.push (.fresh (.compStart (.GeneratorExp elt [⟨tg, iter, [], 0⟩] scope gpos) 0 (.ref it) .none (genEnv scope (cloFrom X.env.cells scope.names []) s3.heap.objs.size code builtinsNs X.env))), toks := s3.toks + 1 + 1 + 1, heap := h'.push go } : Shared) = s5
  have e5h : s5.heap = h'.push go := by rw [← hs5]
  have kp5 : ∀ b o, s3.heap.get? b = some o → s5.heap.get? b = some o := fun b o e => by rw [e5h]; exact Heap.get?_push_of_some _ (keep' b o e)
  have hns5 := hn'.push go
  rw [← e5h] at hns5
  have b5 : AllBare s5.gens := by rw [← hs5]; exact I3.bare.push rfl
  have os5 : s5.os = s3.os := by rw [← hs5]
  have g5 : s5.gens[gi]? = some (.fresh (.compStart (.GeneratorExp elt [⟨tg, iter, [], 0⟩] scope gpos) 0 (.ref it) .none (genv X scope s3.heap.objs.size code))) := by
    rw [← hs5, ← hgi]
    exact Array.getElem?_push_size ..
  have ha : s3.heap.objs.size < h'.objs.size := by rw [hsz]; exact Nat.lt_succ_self _
  have I5 := gen_start (code := code) (s5 := s5) I3 ok hN (show X.A.in1.in1.frames = some X.stack from I.ok.frames) (show X.A.in1.in1.handled = none from I.ok.hd hc) f3 kp5 hns5 os5 b5 ha (by rw [e5h]; exact hpush) (fun v q => by rw [hgoc.2.1] at q; cases q)
  have st5 : tn 0 s5.heap := T.keep _ _ _ st3 fun b _ o e => kp5 b o e
  have pg := hpg s3 H3 s3.heap.objs.size code fp [(h'.objs.size, go)]
  have pe := hpe s3 H3 s3.heap.objs.size code fp [(h'.objs.size, go)] ⟨hr.hd, by have := hr.dp; show X.A.depth + 1 + 3 * k + 5 < _; omega, by have := hr.un; show X.A.units + 1 + 1 + 3 + 16 * k + 200 < _; omega⟩
  generalize hZ : gen X (X.A.in1.in1.deeper (genv X scope s3.heap.objs.size code)) s3 H3 (genv X scope s3.heap.objs.size code) fp [(h'.objs.size, go)] = Z at I5 pg pe
  have zp : Z.prog = X.prog := by rw [← hZ]
  have zw : Z.w = X.w := by rw [← hZ]
  have zK : Z.K = X.K := by rw [← hZ]
  have ze : Z.env = genv X scope s3.heap.objs.size code := by rw [← hZ]
  have stat : ∀ {σ' : L2.St} {H' : Hp} {s' : Shared}, Inv Z [] σ' H' s' → (∀ b ∈ fp, H' b = none) → ∀ b ∈ fp, FpOk Z [] H' b := fun {σ' H' s'} I' hn b hb => by
    have hx : Z.ex = fp := by rw [← hZ]
    have hb' : b ∈ Z.ex := by rw [hx]; exact hb
    refine ⟨hn b hb, (I'.ok.exf b hb').1, I'.ok.exfs b hb', .inl hb', fun x c e => (I'.ok.exf b hb').2 x c e, fun p hp => ?_⟩
    have hpn : Z.pn = [(h'.objs.size, go)] := by rw [← hZ]
    rw [hpn] at hp
    have e : p = (h'.objs.size, go) := by simpa using hp
    rw [e]
    exact Nat.ne_of_gt (Nat.lt_trans (f3 b hb).2 ha)
  have hσ : ∀ σ2 : L2.St, wipe σ2 (own.map (·.2)) = wipe σ (own.map (·.2)) → ∀ (i : Nat) v, (wipe σ (own.map (·.2)))[i]? = some (some v) → σ2[i]? = some (some v) := fun σ2 e => (wipe_wipe e).1
  have hl : ∀ σ2 : L2.St, wipe σ2 (own.map (·.2)) = wipe σ (own.map (·.2)) → (wipe σ (own.map (·.2))).length = σ2.length := fun σ2 e => (wipe_wipe e).2
  have T' : Turn Z.prog Z.w Z.K tg J fp it tn := by rw [zp, zw, zK]; exact T
  have hgen : ∀ {H : Hp} {s : Shared}, Inv Z [] (wipe σ (own.map (·.2))) H s → s.heap.IsGen h'.objs.size gi := fun {H s} J => by
    have hpn : Z.pn = [(h'.objs.size, go)] := by rw [← hZ]
    have q := (J.pin (h'.objs.size, go) (by rw [hpn]; simp)).1
    exact ⟨go, _, _, q, hgoc.1, hgoc.2.1, hgoc.2.2⟩
  refine Calls.spliced_nil ?_
  refine call_function_tree F.kind_all F.plain_all F.entry_all (F.args_all1 _) ?_
  unfold Builtin.«all»
  refine wpAny_bind (m := oneArg "all" _) (wpAny_pure ?_)
  refine wpAny_bind (wpAny_pyIter_gen (s := s5) (hgen I5) ?_)
  refine wpAny_pure ⟨plainId_quiet F.plain_all_loop _, ?_⟩
  have seg := seg_gstart (A := X.A.in1.in1) (Z := Z) (iter := iter) (scope := scope) (gpos := gpos) (QT := Q (.bl true)) (QF := Q (.bl false)) (by rw [ze, ← hZ]) (by rw [← hZ]; exact hc) (fun e s z => by rw [← hZ] at z; exact z) (by rw [ze]; exact ok.co) T' pg pe hσ hl stat turn m0 (m0 + 1) (s5.setGen gi .running) (s5.setGen gi .running) H3
    (Nat.lt_succ_self _) (inv_wk I5 ⟨rfl, allBare_setGen b5 rfl, fun _ _ e => e⟩) st5 (fun b hb => (f3 b hb).1.1) w0
  have loop := all_loop (A := X.A) (Z := Z) (QT := Q (.bl true)) (QF := Q (.bl false)) (a := h'.objs.size) (gi := gi) hr.hd hr.depth hgen (m0 + 1) s5 _ H3 I5 g5 ⟨rfl, by rw [ze] at seg; exact seg⟩
  rw [zp, zw] at loop
  refine codeAny_mono loop fun r s' hq => ?_
  obtain ⟨b, H', rfl, I6, q6⟩ := hq
  have u6 : Un (frs X.stack) fp H3 H' s3.heap s'.heap := by
    have := I6.base
    rw [← hZ] at this
    exact this
  have o6 : s'.os = s3.os := by
    have := I6.os
    rw [← hZ] at this
    exact this
  have k6 : HOk X.prog X.w H' s'.heap := by
    have := I6.hok
    rw [zp, zw] at this
    exact this
  refine ⟨.bl b, H', I3.call' (ch := fp) o6 u6 k6 I6.bare fun b hb => ⟨(f3 b hb).1.2.2.2.1, (f3 b hb).1.2.1, (f3 b hb).1.2.2.2.2.1, (f3 b hb).1.2.2.2.2.2⟩, rfl, ?_⟩
  cases b with
  | true => simpa using q6
  | false => simpa using q6
end

/-- a reading of all(..) over what a Walk walks: Pv by the turn and the heap -/
theorem all_it {J : It} {n : Nat} {G : Hp → Prop} {Y : Nat → Hp → V → Hp → Prop} (w : Walk J n G Y) {g : TG} {te : TE} {vs : List Nat} {σ : L2.St} {H2 : Hp} {QT QF : Hp → Prop} (Pv : Nat → Hp → Prop) (h0 : Pv 0 H2) (hG : ∀ i H, i ≤ n → Pv i H → G H)
    (hs : ∀ i x H H', i < n → Pv i H → Y i H x H' → g x (wipe σ vs) H' fun σ2 H2 => wipe σ2 vs = wipe σ vs ∧ te σ2 H2 fun y H4 => ∃ b, y = .bl b ∧ (if b = true then Pv (i + 1) H4 else QF H4)) (hd : ∀ H, Pv n H → QT H) :
    ∃ W : Nat → Nat → Hp → Prop, (∃ m, W 0 m H2) ∧ ∀ i m H, W i m H →
      (J.stop i H ∧ QT H) ∨ (J.go i H ∧ ∃ Nx : Hp → Prop, (∀ H', Nx H' → ∃ m', m' < m ∧ W (i + 1) m' H') ∧ ∀ x H', J.yld i H x H' → g x (wipe σ vs) H' fun σ2 H2 => wipe σ2 vs = wipe σ vs ∧
        te σ2 H2 fun y H4 => ∃ b, y = .bl b ∧ (if b = true then Nx H4 else QF H4)) := by
  refine ⟨fun i m H => m = n - i ∧ i ≤ n ∧ Pv i H, ⟨n, rfl, Nat.zero_le _, h0⟩, ?_⟩
  rintro i m H ⟨rfl, hi, p⟩
  have q := hG i H hi p
  by_cases hlt : i < n
  · refine .inr ⟨w.goes i H hlt q, Pv (i + 1), fun H' p' => ⟨n - (i + 1), by omega, rfl, hlt, p'⟩, fun x H' y => hs i x H H' hlt p (w.yields i H x H' hlt q y)⟩
  · have e : i = n := by omega
    subst e
    exact .inl ⟨w.stops H q, hd H p⟩
/-- a def of the text whose code object stands at c -/
structure FunC (K : PySem.W.Frag) (x qual : Str) (st : Stmt) (f : Addr) (fd : FuncData) (c : Addr) : Prop where
  ex : ∃ (oc : Value) (od : Option Addr) (kV doc pm : Value) (an : Option Addr) (ct : Value) (osl : Array (Option Value)),
    fd = PySem.W.fnOf x qual (defArgs st) (defBody st) (defScope st) .none kV doc pm an (.ref c) ct ∧ K.lookup f = some ⟨oc, od, .func fd, osl⟩ ∧ PySem.W.codeIn K (.ref c) qual = true
  kp : PySem.W.keepIn K (.ref f) = true
section
variable {P : Program} {w : World} {K : PySem.W.Frag} {mg : Str → Option Value} {base : Heap}
theorem FunC.ok {x qual : Str} {st : Stmt} {f c : Addr} {fd : FuncData} {N ps : List Str} {k : Nat} {sp : Sp} (F : FunC K x qual st f fd c) (S : FnScope N ps (defScope st)) (len : ∀ vs H Q E, sp vs H Q E → vs.length = ps.length)
    (hbody : ∀ (A : Around) (outer : List Env) (s : Shared) (H : Hp) (vs : List V) (Q : VK) (E : XK), Room k (A.deeper (envOfC qual (defScope st) s.heap.objs.size f (.ref c))) → sp vs H Q E →
      ∃ t, PSs (cxOf CX0 P w K mg base N qual (defScope st) f (.ref c) A outer s H E).nox (defBody st) t ∧ t { nx := fun _ H' => Q .non H', rt := Q } (start N vs) H) : FnOk P w K mg base CX0 (k + 1) f fd ps sp := by
  obtain ⟨oc, od, kV, doc, pm, an, ct, osl, rfl, lk, hcd⟩ := F.ex
  refine fn_of lk hcd S len fun A outer s H vs Q E hr hsp => ?_
  obtain ⟨t, h, q⟩ := hbody A outer s H vs Q E hr hsp
  exact ⟨t, h.nox, q⟩
theorem FunC.binds {x qual : Str} {st : Stmt} {f c : Addr} {fd : FuncData} {ps : List Str} (F : FunC K x qual st f fd c)
    (h : ∀ (kV doc pm : Value) (an : Option Addr) (cdv ct : Value) (us : List Value), us.length = ps.length → bindArgs (PySem.W.fnOf x qual (defArgs st) (defBody st) (defScope st) .none kV doc pm an cdv ct) ⟨us, []⟩ = pure (ps.zip us)) : Binds K fd ps [] := by
  obtain ⟨oc, od, kV, doc, pm, an, ct, osl, rfl, lk, hcd⟩ := F.ex
  exact .all (h kV doc pm an (.ref c) ct)
theorem func_mk {x qual : Str} {st : Stmt} {f c : Addr} {oc : Value} {od an : Option Addr} {osl : Array (Option Value)} {kV doc pm ct : Value} (l : K.lookup f = some ⟨oc, od, .func (PySem.W.fnOf x qual (defArgs st) (defBody st) (defScope st) .none kV doc pm an (.ref c) ct), osl⟩)
    (k1 : PySem.W.codeIn K (.ref c) qual = true) (k : PySem.W.keepIn K (.ref f) = true) : FunC K x qual st f (PySem.W.fnOf x qual (defArgs st) (defBody st) (defScope st) .none kV doc pm an (.ref c) ct) c := ⟨⟨oc, od, kV, doc, pm, an, ct, osl, rfl, l, k1⟩, k⟩
end
/-! ### the end of a law whose defs hold generator expressions -/
def GTab (q : Program) (K : PySem.W.Frag) (h : Heap) : Prop := ∀ (x : Str) (c P : Addr), ((recsOf q).find? fun e => e.name == x).isSome = true → PySem.W.tabIn K x = some (c, P) → PySem.W.CodeHd h c P ∧ h.get? P = some { cls := .none, data := .fields #[] }
theorem tab_by {K : PySem.W.Frag} {x : Str} {f c P : Addr} {oc oq : Value} {od dq : Option Addr} {fd : FuncData} {sl sq : Array (Option Value)} {vq : Array Value} (a : PySem.W.nsIn K mainGlobals x = some (some (.ref f))) (l : K.lookup f = some ⟨oc, od, .func fd, sl⟩) (e : fd.code = .ref c) (q : K.lookup c = some ⟨oq, dq, .fields vq, sq⟩) (v : vq[11]? = some (.ref P)) : PySem.W.tabIn K x = some (c, P) := by
  unfold PySem.W.tabIn
  rw [a]
  simp only [l, e, q, v]
theorem walk_ofG {l : PySem.W.OpenLaw} {n k : Nat} {q : Program} {loose : List Str} {XP : (Str → Option Value) → Heap → Prop} {YP : World → Heap → Prop} {d : DefRec} {K : Params → PySem.W.Frag} {CX : World → CXT} {x : Str}
    (hn : l.most = some n) (hn2 : n ≤ sizeLine) (hdf : d.params.defaults = []) (hr : Room k callerA) (hY : ∀ (w : World) (h : Heap), YP w h → (K w.params).In h)
    (F : ∀ (w : World) (mg : Str → Option Value) (fa : Addr) (h : Heap), YP w h → (K w.params).In h → h.Ns mainGlobals mg → mg d.name = some (.ref fa) → GTab q (K w.params) h → LamX.LawAtS l w (K w.params) (CX w) k n x mg fa h)
    (hCX : ∀ (w : World) (H : Hp) (s : Shared) (e : Value) (s' : Shared), CX w [] H s (fun _ _ _ => False) e s' → False) :
    PySem.W.WalkO q loose XP YP l.row.toRowW d [] (fun f vs => PySem.call f vs) := by
  refine Att.attach_callB hn hdf fun w s₀ s₁ mg mb fa o pm cd doc a vs ns G Y ho hd hcd hmg hobj hints hlen hbits hg => ?_
  have KX := hY w _ Y
  have gt : GTab q (K w.params) s₁.heap := fun x c P hr ht => by
    obtain ⟨d2, hd2⟩ := Option.isSome_iff_exists.mp hr
    exact PySem.W.tab_of (mb := mb) G.T KX hd2 ht
  obtain ⟨fd, cs, sp, hT, nT, C, hb, hsp, hF⟩ := F w mg fa _ Y KX G.T.g hmg gt
  exact LamX.law_callTs KX G.T.g G.T.b G.T.builtins G.T.nolimit hg hT nT C G.T.bmain hobj hints (Nat.le_trans hlen hn2) hr hF hb (fun H hH hS => hsp H a ns hlen hbits hH hS) fun H e s' => hCX w H s₁ e s'
end GA

set_option Elab.async false
set_option linter.all false
set_option maxRecDepth 100000
/-! a dict of the module's top with text keys: d.get(k, x), d[k], k in d -/
namespace KDx
open PySem PySem.Spec PyProof.Rows L2
section
variable {X : Cx} {o e f : Expr} {apos cpos : Pos} {td ty tx : TE}
def tKGet2 (K : PySem.W.Frag) (w : World) (td ty tx : TE) : TE := fun σ H Q => td σ H fun x H1 => ∃ d es n, x = .ref d ∧ KDict K w d es n ∧ ty σ H1 fun y H2 => tx σ H2 fun z H3 => ∃ (q : Str) (r : Option Value), y = .str q ∧ PySem.W.nsIn K d q = some r ∧
  (r = none → Q z H3) ∧ (∀ u, r = some u → ∃ v, RelV v u ∧ Q v H3)
theorem pe_kget2 (ho : PE X o td) (he : PE X e ty) (hf : PE X f tx) (m : M2 X o "get" apos e f cpos := by exact ⟨rfl, rfl, rfl, rfl⟩) : PE X (.Call (.Attribute o "get" apos) [e, f] [] cpos) (tKGet2 X.K X.w td ty tx) := by
  refine ⟨fun pins s σ H Q I h => ?_⟩
  refine wpAny_Call_method m.base m.few m.line PySem.F.plainAttrs_dict PySem.F.slot_dict_get PySem.F.type_dict_get (thn (ho.run pins s σ H _ I h) fun u s1 ⟨x, H1, I1, rx, d, es, n, ex, D, q1⟩ => ?_)
  subst ex
  obtain rfl : u = Value.ref d := rx
  have hm1 := PySem.W.mapOf_K (prog := X.prog) (w := X.w) I1.kIn D.at_ D.lit
  refine ⟨hm1.typeIs, fun b e => by cases e; exact ⟨_, I1.kIn _ _ D.at_, rfl⟩, ?_⟩
  rw [m.trees]
  refine Calls.callWith_builtin rfl (Calls.evalArgs_plain (Calls.spliced_cons (thn (he.run pins s1 σ H1 _ I1 q1) fun iv s2 ⟨y, H2, I2, ry, q2⟩ =>
    Calls.spliced_cons (thn (hf.run pins s2 σ H2 _ I2 q2) fun fv s3 ⟨z, H3, I3, rz, q, r, ey, er, qn, qs⟩ => Calls.spliced_nil ?_))))
  subst ey
  obtain ⟨t, rfl⟩ := ry
  have hm := PySem.W.mapOf_K (prog := X.prog) (w := X.w) I3.kIn D.at_ D.lit
  refine call_meetsIn PySem.F.slot_dict_get hm.typeIs PySem.F.entry_dict_get (PySem.F.args_dict_get_3 _ _ _) (meets_dict_get_default (strKind X.prog X.w) d (strKind_is X.prog X.w q t) D.low fv) ⟨_, hm, ?_⟩
  rw [PySem.W.find_K D.at_ er]
  cases r with
  | none => exact ⟨z, H3, I3.tok _, rz, qn rfl⟩
  | some u =>
    obtain ⟨v, rv, qv⟩ := qs u rfl
    exact ⟨v, H3, I3.tok _, rv, qv⟩
end
/-- what d.get(x, dflt) gives for each x of the list -/
def getB (K : PySem.W.Frag) (a : Addr) (dflt : Int) (l : List (Str × Int)) : Bool := l.all fun q => match PySem.W.nsIn K a q.1 with
  | some none => q.2 == dflt
  | some (some (.int i _)) => i == q.2
  | _ => false
theorem getB_ok {K : PySem.W.Frag} {a : Addr} {dflt : Int} {l : List (Str × Int)} (h : getB K a dflt l = true) {x : Str} {v : Int} (hx : (x, v) ∈ l) : ∃ r, PySem.W.nsIn K a x = some r ∧ (r = none → v = dflt) ∧ (∀ u, r = some u → RelV (.int v) u) := by
  have q := List.all_eq_true.mp h _ hx
  dsimp only at q
  split at q
  · rename_i e
    exact ⟨none, e, fun _ => by simpa using q, fun u z => by cases z⟩
  · rename_i i t e
    refine ⟨_, e, fun z => (by cases z), fun u z => ?_⟩
    cases z
    have : i = v := by simpa using q
    subst this
    exact ⟨t, rfl⟩
  · cases q
/-- the values of a dict of texts -/
def strB (K : PySem.W.Frag) (a : Addr) (l : List (Str × Str)) : Bool := l.all fun q => match PySem.W.nsIn K a q.1 with
  | some (some (.str z _)) => decide (z = q.2)
  | _ => false
theorem strB_ok {K : PySem.W.Frag} {a : Addr} {l : List (Str × Str)} (h : strB K a l = true) {x z : Str} (hx : (x, z) ∈ l) : ∃ u, PySem.W.nsIn K a x = some (some u) ∧ RelV (.str z) u := by
  have q := List.all_eq_true.mp h _ hx
  dsimp only at q
  split at q
  · rename_i y t e
    have : y = z := by simpa using q
    subst this
    exact ⟨_, e, t, rfl⟩
  · cases q
/-- a tuple of texts of the module's top -/
def strOf : Value → Option Str
  | .str z _ => some z
  | _ => none
def tupB (K : PySem.W.Frag) (a : Addr) (l : List Str) : Bool := match K.lookup a with
  | some ⟨.type "tuple", _, .seq its _, _⟩ => decide (its.toList.map strOf = l.map some)
  | _ => false
theorem vals_strs : ∀ {us : List Value} {l : List Str}, us.map strOf = l.map some → Vals (l.map V.str) us
  | [], [], _ => .nil
  | [], _ :: _, h => by cases h
  | _ :: _, [], h => by cases h
  | u :: us, z :: l, h => by
    have h1 : strOf u :: us.map strOf = some z :: l.map some := h
    injection h1 with h2 h3
    refine .cons ?_ (vals_strs h3)
    cases u <;> simp only [strOf] at h2 <;> cases h2
    exact ⟨_, rfl⟩
theorem tupB_ok {K : PySem.W.Frag} {H : Hp} {a : Addr} {l : List Str} (h : tupB K a l = true) (hl : l.length ≤ 1000) : SqT K H a (l.map V.str) := by
  unfold tupB at h
  split at h
  · rename_i dd its n sl hk
    have e := of_decide_eq_true h
    have e2 := congrArg List.length e
    rw [List.length_map, List.length_map] at e2
    refine .inr ⟨_, its, n, hk, rfl, rfl, ?_, vals_strs e⟩
    have : its.size = its.toList.length := by simp
    rw [this, e2, sizeLine_eq]
    omega
  · cases h
def cycles25 : List (Str × Int) := [("set", 1), ("move", 1), ("add", 1), ("addc", 1), ("sub", 1), ("subc", 1), ("and", 1), ("or", 1), ("xor", 1), ("less", 1), ("down", 1), ("up", 1), ("carry", 1), ("clear", 1), ("load", 1), ("store", 1), ("below", 1), ("halt", 1),
  ("downby", 2), ("jump", 2), ("call", 2), ("ret", 2), ("div", 2), ("mul", 4), ("high", 4)]
end KDx

set_option Elab.async false
set_option linter.all false
set_option maxRecDepth 100000
set_option maxHeartbeats 2000000
/-! the heap of a law's text with one source and two tables of code objects; values that read as data -/
namespace WD
open PySem PySem.Spec PyProof.Rows L2 Lw GxR
theorem iteF' {b : Bool} {A B : Prop} (e : b = false) (h : B) : if b = true then A else B := by
  rw [e]
  exact h
theorem at0 (x : V) (xs : List V) : atI (x :: xs) 0 = some x := atI_nat (j := 0) rfl
theorem at_map {α : Type} (f : α → V) {l : List α} {i : Int} (h0 : 0 ≤ i) (h1 : i < l.length) : ∃ x ∈ l, atI (l.map f) i = some (f x) := by
  obtain ⟨j, rfl⟩ := Int.eq_ofNat_of_zero_le h0
  have hj : j < l.length := by omega
  refine ⟨l[j], List.getElem_mem _, atI_nat ?_⟩
  rw [List.getElem?_map, List.getElem?_eq_getElem hj]
  rfl
/-! ### pairs -/
section
variable {α β : Type} {R S : α → β → Prop}
theorem paired_imp (f : ∀ a b, R a b → S a b) : ∀ {xs : List α} {ys : List β}, Paired R xs ys → Paired S xs ys
  | _, _, .nil => .nil
  | _, _, .cons r t => .cons (f _ _ r) (paired_imp f t)
theorem pr_get : ∀ {xs : List α} {ys : List β} {i : Nat} {x : α}, Paired R xs ys → xs[i]? = some x → ∃ y, ys[i]? = some y ∧ R x y
  | _, _, _, _, .nil, e => by simp at e
  | _, _, 0, _, .cons r _, e => by simp at e; subst e; exact ⟨_, rfl, r⟩
  | _, _, i + 1, x, .cons _ t, e => by
    obtain ⟨y, h1, h2⟩ := pr_get (i := i) (x := x) t (by simpa using e)
    exact ⟨y, by simpa using h1, h2⟩
theorem paired_at : ∀ {xs : List α} {ys : List β} {i : Nat} {y : β}, Paired R xs ys → ys[i]? = some y → ∃ x, xs[i]? = some x ∧ R x y
  | _, _, _, _, .nil, e => by simp at e
  | _, _, 0, _, .cons r _, e => by simp at e; subst e; exact ⟨_, rfl, r⟩
  | _, _, i + 1, y, .cons _ t, e => by
    obtain ⟨x, h1, h2⟩ := paired_at (i := i) (y := y) t (by simpa using e)
    exact ⟨x, by simpa using h1, h2⟩
theorem paired_take : ∀ (n : Nat) {xs : List α} {ys : List β}, Paired R xs ys → Paired R (xs.take n) (ys.take n)
  | 0, _, _, _ => .nil
  | _ + 1, _, _, .nil => .nil
  | n + 1, _, _, .cons r t => .cons r (paired_take n t)
theorem paired_drop : ∀ (n : Nat) {xs : List α} {ys : List β}, Paired R xs ys → Paired R (xs.drop n) (ys.drop n)
  | 0, _, _, h => h
  | _ + 1, _, _, .nil => .nil
  | n + 1, _, _, .cons _ t => paired_drop n t
theorem paired_app : ∀ {xs : List α} {ys : List β} {xs' : List α} {ys' : List β}, Paired R xs ys → Paired R xs' ys' → Paired R (xs ++ xs') (ys ++ ys')
  | _, _, _, _, .nil, h => h
  | _, _, _, _, .cons r t, h => .cons r (paired_app t h)
theorem paired_set {x : α} {y : β} (r : R x y) : ∀ (n : Nat) {xs : List α} {ys : List β}, Paired R xs ys → Paired R (xs.set n x) (ys.set n y)
  | _, _, _, .nil => .nil
  | 0, _, _, .cons _ t => .cons r t
  | n + 1, _, _, .cons q t => .cons q (paired_set r n t)
theorem paired_rep {x : α} {y : β} (r : R x y) : ∀ n : Nat, Paired R (List.replicate n x) (List.replicate n y)
  | 0 => .nil
  | n + 1 => .cons r (paired_rep r n)
end
/-! ### the heap -/
theorem Objs.perm' {H0 H : Hp} {L L' : List (Addr × HO)} (h : Objs H0 H L) (p : List.Perm L L') : Objs H0 H L' :=
  ⟨h.same, fun q hq => h.at_ q (p.mem_iff.mpr hq), (p.map _).nodup_iff.mp h.nd, fun q hq => h.new q (p.mem_iff.mpr hq)⟩
theorem suf (M L : List (Addr × HO)) : L <:+ M ++ L := ⟨M, rfl⟩
/-- a source at p, the tables of two code objects, and what is new and known since H0 -/
def Wd (P1 P2 : Addr) (H0 H : Hp) (p : Addr) (L : List (Addr × HO)) : Prop := ∃ x y, ∃ t1 t2 : Array Value, (0 : Int) ≤ x ∧ TriplesOk t1.toList ∧ TriplesOk t2.toList ∧ Objs H0 H ((p, .lst [.int x, .int y]) :: L)
/-- the same, without a source -/
def Wt (P1 P2 : Addr) (H0 H : Hp) (L : List (Addr × HO)) : Prop := ∃ t1 t2 : Array Value, TriplesOk t1.toList ∧ TriplesOk t2.toList ∧ Objs H0 H (L)
section
variable {P1 P2 : Addr} {H0 H H' : Hp} {p a : Addr} {L L' M : List (Addr × HO)} {u u' : HO} {Q : VK} {E : XK} {m x y : Int}
theorem Wd.draw (h : Wd P1 P2 H0 H p L) (m0 : 0 < m) (m1 : m ≤ 100000) (q : ∀ v H', 0 ≤ v → v < m → Wd P1 P2 H0 H' p L → Q (.int v) H') : spDraw [.ref p, .int m] H Q E := by
  obtain ⟨x, y, t1, t2, hx, h1, h2, o⟩ := h
  exact ⟨p, x, y, m, rfl, o.get 0 rfl, hx, m0, m1, fun v x' y' v0 v1 x0 => q v _ v0 v1 ⟨x', y', t1, t2, x0, h1, h2, o.put 0 rfl⟩⟩
theorem Wd.push (h : Wd P1 P2 H0 H p L) (n : H a = none) (s : Same H H') (e : H' a = some u) : Wd P1 P2 H0 H' p ((a, u) :: L) := by
  obtain ⟨x, y, t1, t2, hx, h1, h2, o⟩ := h
  exact ⟨x, y, t1, t2, hx, h1, h2, Objs.perm' (o.push n s e) (.swap _ _ _)⟩
theorem Wd.add (h : Wd P1 P2 H0 H p L) (n : H a = none) : Wd P1 P2 H0 (upd H a u) p ((a, u) :: L) := h.push n (same_upd n) upd_same
theorem Wd.mem (h : Wd P1 P2 H0 H p L) {q : Addr × HO} (hm : q ∈ L) : H q.1 = some q.2 := by
  obtain ⟨x, y, t1, t2, hx, h1, h2, o⟩ := h
  exact o.at_ q (List.mem_cons_of_mem _ hm)
theorem Wd.skip (h : Wd P1 P2 H0 H p L) (n : H a = none) : Wd P1 P2 H0 (upd H a u) p L := by
  obtain ⟨x, y, t1, t2, hx, h1, h2, o⟩ := h
  exact ⟨x, y, t1, t2, hx, h1, h2, o.skip n⟩
theorem Wd.sub (h : Wd P1 P2 H0 H p L) (s : List.Sublist L' L) : Wd P1 P2 H0 H p L' := by
  obtain ⟨x, y, t1, t2, hx, h1, h2, o⟩ := h
  exact ⟨x, y, t1, t2, hx, h1, h2, o.sub (s.cons_cons _)⟩
theorem Wd.mono (h : Wd P1 P2 H0 H p L) (s : Same H H') : Wd P1 P2 H0 H' p L := by
  obtain ⟨x, y, t1, t2, hx, h1, h2, o⟩ := h
  exact ⟨x, y, t1, t2, hx, h1, h2, o.mono s⟩
theorem Wd.perm (h : Wd P1 P2 H0 H p L) (q : List.Perm L L') : Wd P1 P2 H0 H p L' := by
  obtain ⟨x, y, t1, t2, hx, h1, h2, o⟩ := h
  exact ⟨x, y, t1, t2, hx, h1, h2, Objs.perm' o (.cons _ q)⟩
theorem Wd.put (h : Wd P1 P2 H0 H p L) (i : Nat) (hi : L[i]? = some (a, u)) : Wd P1 P2 H0 (upd H a u') p (L.set i (a, u')) := by
  obtain ⟨x, y, t1, t2, hx, h1, h2, o⟩ := h
  exact ⟨x, y, t1, t2, hx, h1, h2, o.put (i + 1) hi⟩
theorem Wd.drop (h : Wd P1 P2 H0 H p L) : Wt P1 P2 H0 H L := by
  obtain ⟨x, y, t1, t2, hx, h1, h2, o⟩ := h
  exact ⟨t1, t2, h1, h2, o.sub (List.sublist_cons_self _ _)⟩
theorem Wd.lay (h : Wd P1 P2 H0 H p L) : ∃ x y : Int, 0 ≤ x ∧ Wt P1 P2 H0 H ((p, .lst [.int x, .int y]) :: L) := by
  obtain ⟨x, y, t1, t2, hx, h1, h2, o⟩ := h
  exact ⟨x, y, hx, t1, t2, h1, h2, o⟩
theorem Wt.take (h : Wt P1 P2 H0 H (M ++ (p, .lst [.int x, .int y]) :: L)) (hx : 0 ≤ x) : Wd P1 P2 H0 H p (M ++ L) := by
  obtain ⟨t1, t2, h1, h2, o⟩ := h
  refine ⟨x, y, t1, t2, hx, h1, h2, Objs.perm' o ?_⟩
  exact List.perm_middle (l₁ := M) (a := (p, HO.lst [.int x, .int y])) (l₂ := L)
theorem Wt.src (h : Wt P1 P2 H0 H L) (n : H a = none) (hx : 0 ≤ x) : Wd P1 P2 H0 (upd H a (.lst [.int x, .int y])) a L := by
  obtain ⟨t1, t2, h1, h2, o⟩ := h
  exact ⟨x, y, t1, t2, hx, h1, h2, o.add n⟩
theorem Wt.add (h : Wt P1 P2 H0 H L) (n : H a = none) : Wt P1 P2 H0 (upd H a u) ((a, u) :: L) := by
  obtain ⟨t1, t2, h1, h2, o⟩ := h
  exact ⟨t1, t2, h1, h2, o.add n⟩
theorem Wt.push (h : Wt P1 P2 H0 H L) (n : H a = none) (s : Same H H') (e : H' a = some u) : Wt P1 P2 H0 H' ((a, u) :: L) := by
  obtain ⟨t1, t2, h1, h2, o⟩ := h
  exact ⟨t1, t2, h1, h2, o.push n s e⟩
theorem Wt.skip (h : Wt P1 P2 H0 H L) (n : H a = none) : Wt P1 P2 H0 (upd H a u) L := by
  obtain ⟨t1, t2, h1, h2, o⟩ := h
  exact ⟨t1, t2, h1, h2, o.skip n⟩
theorem Wt.mono (h : Wt P1 P2 H0 H L) (s : Same H H') : Wt P1 P2 H0 H' L := by
  obtain ⟨t1, t2, h1, h2, o⟩ := h
  exact ⟨t1, t2, h1, h2, o.mono s⟩
theorem Wt.mem (h : Wt P1 P2 H0 H L) {q : Addr × HO} (hm : q ∈ L) : H q.1 = some q.2 := by
  obtain ⟨t1, t2, h1, h2, o⟩ := h
  exact o.at_ q hm
theorem Wt.same (h : Wt P1 P2 H0 H L) : Same H0 H := by
  obtain ⟨t1, t2, h1, h2, o⟩ := h
  exact o.same
theorem Wd.same (h : Wd P1 P2 H0 H p L) : Same H0 H := h.drop.same
theorem Wt.put (h : Wt P1 P2 H0 H L) (i : Nat) (hi : L[i]? = some (a, u)) : Wt P1 P2 H0 (upd H a u') (L.set i (a, u')) := by
  obtain ⟨t1, t2, h1, h2, o⟩ := h
  exact ⟨t1, t2, h1, h2, o.put i hi⟩
theorem Wt.perm (h : Wt P1 P2 H0 H L) (q : List.Perm L L') : Wt P1 P2 H0 H L' := by
  obtain ⟨t1, t2, h1, h2, o⟩ := h
  exact ⟨t1, t2, h1, h2, Objs.perm' o q⟩
theorem Wt.sub (h : Wt P1 P2 H0 H L) (s : List.Sublist L' L) : Wt P1 P2 H0 H L' := by
  obtain ⟨t1, t2, h1, h2, o⟩ := h
  exact ⟨t1, t2, h1, h2, o.sub s⟩
end
/-- at the law's start: the script's list -/
theorem Wt.start {K : PySem.W.Frag} {HH : Hp} {P1 P2 a : Addr} {xs : List V} (hS : SqL K HH a xs) : ∃ H0, Wt P1 P2 H0 HH [] ∧ SqL K H0 a xs := by
  have t0 : TriplesOk (#[] : Array Value).toList := by
    trivial
  exact ⟨HH, ⟨#[], #[], t0, t0, Same.refl HH, fun q hq => (by cases hq), (by simp), fun q hq => (by cases hq)⟩, hS⟩
/-! ### values that read as data -/
/-- a tuple, of the law's text or of the program's top -/
def TupAt (K : PySem.W.Frag) (L : List (Addr × HO)) (a : Addr) (xs : List V) : Prop := (a, HO.tup xs) ∈ L ∨ ∃ (o : Obj) (its : Array Value) (n : Nat), K.lookup a = some o ∧ o.cls = .type "tuple" ∧ o.data = .seq its n ∧ its.size ≤ sizeLine ∧ Vals xs its.toList
theorem TupAt.sq {K : PySem.W.Frag} {L : List (Addr × HO)} {H : Hp} {a : Addr} {xs : List V} (h : TupAt K L a xs) (hL : ∀ q ∈ L, H q.1 = some q.2) : SqT K H a xs := by
  rcases h with h | h
  · exact SqT.of (hL _ h)
  · exact .inr h
theorem TupAt.mono {K : PySem.W.Frag} {L M : List (Addr × HO)} {a : Addr} {xs : List V} (h : TupAt K L a xs) (s : ∀ q ∈ L, q ∈ M) : TupAt K M a xs := by
  rcases h with h | h
  · exact .inl (s _ h)
  · exact .inr h
theorem TupAt.ty {K : PySem.W.Frag} {L : List (Addr × HO)} {H : Hp} {a : Addr} {xs : List V} (h : TupAt K L a xs) (hL : ∀ q ∈ L, H q.1 = some q.2) : TyX K H (.ref a) (.type "tuple") := by
  rcases h with h | ⟨o, its, n, h1, h2, _⟩
  · exact .base (.tup (hL _ h))
  · exact .kTuple h1 h2
def Atom : V → PyData → Prop
  | .int i, .int j => i = j
  | .bl a, .bool b => a = b
  | .non, .none => True
  | .str x, .str y => x = y ∧ (PyData.str x).canLay0 = true
  | _, _ => False
def PL (K : PySem.W.Frag) : Nat → List (Addr × HO) → V → PyData → Prop
  | 0, _, v, d => Atom v d
  | n + 1, L, v, d => Atom v d ∨ ∃ a xs ds, v = .ref a ∧ Paired (PL K n L) xs ds ∧ ((TupAt K L a xs ∧ d = .tuple ds) ∨ ((a, HO.lst xs) ∈ L ∧ d = .list ds))
section
variable {K : PySem.W.Frag} {L M : List (Addr × HO)} {H : Hp}
theorem PL.mono (h : ∀ q ∈ L, q ∈ M) : ∀ (n : Nat) (v : V) (d : PyData), PL K n L v d → PL K n M v d
  | 0, _, _, q => q
  | n + 1, v, d, q => by
    rcases q with q | ⟨a, xs, ds, e, p, q⟩
    · exact .inl q
    · refine .inr ⟨a, xs, ds, e, paired_imp (PL.mono h n) p, ?_⟩
      rcases q with q | q
      · exact .inl ⟨q.1.mono h, q.2⟩
      · exact .inr ⟨h _ q.1, q.2⟩
theorem PL.up : ∀ (n : Nat) (v : V) (d : PyData), PL K n L v d → PL K (n + 1) L v d
  | 0, _, _, q => .inl q
  | n + 1, v, d, q => by
    rcases q with q | ⟨a, xs, ds, e, p, q⟩
    · exact .inl q
    · exact .inr ⟨a, xs, ds, e, paired_imp (PL.up n) p, q⟩
def isTup : PyData → Bool | .tuple _ => true | _ => false
def isLst : PyData → Bool | .list _ => true | _ => false
def isStr : PyData → Bool | .str _ => true | _ => false
def isBool : PyData → Bool | .bool _ => true | _ => false
def isInt : PyData → Bool | .int _ => true | _ => false
/-- what isinstance says of a value -/
structure TyD (K : PySem.W.Frag) (H : Hp) (v : V) (d : PyData) (t : Value) : Prop where
  ty : TyX K H v t
  tup : PySem.W.kitOne K t (.type "tuple") = some (isTup d)
  lst : PySem.W.kitOne K t (.type "list") = some (isLst d)
  str : PySem.W.kitOne K t (.type "str") = some (isStr d)
  int : PySem.W.kitOne K t (.type "int") = some (isInt d || isBool d)
  bl : PySem.W.kitOne K t (.type "bool") = some (isBool d)
  at_ : ∀ i, d = .int i → v = .int i
  at_s : ∀ z, d = .str z → v = .str z
theorem tyd_mk {v : V} {d : PyData} (z : String) (b : TyX K H v (.type z)) (a1 a2 a3 a4 a5 : Bool) (k : kitB z "tuple" = some a1 ∧ kitB z "list" = some a2 ∧ kitB z "str" = some a3 ∧ kitB z "int" = some a4 ∧ kitB z "bool" = some a5)
    (e : isTup d = a1 ∧ isLst d = a2 ∧ isStr d = a3 ∧ (isInt d || isBool d) = a4 ∧ isBool d = a5) (i : ∀ i, d = .int i → v = .int i) (s : ∀ z, d = .str z → v = .str z) : ∃ t, TyD K H v d t := by
  obtain ⟨e1, e2, e3, e4, e5⟩ := e
  obtain ⟨k1, k2, k3, k4, k5⟩ := k
  exact ⟨_, b, by rw [e1]; exact kit_ty k1, by rw [e2]; exact kit_ty k2, by rw [e3]; exact kit_ty k3, by rw [e4]; exact kit_ty k4, by rw [e5]; exact kit_ty k5, i, s⟩
theorem Atom.ty : ∀ {v : V} {d : PyData}, Atom v d → ∃ t, TyD K H v d t
  | .int i, .int j, h => tyd_mk "int" (.base (.int _)) false false false true false (by decide +kernel) ⟨rfl, rfl, rfl, rfl, rfl⟩ (fun k e => by cases e; cases (show i = j from h); rfl) (fun k e => by cases e)
  | .bl a, .bool b, _ => tyd_mk "bool" (.base (.bl _)) false false false true true (by decide +kernel) ⟨rfl, rfl, rfl, rfl, rfl⟩ (fun k e => by cases e) (fun k e => by cases e)
  | .non, .none, _ => tyd_mk "NoneType" (.base .non) false false false false false (by decide +kernel) ⟨rfl, rfl, rfl, rfl, rfl⟩ (fun k e => by cases e) (fun k e => by cases e)
  | .str x, .str y, h => tyd_mk "str" (.base (.str _)) false false true false false (by decide +kernel) ⟨rfl, rfl, rfl, rfl, rfl⟩ (fun k e => by cases e) (fun k e => by cases e; rw [h.1])
theorem PL.ty (hL : ∀ q ∈ L, H q.1 = some q.2) {n : Nat} {v : V} {d : PyData} (h : PL K n L v d) : ∃ t, TyD K H v d t := by
  cases n with
  | zero => exact Atom.ty h
  | succ n =>
    rcases h with h | ⟨a, xs, ds, rfl, _, ⟨m, rfl⟩ | ⟨m, rfl⟩⟩
    · exact Atom.ty h
    · exact tyd_mk "tuple" (m.ty hL) true false false false false (by decide +kernel) ⟨rfl, rfl, rfl, rfl, rfl⟩ (fun k e => by cases e) (fun k e => by cases e)
    · exact tyd_mk "list" (.base (.lst (hL _ m))) false true false false false (by decide +kernel) ⟨rfl, rfl, rfl, rfl, rfl⟩ (fun k e => by cases e) (fun k e => by cases e)
theorem Atom.dp : ∀ {v : V} {d : PyData}, Atom v d → Dp K H v d ∧ d.canLay0 = true ∧ d.depth ≤ 1
  | .int i, .int j, h => by cases (show i = j from h); exact ⟨.int _, rfl, by unfold PyData.depth; decide⟩
  | .bl a, .bool b, h => by cases (show a = b from h); exact ⟨.bl _, rfl, by unfold PyData.depth; decide⟩
  | .non, .none, _ => ⟨.non, rfl, by unfold PyData.depth; decide⟩
  | .str x, .str y, h => by
    obtain ⟨e, m⟩ := h
    cases e
    exact ⟨.str _, m, by unfold PyData.depth; decide⟩
theorem dps_of {R : V → PyData → Prop} {n : Nat} (f : ∀ v d, R v d → Dp K H v d ∧ d.canLay0 = true ∧ d.depth ≤ n) : ∀ {xs : List V} {ds : List PyData}, Paired R xs ds → DpAll K H xs ds ∧ PyData.canLayAll0 ds = true ∧ PyData.depthAll ds ≤ n
  | _, _, .nil => ⟨.nil, rfl, Nat.zero_le _⟩
  | _, _, .cons r t => by
    obtain ⟨a1, a2, a3⟩ := f _ _ r
    obtain ⟨b1, b2, b3⟩ := dps_of f t
    refine ⟨.cons a1 b1, ?_, ?_⟩
    · unfold PyData.canLayAll0
      rw [a2, b2]
      rfl
    · unfold PyData.depthAll
      omega
theorem PL.dp (hL : ∀ q ∈ L, H q.1 = some q.2) : ∀ (n : Nat) (v : V) (d : PyData), PL K n L v d → Dp K H v d ∧ d.canLay0 = true ∧ d.depth ≤ n + 1
  | 0, _, _, h => Atom.dp h
  | n + 1, v, d, h => by
    rcases h with h | ⟨a, xs, ds, rfl, p, ⟨m, rfl⟩ | ⟨m, rfl⟩⟩
    · obtain ⟨a1, a2, a3⟩ := Atom.dp (K := K) (H := H) h
      exact ⟨a1, a2, by omega⟩
    · obtain ⟨b1, b2, b3⟩ := dps_of (PL.dp hL n) p
      exact ⟨.tup (m.sq hL) b1, by unfold PyData.canLay0; exact b2, by unfold PyData.depth; omega⟩
    · obtain ⟨b1, b2, b3⟩ := dps_of (PL.dp hL n) p
      exact ⟨.lst (SqL.of (hL _ m)) b1, by unfold PyData.canLay0; exact b2, by unfold PyData.depth; omega⟩
theorem shaped_of {d : PyData} (l : d.canLay0 = true) (b : d.depth ≤ 60) : SeqAt.shaped d = true := by
  unfold SeqAt.shaped
  rw [l, decide_eq_true (by omega)]
  rfl
/-- equal data is told equal -/
theorem same_ne {x y : V} {d : PyData} {Q : VK} (h1 : Dp K H x d) (h2 : Dp K H y d) (l : d.canLay0 = true) (b : d.depth ≤ 60) (q : Q (.bl false) H) : rNeD K x y H Q := by
  refine ⟨d, d, h1, h2, shaped_of l b, shaped_of l b, ?_⟩
  rw [SeqAt.eqv_refl d l]
  exact q
theorem same_eq {x y : V} {d : PyData} {Q : VK} (h1 : Dp K H x d) (h2 : Dp K H y d) (l : d.canLay0 = true) (b : d.depth ≤ 60) (q : Q (.bl true) H) : rEqD K x y H Q := by
  refine ⟨d, d, h1, h2, shaped_of l b, shaped_of l b, ?_⟩
  rw [SeqAt.eqv_refl d l]
  exact q
end
/-- what is a whole number within bounds -/
def intB (lo hi : Int) : PyData → Bool
  | .int i => decide (lo ≤ i) && decide (i ≤ hi)
  | _ => false
/-! ### constants of the program's top -/
def atomB : Value → PyData → Bool
  | .int i _, .int j => decide (i = j)
  | .str x _, .str y => decide (x = y) && (PyData.str x).canLay0
  | .bool a, .bool b => decide (a = b)
  | .none, .none => true
  | _, _ => false
/-- each is what the rule says -/
def eachB (R : Value → PyData → Bool) : List Value → List PyData → Bool
  | [], [] => true
  | u :: us, d :: ds => R u d && eachB R us ds
  | _, _ => false
def datB (K : PySem.W.Frag) : Nat → Value → PyData → Bool
  | 0, u, d => atomB u d
  | n + 1, .ref a, .tuple ds => match K.lookup a with
    | some ⟨.type "tuple", _, .seq its _, _⟩ => decide (its.size ≤ 1000) && eachB (datB K n) its.toList ds
    | _ => false
  | _ + 1, u, d => atomB u d
theorem atomB_ok : ∀ {u : Value} {d : PyData}, atomB u d = true → ∃ v, RelV v u ∧ Atom v d
  | .int i t, .int j, h => ⟨.int i, ⟨t, rfl⟩, show i = j from of_decide_eq_true h⟩
  | .str x t, .str y, h => ⟨.str x, ⟨t, rfl⟩, by
    obtain ⟨h1, h2⟩ := Bool.and_eq_true_iff.mp (show (decide (x = y) && (PyData.str x).canLay0) = true from h)
    exact ⟨of_decide_eq_true h1, h2⟩⟩
  | .bool a, .bool b, h => ⟨.bl a, rfl, show a = b from of_decide_eq_true h⟩
  | .none, .none, _ => ⟨.non, rfl, trivial⟩
theorem eachB_ok {R : Value → PyData → Bool} {S : V → PyData → Prop} (f : ∀ u d, R u d = true → ∃ v, RelV v u ∧ S v d) : ∀ {us : List Value} {ds : List PyData}, eachB R us ds = true → ∃ xs, Vals xs us ∧ Paired S xs ds
  | [], [], _ => ⟨[], .nil, .nil⟩
  | u :: us, d :: ds, h => by
    obtain ⟨h1, h2⟩ := Bool.and_eq_true_iff.mp (show (R u d && eachB R us ds) = true from h)
    obtain ⟨v, r, s⟩ := f u d h1
    obtain ⟨xs, rs, ss⟩ := eachB_ok f h2
    exact ⟨v :: xs, .cons r rs, .cons s ss⟩
theorem datB_tup {K : PySem.W.Frag} {n : Nat} {a : Addr} {ds : List PyData} (L : List (Addr × HO)) (ih : ∀ u d, datB K n u d = true → ∃ v, RelV v u ∧ PL K n L v d) (h : datB K (n + 1) (.ref a) (.tuple ds) = true) : ∃ xs, TupAt K L a xs ∧ Paired (PL K n L) xs ds := by
  unfold datB at h
  split at h
  · rename_i dd its m sl hk
    obtain ⟨h1, h2⟩ := Bool.and_eq_true_iff.mp h
    obtain ⟨xs, rs, ss⟩ := eachB_ok ih h2
    exact ⟨xs, .inr ⟨_, its, m, hk, rfl, rfl, Nat.le_trans (of_decide_eq_true h1) (by rw [sizeLine_eq]; decide), rs⟩, ss⟩
  · cases h
theorem datB_ok {K : PySem.W.Frag} (L : List (Addr × HO)) : ∀ (n : Nat) (u : Value) (d : PyData), datB K n u d = true → ∃ v, RelV v u ∧ PL K n L v d
  | 0, _, _, h => atomB_ok h
  | n + 1, u, d, h => by
    by_cases hu : ∃ a ds, u = .ref a ∧ d = .tuple ds
    · obtain ⟨a, ds, rfl, rfl⟩ := hu
      obtain ⟨xs, t, p⟩ := datB_tup L (datB_ok L n) h
      exact ⟨.ref a, rfl, .inr ⟨a, xs, ds, rfl, p, .inl ⟨t, rfl⟩⟩⟩
    · have e : atomB u d = true := by
        unfold datB at h
        split at h <;> first
          | exact h
          | exact absurd ⟨_, _, rfl, rfl⟩ hu
          | (rename_i heq; cases heq)
          | (rename_i heq _; cases heq)
      obtain ⟨v, r, a⟩ := atomB_ok e
      exact ⟨v, r, .inl a⟩
/-- a tuple of the program's top, as data -/
theorem datB_at {K : PySem.W.Frag} {n : Nat} {a : Addr} {ds : List PyData} (L : List (Addr × HO)) (h : datB K (n + 1) (.ref a) (.tuple ds) = true) : ∃ xs, TupAt K L a xs ∧ Paired (PL K n L) xs ds := datB_tup L (datB_ok L n) h
end WD

set_option Elab.async false
set_option linter.all false
set_option maxRecDepth 100000
set_option maxHeartbeats 4000000
/-! An own error whose __init__ begins with super().__init__(text): its def, kept as a promise. -/
namespace QX
open PySem PySem.Spec PyProof.Rows L2
/-- the last of a row of names that differ -/
theorem last_of {ps : List Str} {us : List Value} (nd : ps.Nodup) : ∀ {i : Nat} {x : Str} {u : Value}, ps[i]? = some x → us[i]? = some u → ((ps.zip us).reverse).lookup x = some u := by
  induction ps generalizing us with
  | nil =>
    intro i x u h _
    cases i <;> cases h
  | cons p r ih =>
    intro i x u h g
    cases us with
    | nil => cases i <;> cases g
    | cons v t =>
      have n1 : p ∉ r := (List.nodup_cons.mp nd).1
      have n2 := (List.nodup_cons.mp nd).2
      rw [List.zip_cons_cons, List.reverse_cons, List.lookup_append]
      cases i with
      | zero =>
        obtain rfl : p = x := Option.some.inj h
        obtain rfl : v = u := Option.some.inj g
        have e : ((r.zip t).reverse).lookup p = none := by
          rw [List.lookup_eq_none_iff]
          intro q hq
          have h1 : q.1 ∈ r := (List.of_mem_zip (List.mem_reverse.mp hq)).1
          exact bne_iff_ne.mpr fun (z : p = q.1) => n1 (by rw [z]; exact h1)
        rw [e]
        simp [List.lookup]
      | succ i =>
        rw [ih n2 h g]
        rfl
/-- a def of a class's body that closes over __class__ -/
structure FunS (P : Program) (K : PySem.W.Frag) (x qual : Str) (st : Stmt) (D f : Addr) (fd : FuncData) : Prop where
  ex : ∃ (oc : Value) (od : Option Addr) (kV doc pm : Value) (an : Option Addr) (cda cc : Addr) (ct : Value) (osl : Array (Option Value)) (ccl : Value) (cdd : Option Addr) (vs : Array Value) (ccs : Array (Option Value)) (file : Str) (tf : Tok) (cl : Value) (cld : Option Addr) (csl : Array (Option Value)),
    fd = PySem.W.ksFn x qual (defArgs st) (defBody st) (defScope st) .none kV doc pm an (.ref cda) ct cc ∧ K.lookup f = some ⟨oc, od, .func fd, osl⟩ ∧ PySem.W.codeIn K (.ref cda) qual = true ∧
    K.lookup cda = some ⟨ccl, cdd, .fields vs, ccs⟩ ∧ vs[2]? = some (.str file tf) ∧ ((P.main.file : Str) == file) = true ∧ K.lookup cc = some ⟨cl, cld, .cell (some (.ref D)), csl⟩
/-- its scope: the parameters alone, and the two names of super() -/
structure ScS (ps : List Str) (sc : Scope) : Prop where
  kind : sc.kind = .function
  co : sc.isCoroutine = false
  gen : sc.isGenerator = false
  par : ∀ n ∈ ps, sc.names.lookup n = some .local
  nd : ps.Nodup
  cell : ∀ y ∈ sc.names, y.2 ≠ .cell
  free : ∀ y ∈ sc.names, y.2 = .free → y.1 = ("__class__" : Str)
  sup : sc.names.lookup ("super" : Str) = some .globalImplicit
  cls : sc.names.lookup ("__class__" : Str) = some .free
abbrev envS (qual : Str) (sc : Scope) (L f : Addr) (cd : Value) (cc : Addr) : Env := PySem.W.ksEnv qual sc L f cd cc
def cxS (CX : CXT) (P : Program) (w : World) (K : PySem.W.Frag) (mg : Str → Option Value) (base : Heap) (N : List Str) (qual : Str) (sc : Scope) (f : Addr) (cd : Value) (cc : Addr) (A : Around) (outer : List Env) (s : Shared) (H : Hp) (E : XK) : Cx where
  prog := P
  w := w
  K := K
  mg := mg
  base := base
  A := A.deeper (envS qual sc s.heap.objs.size f cd cc)
  N := N
  s_0 := s
  H_0 := H
  env := envS qual sc s.heap.objs.size f cd cc
  outer := outer
  stack := envS qual sc s.heap.objs.size f cd cc :: outer
  ex := []
  calm := true
  fn := fun _ => false
  pn := []
  xe := fun e s' => wpAny (model P w) (A.deeper (envS qual sc s.heap.objs.size f cd cc)) (leaving (envS qual sc s.heap.objs.size f cd cc) e) (fun _ s'' => CX outer H s E e s'') (fun e' s'' => CX outer H s E e' s'') s'
theorem kind_of {ps : List Str} {sc : Scope} (S : ScS ps sc) {y : Str} (h : sc.names.lookup y = some .free) : y = ("__class__" : Str) := S.free (y, .free) (PySem.mem_of_lookup h) rfl
theorem begin_S {CX : CXT} {P : Program} {w : World} {K : PySem.W.Frag} {mg : Str → Option Value} {base : Heap} {ps : List Str} {qual : Str} {sc : Scope} {f cc D : Addr} {cd : Value} {A : Around} {outer : List Env} {s : Shared} {h₀ : Heap} {tk : Nat} {H : Hp} {E : XK} {us : List Value} {vs : List V}
    {cl : Value} {cld : Option Addr} {csl : Array (Option Value)} (S : ScS ps sc) (hd : A.handled = none) (e0 : Env0 P w K mg base A outer s H) (hl : vs.length = ps.length) (r : Vals vs us) (lc : K.lookup cc = some ⟨cl, cld, .cell (some (.ref D)), csl⟩)
    (hns : h₀.Ns s.heap.objs.size (fun x => ((ps.zip us).reverse).lookup x)) (hk : ∀ b o, s.heap.get? b = some o → h₀.get? b = some o) :
    Inv (cxS CX P w K mg base ps qual sc f cd cc A outer s H E) [] (L2.start ps vs) H { s with heap := h₀, toks := tk } := by
  have noA : ∀ b : Addr, b ∉ (cxS CX P w K mg base ps qual sc f cd cc A outer s H E).ex := fun b z => absurd (show b ∈ ([] : List Addr) from z) (by simp)
  have one : ∀ {x : Str} {c : Addr}, (cxS CX P w K mg base ps qual sc f cd cc A outer s H E).env.cells.lookup x = some c → x = ("__class__" : Str) ∧ c = cc := by
    intro x c h
    have h2 : ([(("__class__" : Str), cc)] : List (Str × Addr)).lookup x = some c := h
    by_cases e : x = ("__class__" : Str)
    · subst e
      have h3 : some cc = some c := by simpa [List.lookup] using h2
      exact ⟨rfl, (Option.some.inj h3).symm⟩
    · have e2 : (x == ("__class__" : Str)) = false := by simpa using e
      have h3 : (none : Option Addr) = some c := by simpa [List.lookup, e2] using h2
      cases h3
  have b1 := e0.bs cc _ (e0.mod.kin _ _ lc)
  refine ⟨⟨e0.mod, S.kind, rfl, rfl, Nat.le_refl _, fun x y c h1 h2 => (one h1).1.trans (one h2).1.symm, fun y hy => ?_, (fun y c z _ => nomatch z), fun _ => hd, Around.frames_deeper e0.frames, .inr ⟨rfl, rfl⟩, fun b z => absurd z (noA b), e0.bs, e0.bsz, fun b _ _ => noA b, fun b z => absurd z (noA b), e0.funs, e0.frf⟩,
    rfl, e0.bare, Un.kept hk, ⟨_, hns, fun i y v h1 h2 h3 => ?_⟩, fun y c h => ?_, e0.hok.fresh (Nat.le_refl _), fun y c h => ?_, fun p hp => absurd (show p ∈ ([] : List (Addr × Obj)) from hp) (by simp), e0.hok.kept hk, ?_⟩
  · have hy : sc.names.lookup y = some .cell ∨ sc.names.lookup y = some .free := hy
    rcases hy with hy | hy
    · exact absurd rfl (S.cell _ (PySem.mem_of_lookup hy))
    · rw [kind_of S hy]
      exact ⟨cc, rfl⟩
  · have hi : i < vs.length := by
      have := (List.getElem?_eq_some_iff.mp h1).1
      rw [hl]
      exact this
    have ha : vs[i]? = some v := by
      unfold L2.start at h2
      rw [List.getElem?_append_left (by simpa using hi), List.getElem?_map] at h2
      cases e : vs[i]? with
      | none =>
        rw [e] at h2
        cases h2
      | some a =>
        rw [e] at h2
        cases h2
        rfl
    obtain ⟨u, hu, rv⟩ := r.get ha
    exact ⟨u, rv, .inl ⟨S.par y (List.mem_of_getElem? h1), last_of S.nd h1 hu⟩⟩
  · obtain ⟨_, rfl⟩ := one h
    exact ⟨_, ⟨_, hk _ _ b1.1, rfl⟩⟩
  · obtain ⟨_, rfl⟩ := one h
    exact b1.2
  · unfold L2.start
    show _ = ps.length
    rw [List.length_append, List.length_map, List.length_replicate]
    omega

/-- what super().__init__ wants of the class C of the error, whose __init__ stands in D -/
structure SupC (K : PySem.W.Frag) (C D : Addr) : Prop where
  ox : OexC K C
  dcl : ∃ cd, PySem.W.clsIn K D = some cd
  sub : PySem.W.mroIn K C (.ref D) = some true
  ini : PySem.W.ks_superIn K C D "__init__" = some (some (.builtin "ValueError.__init__"))
  ve : PySem.W.subIn K (.ref C) (.type "ValueError") = some true
  tp : PySem.W.nsIn K cStatics "thirdparty.any" = some none
section
variable {X : Cx} {pins : List (Addr × Obj)} {σ : L2.St} {H : Hp} {s : Shared} {a C D u : Addr} {E : Value → Shared → Prop} {A : Around}
/-- the bound __init__ called: nothing of it is told -/
theorem bound_ok {us : List Value} {Q : Value → Shared → Prop} (T : OexC X.K C) (I : Inv X pins σ H s) (e : H a = some (exo a C none)) (hu : s.heap.get? u = some (PySem.W.kxs_mw "ValueError.__init__" a)) (hl : us.length ≤ sizeLine) (h : ∀ s', Inv X pins σ H s' → Q .none s') :
    wpAny (model X.prog X.w) A (call (.ref u) us) Q E s := by
  obtain ⟨nm, q, N, bs, bm, sn, sub, ab, col, dd, k0, k1, k2, k3, k5, hC, hbm⟩ := T.cls
  obtain ⟨t1, ho⟩ := exo_at I.hok e
  have fin : ∀ h', (∀ b o, b ≠ a → s.heap.get? b = some o → h'.get? b = some o) → (∃ t2 : Addr, h'.get? a = some ({ cls := .ref C, dict := none, data := .fields #[.ref t2, .none, .none, .none, .bool false, .none] } : Obj)) → Q .none { s with heap := h' } := fun h' k hx => by
    obtain ⟨t2, hx⟩ := hx
    have J := I.write (t' := s.toks) (x := a) (e := a) (o := exo a C none) (by rw [e]; exact True.intro) (.inl rfl) k ⟨_, hx⟩ (exo_ok hx)
    have eu : upd H a (exo a C none) = H := by
      funext b
      by_cases hb : b = a
      · rw [hb, upd_same, e]
      · rw [upd_ne hb]
    rw [eu] at J
    exact h _ J
  obtain ⟨hh, g, d, tk, os⟩ := s
  refine wpAny_call (codeAny_of_tree ?_)
  show wpAny _ A.in1 (callAny (.ref u) ⟨us, []⟩) _ _ _
  simp only [callAny]
  refine wpAny_bind (wpAny_load hu ?_)
  dsimp only [PySem.W.kxs_mw]
  refine PySem.W.KFB.if_so (by decide) ?_
  refine wpAny_bind (PySem.W.check_bound_init F.excBase_ValueError.toExcCallFacts (I.kIn _ _ hC) ho rfl ?_)
  refine wpAny_bind (wpAny_pure (wpAny_pure ?_))
  refine ⟨plainId_quiet F.excBase_ValueError.init.plain _, codeAny_builtin F.excBase_ValueError.initEntry ?_⟩
  exact PySem.W.exc_init_tree ho hl fun h' k hx _ => fin h' k ⟨_, hx⟩
end

section
variable {CX : CXT} {P : Program} {w : World} {K : PySem.W.Frag} {mg : Str → Option Value} {base : Heap} {ps : List Str} {qual : Str} {sc : Scope} {f cda cc D C a : Addr} {A : Around} {outer : List Env} {s0 s : Shared} {H0 H : Hp} {E : XK} {σ : L2.St}
  {oc : Value} {od : Option Addr} {osl : Array (Option Value)} {fd : FuncData} {ccl : Value} {cdd : Option Addr} {vs : Array Value} {ccs : Array (Option Value)} {file : Str} {tf : Tok} {cl : Value} {cld : Option Addr} {csl : Array (Option Value)}
theorem sup_first {body : List Stmt} {p0 p1 p2 p3 p4 : Pos} {e : Expr} {es : List Expr} {ta : TA} {ar : Arg} {Qn : Hp → Prop} (S : ScS ps sc) (T : SupC K C D) (I : Inv (cxS CX P w K mg base ps qual sc f (.ref cda) cc A outer s0 H0 E) [] σ H s)
    (lf : K.lookup f = some ⟨oc, od, .func fd, osl⟩) (hp : (fd.params.posonlyargs ++ fd.params.args).head? = some ar) (h0 : ps[0]? = some ar.arg) (ha : σ[0]? = some (some (.ref a))) (hx : H a = some (exo a C none))
    (lcd : K.lookup cda = some ⟨ccl, cdd, .fields vs, ccs⟩) (hvs : vs[2]? = some (.str file tf)) (hfile : ((P.main.file : Str) == file) = true) (lc : K.lookup cc = some ⟨cl, cld, .cell (some (.ref D)), csl⟩)
    (hms : mg "super" = none) (htop : (P.main.scope.names.lookup ("super" : Str)).isSome = false)
    {pl : Sem Bool} (hc : eval (.Call (.Attribute (.Call (.Name "super" p0) [] [] p1) "__init__" p2) (e :: es) [] p3) (envS qual sc s0.heap.objs.size f (.ref cda) cc) = (do
      let ov ← attributeBase (.Call (.Name "super" p0) [] [] p1) "__init__" (envS qual sc s0.heap.objs.size f (.ref cda) cc) (eval (.Call (.Name "super" p0) [] [] p1) (envS qual sc s0.heap.objs.size f (.ref cda) cc))
      standAt p2.atName
      let (g, first) ← holding [ov] (getMethod ov "__init__" pl)
      callWith p3 g first (backTo p3 (starEach (e :: es) (envS qual sc s0.heap.objs.size f (.ref cda) cc))) []))
    (hA : PA (cxS CX P w K mg base ps qual sc f (.ref cda) cc A outer s0 H0 E) (e :: es) ta) (q : ta σ H fun ws H1 => ws.length ≤ 1000 ∧ H1 a = some (exo a C none) ∧ Qn H1)
    (he : starEach (e :: es) (envS qual sc s0.heap.objs.size f (.ref cda) cc) = (false, eval e (envS qual sc s0.heap.objs.size f (.ref cda) cc)) :: starEach es (envS qual sc s0.heap.objs.size f (.ref cda) cc))
    (hpl : (backTo p3 (starEach es (envS qual sc s0.heap.objs.size f (.ref cda) cc))).any (·.1) = false)
    (hsw : swapsWith (.Call (.Attribute (.Call (.Name "super" p0) [] [] p1) "__init__" p2) (e :: es) [] p3) none p4.line (envS qual sc s0.heap.objs.size f (.ref cda) cc) = pure false) :
    _root_.PySem.wpAt (model P w) (A.deeper (envS qual sc s0.heap.objs.size f (.ref cda) cc)) (.func body (envS qual sc s0.heap.objs.size f (.ref cda) cc))
      (exec (.Expr (.Call (.Attribute (.Call (.Name "super" p0) [] [] p1) "__init__" p2) (e :: es) [] p3) p4) (envS qual sc s0.heap.objs.size f (.ref cda) cc))
      (fun fl s' => match fl with
        | .next => ∃ H', Inv (cxS CX P w K mg base ps qual sc f (.ref cda) cc A outer s0 H0 E) [] σ H' s' ∧ Qn H'
        | _ => False) (cxS CX P w K mg base ps qual sc f (.ref cda) cc A outer s0 H0 E).xe s := by
  have hi : interactive (envS qual sc s0.heap.objs.size f (.ref cda) cc) = false := by
    unfold interactive
    show (sc.kind == .module && _) = false
    rw [S.kind]
    rfl
  have hkS : (envS qual sc s0.heap.objs.size f (.ref cda) cc).kindOf "super" = some .globalImplicit := S.sup
  have hkC : (envS qual sc s0.heap.objs.size f (.ref cda) cc).kindOf "__class__" = some .free := S.cls
  obtain ⟨m, hns, hm⟩ := I.loc
  obtain ⟨u0, ru, lk⟩ := hm 0 ar.arg (.ref a) h0 ha (.inl (S.par _ (List.mem_of_getElem? h0)))
  obtain rfl : u0 = Value.ref a := ru
  have ma : m ar.arg = some (.ref a) := by
    rcases lk with ⟨_, h⟩ | ⟨h, _⟩
    · exact h
    · have h2 : sc.names.lookup ar.arg = some .cell ∨ sc.names.lookup ar.arg = some .free := h
      rw [S.par _ (List.mem_of_getElem? h0)] at h2
      rcases h2 with h2 | h2 <;> cases h2
  obtain ⟨cd, hcd⟩ := T.dcl
  obtain ⟨oD, hD1, hD2⟩ : ∃ oD, s.heap.get? D = some oD ∧ oD.data = .cls cd := by
    unfold PySem.W.clsIn at hcd
    split at hcd
    · rename_i c d cd' sl ho
      cases hcd
      exact ⟨_, I.kIn _ _ ho, rfl⟩
    · cases hcd
  obtain ⟨t1, hox⟩ := exo_at I.hok hx
  obtain ⟨mb, b1, b2⟩ := I.mod.blt
  refine PySem.ks_wpAt_Expr_any ?_ hi hsw
  refine PySem.ks_wpAt_MethodCall (pl := pl) ?_ hc
  refine PySem.ks_wpAt_super_base hkS hkC (by decide) rfl (I.kIn _ _ lf) rfl hp rfl (I.kIn _ _ lcd) rfl hvs hfile htop ?_
  refine PySem.W.ks_loadName_global S.kind hkS (Calls.loadGlobal_builtin (I.mod.glob.keeps I.bk) hms (b1.keeps I.bk) ((b2 "super" (by decide)).trans (by decide +kernel)) ⟨rfl, ?_⟩)
  refine wpAny_loadName_free S.kind hkC rfl ⟨_, I.kIn _ _ lc, rfl⟩ ?_
  refine wpAny_loadName_local S.kind (S.par _ (List.mem_of_getElem? h0)) hns ma ?_
  refine PySem.ks_wpAny_isType_cls hD1 hD2 ⟨rfl, ?_⟩
  have nc : ∀ c, ({ cls := .ref C, dict := none, data := .fields #[.ref t1, .none, .none, .none, .bool false, .none] } : Obj).data ≠ .cls c := fun c z => by cases z
  obtain ⟨hh, g, d, tk, os⟩ := s
  refine PySem.ks_wpAny_call_super hD1 hD2 hox rfl nc (PySem.W.looks_mroIn I.kIn T.sub) fun h' hso k => ?_
  have I1 := I.kept (t' := tk) k
  obtain ⟨nm, qn, N, bs, bm, sn, sub, ab, col, dd, k0, k1, k2, k3, k5, hC, hbm⟩ := T.ox.cls
  have hcl : PySem.W.clsIn K C = some { name := nm, bases := bs, mro := .ref C :: bm, ns := N, qualname := qn, hasDict := true, slotNames := sn, subclasses := sub, abstract := ab, collection := col, hasDel := false } := by
    unfold PySem.W.clsIn
    rw [hC] <;> rfl
  have hini := T.ini
  unfold PySem.W.ks_superIn at hini
  rw [hcl] at hini
  have hox1 := k _ _ hox
  have J : PySem.W.InstAt h' a { cls := .ref C, dict := none, data := .fields #[.ref t1, .none, .none, .none, .bool false, .none] } C none := ⟨hox1, rfl, rfl, trivial⟩
  refine PySem.W.kxs_getMethod PySem.W.kxs_ValueError hso (PySem.W.looks_opaque I1.kIn T.tp) (l₀ := .ref C :: bm) (fun A Q E s k q => wpAny_bind ((PySem.W.looks_clsIn I1.kIn hcl) A _ E s k (wpAny_pure q))) rfl I1.kIn hini (J.type.andThen (PySem.W.looks_subIn I1.kIn T.ve)) (PySem.W.ks_ne I1.kIn J hcl) (by decide) ?_
  have kp : ∀ b o, h'.get? b = some o → (h'.push (PySem.W.kxs_mw "ValueError.__init__" a)).get? b = some o := fun b o z => Heap.get?_push_of_some _ z
  have I2 := I1.kept (t' := tk + 1) kp
  have hu : (h'.push (PySem.W.kxs_mw "ValueError.__init__" a)).get? h'.objs.size = some (PySem.W.kxs_mw "ValueError.__init__" a) := Heap.get?_push_at rfl rfl
  have I3 : Inv (cxS CX P w K mg base ps qual sc f (.ref cda) cc A outer s0 H0 E) [(h'.objs.size, PySem.W.kxs_mw "ValueError.__init__" a)] σ H ⟨h'.push (PySem.W.kxs_mw "ValueError.__init__" a), g, d, tk + 1, os⟩ :=
    ⟨I2.ok, I2.os, I2.bare, I2.base, I2.loc, I2.cell, I2.free, I2.freeC, fun p hp => by
      have hp2 : p = (h'.objs.size, PySem.W.kxs_mw "ValueError.__init__" a) := List.mem_singleton.mp hp
      subst hp2
      exact ⟨hu, I1.hok.fresh (Nat.le_refl _), Nat.ne_of_gt I1.lt, I1.nofs (Nat.le_refl _), fun v z => by cases z⟩, I2.hok, I2.len⟩
  have qa : wpAny (model P w) (A.deeper (envS qual sc s0.heap.objs.size f (.ref cda) cc)) (spliced (backTo p3 (starEach (e :: es) (envS qual sc s0.heap.objs.size f (.ref cda) cc)))) (AP (cxS CX P w K mg base ps qual sc f (.ref cda) cc A outer s0 H0 E) [(h'.objs.size, PySem.W.kxs_mw "ValueError.__init__" a)] σ fun ws H1 => ws.length ≤ 1000 ∧ H1 a = some (exo a C none) ∧ Qn H1) (cxS CX P w K mg base ps qual sc f (.ref cda) cc A outer s0 H0 E).xe ⟨h'.push (PySem.W.kxs_mw "ValueError.__init__" a), g, d, tk + 1, os⟩ := hA.run p3 _ _ σ H _ I3 q
  show wpAny _ _ (callWith p3 (.ref h'.objs.size) [] (backTo p3 (starEach (e :: es) (envS qual sc s0.heap.objs.size f (.ref cda) cc))) []) _ _ _
  rw [he] at qa ⊢
  refine PySem.W.kxs_callWith (i := "ValueError.__init__") (x := a) (by show (false || (backTo p3 (starEach es (envS qual sc s0.heap.objs.size f (.ref cda) cc))).any (·.1)) = false; rw [hpl]; rfl) ?_
  refine PySem.Calls.evalArgs_plain (thn qa fun us s1 ⟨ws, H1, J1, r1, hz, e1, q1⟩ => ?_)
  have pu := J1.pin (h'.objs.size, PySem.W.kxs_mw "ValueError.__init__" a) (List.mem_append_right _ (List.mem_singleton.mpr rfl))
  refine ⟨pu.1, ?_⟩
  have J2 : Inv (cxS CX P w K mg base ps qual sc f (.ref cda) cc A outer s0 H0 E) [] σ H1 s1 :=
    ⟨J1.ok, J1.os, J1.bare, J1.base, J1.loc, J1.cell, J1.free, J1.freeC, fun p hp => J1.pin p (List.mem_append_left _ (by rw [List.append_nil] at hp; exact hp)), J1.hok, J1.len⟩
  have hlen : us.length ≤ sizeLine := by
    rw [← Paired.length r1, sizeLine_eq]
    omega
  exact bound_ok (X := cxS CX P w K mg base ps qual sc f (.ref cda) cc A outer s0 H0 E) T.ox J2 e1 pu.1 hlen fun s' J' => ⟨H1, J', q1⟩
end
/-- how its arguments bind -/
theorem FunS.binds {P : Program} {K : PySem.W.Frag} {x qual : Str} {st : Stmt} {D f : Addr} {fd : FuncData} {ps : List Str} (F : FunS P K x qual st D f fd)
    (h : ∀ (kV doc pm : Value) (an : Option Addr) (cda cc : Addr) (ct : Value) (us : List Value), us.length = ps.length → bindArgs (PySem.W.ksFn x qual (defArgs st) (defBody st) (defScope st) .none kV doc pm an (.ref cda) ct cc) ⟨us, []⟩ = pure (ps.zip us)) : Binds K fd ps [] := by
  obtain ⟨oc, od, kV, doc, pm, an, cda, cc, ct, osl, ccl, cdd, vs, ccs, file, tf, cl, cld, csl, rfl, _⟩ := F.ex
  exact .all (h kV doc pm an cda cc ct)
/-- THE RULE: super().__init__(e), then the rest -/
theorem FunS.ok {P : Program} {w : World} {K : PySem.W.Frag} {mg : Str → Option Value} {base : Heap} {x qual : Str} {st : Stmt} {D C f : Addr} {fd : FuncData} {ps : List Str} {k : Nat} {sp : Sp} {ar : Arg} {p0 p1 p2 p3 p4 : Pos} {e : Expr} {es : List Expr} {rest : List Stmt}
    (F : FunS P K x qual st D f fd) (S : ScS ps (defScope st)) (T : SupC K C D) (hms : mg "super" = none) (htop : (P.main.scope.names.lookup ("super" : Str)).isSome = false)
    (hb : defBody st = .Expr (.Call (.Attribute (.Call (.Name "super" p0) [] [] p1) "__init__" p2) (e :: es) [] p3) p4 :: rest)
    (hp : ((defArgs st).posonlyargs ++ (defArgs st).args).head? = some ar) (h0 : ps[0]? = some ar.arg)
    (len : ∀ vs H Q E, sp vs H Q E → vs.length = ps.length) (self : ∀ vs H Q E, sp vs H Q E → ∃ a r, vs = .ref a :: r ∧ H a = some (exo a C none))
    {pl : Env → Sem Bool} (hc : ∀ env : Env, eval (.Call (.Attribute (.Call (.Name "super" p0) [] [] p1) "__init__" p2) (e :: es) [] p3) env = (do
      let ov ← attributeBase (.Call (.Name "super" p0) [] [] p1) "__init__" env (eval (.Call (.Name "super" p0) [] [] p1) env)
      standAt p2.atName
      let (g, first) ← holding [ov] (getMethod ov "__init__" (pl env))
      callWith p3 g first (backTo p3 (starEach (e :: es) env)) []))
    (he : ∀ env : Env, starEach (e :: es) env = (false, eval e env) :: starEach es env) (hpl : ∀ env : Env, (backTo p3 (starEach es env)).any (·.1) = false)
    (hsw : ∀ env : Env, swapsWith (.Call (.Attribute (.Call (.Name "super" p0) [] [] p1) "__init__" p2) (e :: es) [] p3) none p4.line env = pure false)
    (hbody : ∀ (cda cc : Addr) (A : Around) (outer : List Env) (s : Shared) (H : Hp) (a : Addr) (vr : List V) (Q : VK) (E : XK), Room k (A.deeper (envS qual (defScope st) s.heap.objs.size f (.ref cda) cc)) → sp (.ref a :: vr) H Q E →
      ∃ ta t, PA (cxS CX0 P w K mg base ps qual (defScope st) f (.ref cda) cc A outer s H E) (e :: es) ta ∧ PSs (cxS CX0 P w K mg base ps qual (defScope st) f (.ref cda) cc A outer s H E) rest t ∧
        ta (L2.start ps (.ref a :: vr)) H fun ws H1 => ws.length ≤ 1000 ∧ H1 a = some (exo a C none) ∧ t { nx := fun _ H' => Q .non H', rt := Q } (L2.start ps (.ref a :: vr)) H1) :
    FnOk P w K mg base CX0 (k + 1) f fd ps sp := by
  obtain ⟨oc, od, kV, doc, pm, an, cda, cc, ct, osl, ccl, cdd, cvs, ccs, file, tf, cl, cld, csl, rfl, lk, hcd, lcd, hvs, hfile, lc⟩ := F.ex
  refine ⟨len, fun A outer s H args us vs Q E hr e0 hbind r hsp => ?_⟩
  have hl := len _ _ _ _ hsp
  have KX : K.In s.heap := e0.mod.kin.keeps fun b o z => (e0.bs b o z).1
  have lim : s.heap.NoLimit := e0.mod.nolimit.keeps fun b o z => (e0.bs b o z).1
  obtain ⟨a, vr, rfl, hx⟩ := self _ _ _ _ hsp
  obtain ⟨ta, t, hA, hS, hq⟩ := hbody cda cc A outer s H a vr Q E (hr.deeper _) hsp
  refine PySem.ks_codeAny_call_defAt (fd := PySem.W.ksFn x qual (defArgs st) (defBody st) (defScope st) .none kV doc pm an (.ref cda) ct cc) (body := defBody st) (binds := ps.zip us) hr.depth (KX _ _ lk) rfl lim (PySem.W.codeRec_of KX hcd) rfl hbind S.cell
    (fun y hy => S.par _ (List.of_mem_zip hy).1) (fun h₀ hns hk => ?_) S.co S.gen S.kind
  have I := begin_S (CX := CX0) (A := A) (outer := outer) (E := E) (f := f) (cd := .ref cda) (tk := s.toks + (ps.zip us).length) (qual := qual) S hr.hd e0 hl r lc hns hk
  have s0 : (L2.start ps (V.ref a :: vr))[0]? = some (some (.ref a)) := rfl
  have first := sup_first (body := defBody st) S T I lk hp h0 s0 hx lcd hvs hfile lc hms htop (hc _) hA hq (he _) (hpl _) (hsw _)
  have eb : execs (defBody st) (envS qual (defScope st) s.heap.objs.size f (.ref cda) cc) = execs (.Expr (.Call (.Attribute (.Call (.Name "super" p0) [] [] p1) "__init__" p2) (e :: es) [] p3) p4 :: rest) (envS qual (defScope st) s.heap.objs.size f (.ref cda) cc) := by rw [hb]
  show _root_.PySem.wpAt _ _ _ (execs (defBody st) (envS qual (defScope st) s.heap.objs.size f (.ref cda) cc)) _ _ _
  rw [eb]
  refine PySem.ks_wpAt_execs_cons (PySem.ks_wpAt_mono first (fun fl s' h => ?_) fun _ _ h => h)
  cases fl with
  | next =>
    obtain ⟨H', J, q'⟩ := h
    refine PySem.wpAt_of_wpAny (wpAny_mono (hS.run [] s' _ H' _ J q') (fun fl2 s2 hs => ?_) fun _ _ h => h)
    have fin : ∀ {σ' : L2.St} {H2 : Hp} {v : V} {u : Value}, Inv (cxS CX0 P w K mg base ps qual (defScope st) f (.ref cda) cc A outer s H E) [] σ' H2 s2 → RelV v u → Q v H2 → CE outer P w H s Q u s2 :=
      fun {σ' H2 v u} J rv q => ⟨v, H2, J.os, J.bare, J.base, J.hok, rv, q⟩
    cases fl2 with
    | ret u =>
      obtain ⟨v, σ', H2, J2, rv, q2⟩ := hs
      exact fin J2 rv q2
    | next =>
      obtain ⟨σ', H2, J2, q2⟩ := hs
      exact fin (v := V.non) (u := Value.none) J2 rfl q2
    | brk =>
      obtain ⟨_, _, _, q2⟩ := hs
      exact q2.elim
    | cont =>
      obtain ⟨_, _, _, q2⟩ := hs
      exact q2.elim
  | ret u => exact h.elim
  | brk => exact h.elim
  | cont => exact h.elim
end QX

set_option Elab.async false
set_option linter.all false
set_option maxRecDepth 100000
set_option maxHeartbeats 4000000
namespace QX
open PySem PySem.Spec PyProof.Rows L2
/-! ### such an error as a value: made, asked for its class, read -/
section
variable {X : Cx} {pins : List (Addr × Obj)} {σ : L2.St} {H : Hp} {s : Shared} {a C D u : Addr} {Q : VK}
/-- an error that is held -/
def Held (H : Hp) (a C : Addr) : Prop := H a = some (exo a C none) ∨ ∃ dx fs, H a = some (exo a C (some dx)) ∧ H dx = some (exd dx fs)
theorem held_at (I : Inv X pins σ H s) (h : Held H a C) : ∃ ox od, PySem.W.InstAt s.heap a ox C od := by
  rcases h with h | ⟨dx, fs, h, hd⟩
  · obtain ⟨t1, e⟩ := exo_at I.hok h
    exact ⟨_, none, e, rfl, rfl, trivial⟩
  · obtain ⟨t1, e⟩ := exo_at I.hok h
    obtain ⟨mA, hns, _⟩ := exd_at I.hok hd
    obtain ⟨od, es, ep, ho, _⟩ := hns
    exact ⟨_, some od, e, rfl, rfl, ho⟩
theorem run_exo {CX : CXT} {fI : Addr} {k : Nat} {fd : FuncData} {ps : List Str} {sp : Sp} {vs : List V} {us : List Value} (T : OexC X.K C) (iC : PySem.W.findIn X.K (.ref C) "__init__" = some (some (.ref fI))) (tI : PySem.W.typeIn X.K (.ref fI) = some (.type "function"))
    (F1 : FnOk X.prog X.w X.K X.mg X.base CX k fI fd ps sp) (hr : Room (k + 1) X.A) (hb : Binds X.K fd ps []) (hx : Passes CX X (fun _ _ _ => False)) (I1 : Inv X pins σ H s) (r1 : Vals vs us) (hz : vs.length ≤ 1000)
    (q1 : ∀ a, H a = none → sp (.ref a :: vs) (upd H a (exo a C none)) (fun v H2 => v = .non ∧ Q (.ref a) H2) fun _ _ _ => False) :
    wpAny (model X.prog X.w) X.A (call (.ref C) us) (fun u s' => ∃ v H', Inv X pins σ H' s' ∧ RelV v u ∧ Q v H') X.xe s := by
  obtain ⟨nm, q, N, bs, bm, sn, sub, ab, col, dd, k0, k1, k2, k3, k5, hC, hbm⟩ := T.cls
  obtain ⟨hp, g, dr, tk, os⟩ := s
  have hn : H (hp.objs.size + 1) = none := I1.hok.fresh (Nat.le_succ _)
  have hq := q1 (hp.objs.size + 1) hn
  have kk : ∀ b o, hp.get? b = some o → ((hp.push (PySem.W.kdv_tup us)).push (PySem.HandSPX.excO C hp.objs.size)).get? b = some o := fun b o e => Heap.get?_push_of_some _ (Heap.get?_push_of_some _ e)
  have hget : ((hp.push (PySem.W.kdv_tup us)).push (PySem.HandSPX.excO C hp.objs.size)).get? (hp.objs.size + 1) = some (PySem.HandSPX.excO C hp.objs.size) := by heap_get
  have I2 : Inv X pins σ (upd H (hp.objs.size + 1) (exo (hp.objs.size + 1) C none)) ⟨(hp.push (PySem.W.kdv_tup us)).push (PySem.HandSPX.excO C hp.objs.size), g, dr, tk, os⟩ :=
    I1.laid (t' := tk) kk (Nat.le_succ _) (exo_ok hget)
  have r2 : Vals (V.ref (hp.objs.size + 1) :: vs) (Value.ref (hp.objs.size + 1) :: us) := .cons rfl r1
  have hl : (Value.ref (hp.objs.size + 1) :: us ++ []).length = ps.length := by
    have e := r2.length
    rw [F1.len _ _ _ _ hq] at e
    rw [List.append_nil]
    exact e.symm
  have hus : us.length ≤ sizeLine := by
    rw [← Paired.length r1, sizeLine_eq]
    omega
  have hbb := hb _ (Value.ref (hp.objs.size + 1) :: us) I2.kIn hl
  rw [List.append_nil] at hbb
  refine wpAny_call (PySem.HandSPX.call_own F.excBase_ValueError (fun Y => PySem.HandSPX.refsVE_contains Y bm hbm) (I1.kIn _ _ hC) (PySem.W.looks_findIn I1.kIn iC) (fun self => PySem.W.bind_fn I1.kIn self tI) hus
    (codeAny_mono (F1.run _ X.stack _ _ ⟨Value.ref (hp.objs.size + 1) :: us, []⟩ _ _ _ (fun _ _ _ => False) (hr.make C us []) (I2.env0.make C us []) hbb r2 hq) fun r s' hq' => ?_))
  cases r with
  | error er => exact hx pins σ _ _ er s' I2 hq'
  | ok fl =>
    cases fl with
    | ret u =>
      obtain ⟨v, H2, os2, bare2, un2, hok2, rv, ev, q2⟩ := hq'
      subst ev
      exact ⟨rv, .ref (hp.objs.size + 1), H2, I2.call' (ch := []) os2 un2 hok2 bare2 (fun b z => absurd z (by simp)), rfl, q2⟩
    | next => exact False.elim hq'
    | brk => exact False.elim hq'
    | cont => exact False.elim hq'
end
/-- C(e, ..) as a value -/
def tMkV (C : Addr) (sp : Sp) (ta : TA) : TE := fun σ H Q => ta σ H fun vs H1 => vs.length ≤ 1000 ∧ ∀ a, H1 a = none → sp (.ref a :: vs) (upd H1 a (exo a C none)) (fun v H2 => v = .non ∧ Q (.ref a) H2) fun _ _ _ => False
section
variable {X : Cx} {CX : CXT} {x : Str} {C fI : Addr} {k : Nat} {fd : FuncData} {ps : List Str} {sp : Sp} {e : Expr} {es : List Expr} {ta : TA} {p pos : Pos}
theorem pe_exo (T : OexC X.K C) (iC : PySem.W.findIn X.K (.ref C) "__init__" = some (some (.ref fI))) (tI : PySem.W.typeIn X.K (.ref fI) = some (.type "function"))
    (F1 : FnOk X.prog X.w X.K X.mg X.base CX k fI fd ps sp) (hr : Room (k + 1) X.A) (hb : Binds X.K fd ps []) (hx : Passes CX X (fun _ _ _ => False)) (hg : Gl X x) (hm : X.mg x = some (.ref C)) (ha : PA X (e :: es) ta)
    (hdb : (x == ("__debug__" : Str)) = false := by decide) (he : starEach (e :: es) X.env = (false, eval e X.env) :: starEach es X.env := by rfl) (hpl : (backTo pos (starEach es X.env)).any (·.1) = false := by rfl) :
    PE X (.Call (.Name x p) (e :: es) [] pos) (tMkV C sp ta) := by
  refine ⟨fun pins s σ H Q I h => ?_⟩
  refine wpAny_Call_Name_kw (ld_glob I hg hm ?_ hdb)
  refine PySem.W.callWith_K (h₀ := X.base) I.ok.mod.kin T.kC (thn (ha.run pos pins s σ H _ I h) fun us s1 ⟨vs, H1, I1, r1, hz, q1⟩ => ⟨I1.kIn, ?_⟩) he hpl
  exact run_exo T iC tI F1 hr hb hx I1 r1 hz q1
theorem pe_exo0 (T : OexC X.K C) (iC : PySem.W.findIn X.K (.ref C) "__init__" = some (some (.ref fI))) (tI : PySem.W.typeIn X.K (.ref fI) = some (.type "function"))
    (F1 : FnOk X.prog X.w X.K X.mg X.base CX k fI fd ps sp) (hr : Room (k + 1) X.A) (hb : Binds X.K fd ps []) (hx : Passes CX X (fun _ _ _ => False)) (hg : Gl X x) (hm : X.mg x = some (.ref C))
    (hdb : (x == ("__debug__" : Str)) = false := by decide) : PE X (.Call (.Name x p) [] [] pos) (tMkV C sp tNil) := by
  refine ⟨fun pins s σ H Q I h => ?_⟩
  refine wpAny_Call_Name_kw (ld_glob I hg hm ?_ hdb)
  obtain ⟨hz, q1⟩ := h
  exact PySem.W.callWith_K0 I.kIn T.kC (run_exo T iC tI F1 hr hb hx I .nil hz q1)
/-- what isinstance asks of the class -/
structure IsC (K : PySem.W.Frag) (C : Addr) : Prop where
  cl : (PySem.W.clsIn K C).isSome = true
  ga : PySem.W.findIn K (.ref C) "__getattribute__" = some (some (.builtin "BaseException.__getattribute__"))
  gg : PySem.W.findIn K (.ref C) "__getattr__" = some none
  sb : PySem.W.subIn K (.ref C) (.type "BaseException") = some true
  ca : PySem.W.findIn K (.ref C) "__class__" = some (some (.builtin "object.__class__"))
  cn : PySem.W.specialIn K (.builtin "object.__class__") "__get__" = some (some (.builtin "getset_descriptor.__get__"))
  ct : PySem.W.takesIn K (.builtin "object.__class__") = some true
  mo : PySem.W.mroIn K C (.type "object") = some true
  hd : PySem.W.hasDictIn K C = true
def rIsX (K : PySem.W.Frag) : List V → Hp → VK → Prop := fun xs H Q => ∃ (a C : Addr) (c : V) (t : Value) (b : Bool), xs = [.ref a, c] ∧ Held H a C ∧ IsC K C ∧ ClsV c t ∧ PySem.W.kitOne K (.ref C) t = some b ∧ Q (.bl b) H
theorem call_isX : CallR X (.builtin "isinstance") (rIsX X.K) := by
  intro pins s σ H xs us Q I r h
  obtain ⟨a, C, c, t, b, rfl, hh, T, hc, e, q⟩ := h
  cases r with
  | cons rx rr =>
    cases rr with
    | cons rt rr =>
      cases rr
      cases rx
      have ec := hc.eq rt
      subst ec
      obtain ⟨ox, od, J⟩ := held_at I hh
      exact PySem.W.kia_one (PySem.W.kitx_exc T.cl T.ga T.gg T.sb T.ca T.cn T.ct T.mo) I.kIn J e (fun z => nomatch z) fun tk => ⟨.bl b, H, I.kept (t' := tk) fun _ _ z => z, rfl, q⟩
/-- e.f of such an error -/
def tFx (K : PySem.W.Frag) (f : Str) (te : TE) : TE := fun σ H Q => te σ H fun x H1 => ∃ (a C dx : Addr) (fs : List (Str × V)) (v : V), x = .ref a ∧ IsC K C ∧ PySem.W.findIn K (.ref C) f = some none ∧ H1 a = some (exo a C (some dx)) ∧ H1 dx = some (exd dx fs) ∧ fs.lookup f = some v ∧ Q v H1
theorem pe_fx {o : Expr} {te : TE} {f : Str} (he : PE X o te) (hb : attributeBase o f X.env (eval o X.env) = eval o X.env := by rfl) : PE X (.Attribute o f pos) (tFx X.K f te) := by
  refine ⟨fun pins s σ H Q I h => ?_⟩
  refine attr_of hb (thn (he.run pins s σ H _ I h) fun u s1 hh => ?_)
  obtain ⟨y, H1, I1, ry, a, C, dx, fs, v, ey, T, hno, ha, hd, hl, q⟩ := hh
  subst ey
  obtain rfl : u = Value.ref a := ry
  obtain ⟨t1, ho⟩ := exo_at I1.hok ha
  obtain ⟨mA, hns, rel⟩ := exd_at I1.hok hd
  obtain ⟨od, hod, hlk⟩ := lookIn_ns hns
  obtain ⟨u, hu, ru⟩ := RelO.some_of (v := v) (o := mA f) (by rw [← hl]; exact rel f)
  have J : PySem.W.InstAt s1.heap a _ C (some od) := ⟨ho, rfl, rfl, hod⟩
  exact HandSPX.exc_get I1.kIn J T.ga T.gg T.sb (PySem.W.findObj_own T.hd hno rfl (by rw [hlk, hu])) (handed_of ru) ⟨v, H1, I1.tok _, ru, q⟩
end
/-- an error class of the text, as the top has made it -/
structure Err (P : Program) (K : PySem.W.Frag) (mg : Str → Option Value) (x qual : Str) (st : Stmt) (ps attrs : List Str) where
  C : Addr
  f : Addr
  fd : FuncData
  F : FunS P K "__init__" qual st C f fd
  b : Binds K fd ps []
  S : SupC K C C
  T : IsC K C
  g : mg x = some (.ref C)
  ini : PySem.W.findIn K (.ref C) "__init__" = some (some (.ref f))
  tI : PySem.W.typeIn K (.ref f) = some (.type "function")
  no : ∀ y ∈ attrs, PySem.W.findIn K (.ref C) y = some none
/-- what may be written into its text -/
def Say : V → Prop
  | .str y => y.length ≤ 1000
  | .int i => 0 ≤ i ∧ i < 10 ^ 10
  | _ => False
def spI0 (C : Addr) : Sp := fun vs H Q _ => ∃ a, vs = [.ref a] ∧ H a = some (exo a C none) ∧ Q .non H
def spI1 (C : Addr) (n : Str) : Sp := fun vs H Q _ => ∃ a v, vs = [.ref a, v] ∧ H a = some (exo a C none) ∧ Say v ∧
  ∀ dx H', H dx = none → (∀ b o, b ≠ a → H b = some o → H' b = some o) → H' a = some (exo a C (some dx)) → H' dx = some (exd dx [(n, v)]) → Q .non H'
def spI2 (C : Addr) (n m : Str) : Sp := fun vs H Q _ => ∃ a v u, vs = [.ref a, v, u] ∧ H a = some (exo a C none) ∧ Say v ∧ Say u ∧
  ∀ dx H', H dx = none → (∀ b o, b ≠ a → H b = some o → H' b = some o) → H' a = some (exo a C (some dx)) → H' dx = some (exd dx [(m, u), (n, v)]) → Q .non H'
theorem fin1 {H : Hp} {a dx C : Addr} {fs : List (Str × V)} (nd : H dx = none) (ne : dx ≠ a) {R : Hp → Prop}
    (q : ∀ H', H dx = none → (∀ b o, b ≠ a → H b = some o → H' b = some o) → H' a = some (exo a C (some dx)) → H' dx = some (exd dx fs) → R H') : R (upd (upd H dx (exd dx fs)) a (exo a C (some dx))) :=
  q _ nd (fun b o nb e => by rw [upd_ne nb, upd_ne (ne_of_none e nd)]; exact e) upd_same (by rw [upd_ne ne, upd_same])
theorem fin2 {H : Hp} {a dx C : Addr} {fs gs : List (Str × V)} (nd : H dx = none) (ne : dx ≠ a) {R : Hp → Prop}
    (q : ∀ H', H dx = none → (∀ b o, b ≠ a → H b = some o → H' b = some o) → H' a = some (exo a C (some dx)) → H' dx = some (exd dx gs) → R H') : R (upd (upd (upd H dx (exd dx fs)) a (exo a C (some dx))) dx (exd dx gs)) :=
  q _ nd (fun b o nb e => by rw [upd_ne (ne_of_none e nd), upd_ne nb, upd_ne (ne_of_none e nd)]; exact e) (by rw [upd_ne ne.symm, upd_same]) upd_same
theorem digits {i : Int} (h0 : 0 ≤ i) (h : i < 10 ^ 10) : (PySem.Str.ofString (toString i)).length ≤ 10 := toString_length_le h0 (by decide) h
theorem log_of {i : Int} (h0 : 0 ≤ i) (h : i < 10 ^ 10) : i.natAbs.log2 < 1920 := by
  have h1 : i.natAbs < 2 ^ 40 := by omega
  have := PySem.Flt.log2_lt_of (by decide : 0 < 40) h1
  omega
theorem app_len (x y : Str) : (x ++ y).length = x.length + y.length := by
  show (x.cps ++ y.cps).size = x.cps.size + y.cps.size
  exact Array.size_append
theorem Say.two {v : V} (h : Say v) : (∃ y : Str, v = .str y ∧ y.length ≤ 1000) ∨ ∃ i : Int, v = .int i ∧ i.natAbs.log2 < 1920 ∧ (toString i : Str).length ≤ 10 := by
  cases v with
  | str y => exact .inl ⟨y, rfl, h⟩
  | int i =>
    obtain ⟨h0, h1⟩ : 0 ≤ i ∧ i < 10 ^ 10 := h
    exact .inr ⟨i, rfl, log_of h0 h1, digits h0 h1⟩
  | non => exact h.elim
  | bl _ => exact h.elim
  | byt _ => exact h.elim
  | flt _ => exact h.elim
  | ref _ => exact h.elim
  | ty _ => exact h.elim
theorem big {n : Nat} (h : n ≤ 5000) : n ≤ sizeLine := Nat.le_trans h (by decide)
theorem len_app {x y : Str} {a b : Nat} (hx : x.length ≤ a) (hy : y.length ≤ b) : (x ++ y).length ≤ a + b := by
  rw [app_len]
  omega
/-- what is asked of an error's class, as one test -/
def errB (K : PySem.W.Frag) (C f : Addr) (attrs : List Str) : Bool :=
  decide (PySem.W.findIn K (.ref C) "__setattr__" = some (some (.builtin "object.__setattr__"))) && (decide (PySem.W.subIn K (.ref C) (.type "BaseException") = some true) &&
  (decide (PySem.W.typeIn K (.ref C) = some (.type "type")) && (PySem.W.keepIn K (.ref C) && ((PySem.W.clsIn K C).isSome && (decide (PySem.W.mroIn K C (.ref C) = some true) &&
  (decide (PySem.W.ks_superIn K C C "__init__" = some (some (.builtin "ValueError.__init__"))) && (decide (PySem.W.subIn K (.ref C) (.type "ValueError") = some true) && (decide (PySem.W.nsIn K cStatics "thirdparty.any" = some none) &&
  (decide (PySem.W.findIn K (.ref C) "__getattribute__" = some (some (.builtin "BaseException.__getattribute__"))) && (decide (PySem.W.findIn K (.ref C) "__getattr__" = some none) &&
  (decide (PySem.W.findIn K (.ref C) "__class__" = some (some (.builtin "object.__class__"))) && (decide (PySem.W.specialIn K (.builtin "object.__class__") "__get__" = some (some (.builtin "getset_descriptor.__get__"))) &&
  (decide (PySem.W.takesIn K (.builtin "object.__class__") = some true) && (decide (PySem.W.mroIn K C (.type "object") = some true) && (PySem.W.hasDictIn K C &&
  (decide (PySem.W.typeIn K (.ref f) = some (.type "function")) && attrs.all fun y => decide (PySem.W.findIn K (.ref C) y = some none)))))))))))))))))
theorem err_of {P : Program} {K : PySem.W.Frag} {mg : Str → Option Value} {x qual : Str} {st : Stmt} {ps attrs : List Str} {C f : Addr} {fd : FuncData} (F : FunS P K "__init__" qual st C f fd) (b : Binds K fd ps []) (g : mg x = some (.ref C))
    (cls : ∃ nm q N bs bm sn sub ab col dd k0 k1 k2 k3 k5, K.lookup C = some (excClassObj nm q C N bs bm true sn sub ab col dd k0 k1 k2 k3 k5 "ValueError.__new__") ∧ PySem.HandSPX.refsVE bm = true)
    (ini : PySem.W.findIn K (.ref C) "__init__" = some (some (.ref f))) (h : errB K C f attrs = true) : Nonempty { E : Err P K mg x qual st ps attrs // E.C = C } := by
  unfold errB at h
  simp only [Bool.and_eq_true, decide_eq_true_eq, List.all_eq_true] at h
  obtain ⟨h1, h2, h3, h4, h5, h6, h7, h8, h9, h10, h11, h12, h13, h14, h15, h16, h17, h18⟩ := h
  exact ⟨⟨⟨C, f, fd, F, b, ⟨⟨cls, h1, h2, h3, h4⟩, Option.isSome_iff_exists.mp h5, h6, h7, h8, h9⟩, ⟨h5, h10, h11, h2, h12, h13, h14, h15, h16⟩, g, ini, h17, h18⟩, rfl⟩⟩
/-- isinstance between errors of the text: each is of its own class alone, of the class q and a ValueError -/
def isB (K : PySem.W.Frag) (q : Addr) (cs : List Addr) : Bool := (List.range cs.length).all fun i => decide (PySem.W.kitOne K (.ref (cs.getD i 0)) (.type "ValueError") = some true) && (decide (PySem.W.kitOne K (.ref (cs.getD i 0)) (.ref q) = some true) &&
  (List.range cs.length).all fun j => decide (PySem.W.kitOne K (.ref (cs.getD i 0)) (.ref (cs.getD j 0)) = some (decide (i = j))))
theorem isB_of {K : PySem.W.Frag} {q : Addr} {cs : List Addr} (h : isB K q cs = true) {i : Nat} (hi : i < cs.length) : PySem.W.kitOne K (.ref (cs.getD i 0)) (.type "ValueError") = some true ∧ PySem.W.kitOne K (.ref (cs.getD i 0)) (.ref q) = some true ∧
    ∀ j, j < cs.length → PySem.W.kitOne K (.ref (cs.getD i 0)) (.ref (cs.getD j 0)) = some (decide (i = j)) := by
  unfold isB at h
  rw [List.all_eq_true] at h
  have h1 := h i (List.mem_range.mpr hi)
  simp only [Bool.and_eq_true, decide_eq_true_eq, List.all_eq_true] at h1
  exact ⟨h1.1, h1.2.1, fun j hj => h1.2.2 j (List.mem_range.mpr hj)⟩
end QX

set_option Elab.async false
set_option linter.all false
set_option maxRecDepth 100000
set_option maxHeartbeats 4000000
/-! An own error raised, caught, and its field read in the suite. -/
namespace QX
open PySem PySem.Spec PyProof.Rows L2
theorem Err.xf {P : Program} {K : PySem.W.Frag} {mg : Str → Option Value} {x qual : Str} {st : Stmt} {ps attrs : List Str} (R : Err P K mg x qual st ps attrs) : XfC K R.C := ⟨R.T.ga, R.T.gg, R.T.sb, R.T.hd⟩
/-- a callee that may raise, where it is shown that it doesn't -/
theorem passF {X : Cx} : Passes (L2.CX X.prog X.w) X (fun _ _ _ => False) := fun _ _ _ _ _ _ _ c => by
  obtain ⟨_, _, _, _, _, _, _, _, _, _, _, _, z⟩ := c
  exact z.elim
/-- a callee that may raise, in a def that lets it out -/
theorem passE {X : Cx} {E : XK} {E₁ : Value → Shared → Prop} (hs : X.stack = X.env :: X.outer := by rfl) (hf : X.env.frame = some X.env.locals := by rfl) (hex : X.ex = [] := by rfl)
    (hx : X.xe = (fun e s' => wpAny (model X.prog X.w) X.A (leaving X.env e) (fun _ s'' => CX X.prog X.w X.outer X.H_0 X.s_0 E e s'') E₁ s') := by rfl) : Passes (L2.CX X.prog X.w) X E :=
  passes_call (takes_of hs hf hex hx) fun _ _ _ _ h => h
/-- what raise X(v) asks, v its one part -/
theorem mkO1_of {C : Addr} {n : Str} {v : V} {H1 : Hp} {Q : XK} (sv : Say v) (q : ∀ d G, H1 d = none → (∀ b o, H1 b = some o → G b = some o) → G d = some (.xd [(n, v)]) → Q (.ref C) (some d) G) :
    ([v] : List V).length ≤ 1000 ∧ ∀ a, H1 a = none → spI1 C n (.ref a :: ([v] ++ [])) (upd H1 a (exo a C none)) (fun x H2 => x = .non ∧ ∃ (d : Addr) (fs : List (Str × V)), H2 a = some (exo a C (some d)) ∧ H2 d = some (exd d fs) ∧ H1 d = none ∧ Q (.ref C) (some d) (upd (del H2 a) d (.xd fs))) fun _ _ _ => False := by
  refine ⟨by show 1 ≤ 1000; decide, fun a na => ⟨a, v, rfl, upd_same, sv, fun dx H' nd kp ha hd => ⟨rfl, dx, _, ha, hd, ?_, ?_⟩⟩⟩
  · by_cases e : dx = a
    · rw [e, upd_same] at nd
      cases nd
    · rwa [upd_ne e] at nd
  · have n1 : H1 dx = none := by
      by_cases e : dx = a
      · rw [e, upd_same] at nd
        cases nd
      · rwa [upd_ne e] at nd
    refine q dx _ n1 (fun b o hb => ?_) upd_same
    rw [upd_ne (ne_of_none hb n1), del_ne (ne_of_none hb na)]
    exact kp b o (ne_of_none hb na) (by rw [upd_ne (ne_of_none hb na)]; exact hb)
/-- what raise X(v, u) asks -/
theorem mkO2_of {C : Addr} {n m : Str} {v u : V} {H1 : Hp} {Q : XK} (sv : Say v) (su : Say u) (q : ∀ d G, H1 d = none → (∀ b o, H1 b = some o → G b = some o) → G d = some (.xd [(m, u), (n, v)]) → Q (.ref C) (some d) G) :
    ([v, u] : List V).length ≤ 1000 ∧ ∀ a, H1 a = none → spI2 C n m (.ref a :: ([v, u] ++ [])) (upd H1 a (exo a C none)) (fun x H2 => x = .non ∧ ∃ (d : Addr) (fs : List (Str × V)), H2 a = some (exo a C (some d)) ∧ H2 d = some (exd d fs) ∧ H1 d = none ∧ Q (.ref C) (some d) (upd (del H2 a) d (.xd fs))) fun _ _ _ => False := by
  refine ⟨by show 2 ≤ 1000; decide, fun a na => ⟨a, v, u, rfl, upd_same, sv, su, fun dx H' nd kp ha hd => ⟨rfl, dx, _, ha, hd, ?_, ?_⟩⟩⟩
  · by_cases e : dx = a
    · rw [e, upd_same] at nd
      cases nd
    · rwa [upd_ne e] at nd
  · have n1 : H1 dx = none := by
      by_cases e : dx = a
      · rw [e, upd_same] at nd
        cases nd
      · rwa [upd_ne e] at nd
    refine q dx _ n1 (fun b o hb => ?_) upd_same
    rw [upd_ne (ne_of_none hb n1), del_ne (ne_of_none hb na)]
    exact kp b o (ne_of_none hb na) (by rw [upd_ne (ne_of_none hb na)]; exact hb)
end QX

set_option Elab.async false
set_option linter.all false
set_option maxRecDepth 100000
/-! x in t, x not in t, for a tuple t of data and data x -/
namespace IT
open PySem PySem.Spec PyProof.Rows L2
/-- both read as data -/
def Both (K : PySem.W.Frag) (H : Hp) (x y : V) (d : PyData) (ds : List PyData) : Prop := (Dp K H x d ∧ SeqAt.shaped d = true) ∧ Dp K H y (.tuple ds) ∧ SeqAt.shaped (.tuple ds) = true
def rInT (K : PySem.W.Frag) (neg : Bool) : R2 := fun x y H Q => ∃ d ds, Both K H x y d ds ∧ Q (.bl (neg.xor (ds.any fun z => PyData.eqv z d))) H
theorem op_inT {X : Cx} (room : X.A.units + 65 < cLine) : OpR X (compareOp .In) (rInT X.K false) := by
  rintro pins s σ H x y v u Q I rx ry ⟨d, ds, ⟨⟨h1, k1⟩, h2, k2⟩, q⟩
  obtain ⟨_, r1⟩ := Dp.reads I d x v h1 rx
  obtain ⟨_, r2⟩ := Dp.reads I (.tuple ds) y u h2 ry
  refine SeqAt.in_tuple_reads r2 r1 (by have := SeqAt.canLay_of_shaped k2; unfold PyData.canLay0 at this; exact this) (SeqAt.canLay_of_shaped k1) (room_in_shaped k1 room) ⟨.bl _, H, I, rfl, ?_⟩
  rw [Bool.false_xor] at q
  exact q
theorem op_notInT {X : Cx} (room : X.A.units + 65 < cLine) : OpR X (compareOp .NotIn) (rInT X.K true) := by
  rintro pins s σ H x y v u Q I rx ry ⟨d, ds, ⟨⟨h1, k1⟩, h2, k2⟩, q⟩
  obtain ⟨_, r1⟩ := Dp.reads I d x v h1 rx
  obtain ⟨_, r2⟩ := Dp.reads I (.tuple ds) y u h2 ry
  refine SeqAt.notIn_tuple_reads r2 r1 (by have := SeqAt.canLay_of_shaped k2; unfold PyData.canLay0 at this; exact this) (SeqAt.canLay_of_shaped k1) (room_in_shaped k1 room) ⟨.bl _, H, I, rfl, ?_⟩
  rw [Bool.true_xor] at q
  exact q
end IT
namespace IT
open PySem L2
theorem hu65 {A : Around} {k : Nat} (r : Room k A) : A.units + 65 < cLine := by
  have := r.un
  omega
end IT

set_option Elab.async false
set_option linter.all false
set_option maxRecDepth 100000
set_option maxHeartbeats 4000000
/-! tuple * int for every int from 0 on: once is the tuple itself, never is an empty one -/
namespace TR
open PySem PySem.Spec PyProof.Rows L2
theorem tuple_mul1 (l : Addr) (items : Array Value) (n : Nat) (dd : Option Addr) (sl : Array (Option Value)) (u : Tok) :
    Meets (Builtin.«tuple.__mul__» ⟨[.ref l, .int 1 u], []⟩) (fun _ R s => s.heap.get? l = some { cls := .type "tuple", dict := dd, data := .seq items n, slots := sl } ∧ R (.ok (.ret (Value.ref l))) s) :=
  .of_wp fun prog w A R s h => by
    obtain ⟨hp, g, d, tk, os⟩ := s
    obtain ⟨hl, h⟩ := h
    have f1 := AutoSeq1.idx_int
    have c1 : (items.isEmpty || (1 : Int) == 1) = true := by simp
    wp_walk using wpAny_loadPart' hl
    repeat (first
      | (refine wpAny_ite_true (decide_eq_true (by rw [c1])) ?_; wp_walk using wpAny_loadPart' hl)
      | (refine wpAny_ite_false (decide_eq_false (by decide)) ?_; wp_walk using wpAny_loadPart' hl))
    exact ⟨_, rfl, h⟩
theorem tuple_mul0 (l : Addr) (items : Array Value) (n : Nat) (dd : Option Addr) (sl : Array (Option Value)) (u : Tok) (hi : items.isEmpty = false) :
    Meets (Builtin.«tuple.__mul__» ⟨[.ref l, .int 0 u], []⟩) (fun _ R s => s.heap.get? l = some { cls := .type "tuple", dict := dd, data := .seq items n, slots := sl } ∧
      R (.ok (.ret (Value.ref s.heap.objs.size))) { s with heap := s.heap.push { cls := Value.type "tuple", data := Data.seq #[] }, toks := s.toks }) :=
  .of_wp fun prog w A R s h => by
    obtain ⟨hp, g, d, tk, os⟩ := s
    obtain ⟨hl, h⟩ := h
    have f1 := AutoSeq1.idx_int
    have c1 : (items.isEmpty || (0 : Int) == 1) = false := by rw [hi]; rfl
    have c2 : (decide ((0 : Int) ≤ 0) || items.isEmpty) = true := by simp
    wp_walk using wpAny_loadPart' hl
    exact ⟨_, rfl, h⟩
def rRepA (K : PySem.W.Frag) : R2 := fun x y H Q => ∃ l k xs, x = .ref l ∧ y = .int k ∧ SqT K H l xs ∧ xs ≠ [] ∧ 0 ≤ k ∧ k ≤ 1000 ∧ xs.length ≤ 1000 ∧
  (k = 1 → Q (.ref l) H) ∧ (k ≠ 1 → ∀ p, H p = none → Q (.ref p) (upd H p (.tup (List.replicate k.toNat xs).flatten)))
section
variable {X : Cx}
theorem op_repA : OpR X (binaryOp .Mult) (rRepA X.K) := by
  intro pins s σ H x y v u Q I rx ry h
  obtain ⟨l, k, xs, rfl, rfl, hT, hne, h1, h2, hz, q1, q2⟩ := h
  by_cases hk2 : 2 ≤ k
  · exact op_repT pins s σ H _ _ v u Q I rx ry ⟨l, k, xs, rfl, rfl, hT, hne, hk2, h2, hz, q2 (by omega)⟩
  cases rx
  obtain ⟨t, rfl⟩ := ry
  obtain ⟨its, r, ⟨⟨cls, dd, data, sl⟩, ho, hc, n, hd⟩, hs⟩ := I.tuple hT
  simp only at hc hd
  subst hc hd
  have hle : its.length = xs.length := r.length.symm
  have hi : its.toArray.isEmpty = false := by
    cases its with
    | nil => exact absurd (List.eq_nil_of_length_eq_zero hle.symm) hne
    | cons a b => rfl
  have hk : k = 0 ∨ k = 1 := by omega
  rcases hk with rfl | rfl
  · refine wpAny_binaryOp_repeat_ref (T := "tuple") (U := "int") (by decide) ⟨_, ho, rfl⟩ (fun s' => typeIs_int s' 0 t) noFill_tuple_mul F.fills_int_mul F.slot_int_rmul repeat_tuple F.slot_int_index.lookup
      (call_meets F.slot_int_rmul (typeIs_int s 0 t) F.entry_int_rmul (F.args_int_rmul_2 _ _) (int_rmul_tuple 0 t l its.toArray n dd sl)
        ⟨ho, rfl, ⟨_, ho, rfl⟩, call_meets F.slot_tuple_mul ⟨_, ho, rfl⟩ F.entry_tuple_mul (F.args_tuple_mul_2 _ _) (tuple_mul0 l its.toArray n dd sl t hi) ⟨ho, ?_⟩⟩)
    refine ⟨.ref s.heap.objs.size, _, I.laid (t' := s.toks) (o := .tup []) (fun b ob q => Heap.get?_push_of_some _ q) (Nat.le_refl _) ?_, rfl, q2 (by decide) _ (I.hok.fresh (Nat.le_refl _))⟩
    exact ⟨Nat.zero_le _, [], .nil, IsTup.new _ _⟩
  · refine wpAny_binaryOp_repeat_ref (T := "tuple") (U := "int") (by decide) ⟨_, ho, rfl⟩ (fun s' => typeIs_int s' 1 t) noFill_tuple_mul F.fills_int_mul F.slot_int_rmul repeat_tuple F.slot_int_index.lookup
      (call_meets F.slot_int_rmul (typeIs_int s 1 t) F.entry_int_rmul (F.args_int_rmul_2 _ _) (int_rmul_tuple 1 t l its.toArray n dd sl)
        ⟨ho, rfl, ⟨_, ho, rfl⟩, call_meets F.slot_tuple_mul ⟨_, ho, rfl⟩ F.entry_tuple_mul (F.args_tuple_mul_2 _ _) (tuple_mul1 l its.toArray n dd sl t) ⟨ho, ?_⟩⟩)
    exact ⟨.ref l, H, I, rfl, q1 rfl⟩
end
end TR

set_option Elab.async false
set_option linter.all false
set_option maxRecDepth 100000
/-! a field of an instance as one of several targets; a method that may raise, called in a try; an expression that is never come to -/
namespace Fl
open PySem PySem.Spec PyProof.Rows L2
section
variable {X : Cx} {pos : Pos}
/-- o.f = v -/
def gFld (K : PySem.W.Frag) (to : TE) (f : Str) : TG := fun v σ H Q => to σ H fun x H1 => ∃ a C dx fs, x = .ref a ∧ H1 a = some (.ins C dx fs) ∧ Cls K C ∧ NoAttr K C f ∧ fs.length < 1000 ∧ Q σ (upd H1 a (.ins C dx (putF f v fs)))
theorem pg_fld {o : Expr} {to : TE} {f : Str} (ho : PE X o to) : PG X (.Attribute o f pos) (gFld X.K to f) where
  run := by
    intro pins s σ H v u Q I r h
    rw [assign_Attribute]
    refine wpAny_bind (wpAny_holding (thn (ho.run pins s σ H _ I h) ?_))
    rintro ov s1 ⟨x, H1, I1, r1, a, C, dx, fs, rfl, ea, c, n, l, q⟩
    cases r1
    refine wpAny_bind (wpAny_standAt (wpAny_bind (wpAny_holding ?_)))
    exact setattr_ok I1 ea c n l r fun s2 I2 => wpAny_release ⟨σ, _, I2, q⟩
/-- an expression that is never come to -/
def tNo : TE := fun _ _ _ => False
theorem pe_no {e : Expr} : PE X e tNo where
  run := fun _ _ _ _ _ _ h => absurd h id
/-- o.m(..), with what it raises read at the slots -/
def tMethAt (C : Addr) (m : Str) (sp : Sp) (E : L2.St → XK) (ta : TE) (t : TA) : TE := fun σ H Q => tMeth C m sp [] (E σ) ta t σ H Q
section
variable {CX : CXT} {k : Nat} {f C : Addr} {fd : FuncData} {ps : List Str} {sp : Sp} {E : L2.St → XK} {m : Str} {apos : Pos} {e o : Expr} {es : List Expr} {ta : TE} {t : TA} {pl : Sem Bool}
theorem pe_methT (he : PE X o ta) (c : Cls X.K C) (hm : Meth X.K C m f) (F : FnOk X.prog X.w X.K X.mg X.base CX k f fd ps sp) (hr : Room k X.A) (hb : Binds X.K fd ps []) (hx : ∀ σ, PassesAt CX X σ (E σ)) (ha : PA X (e :: es) t)
    (hs : starEach (e :: es) X.env = (false, eval e X.env) :: starEach es X.env := by rfl) (hp : (backTo pos (starEach es X.env)).any (·.1) = false := by rfl)
    (ht : eval (.Call (.Attribute o m apos) (e :: es) [] pos) X.env = (do let ov ← eval o X.env; standAt apos.atName; let (f, first) ← holding [ov] (getMethod ov m pl); callWith pos f first (backTo pos (starEach (e :: es) X.env)) (backToKw pos (keywordEach [] X.env))) := by rfl) :
    PE X (.Call (.Attribute o m apos) (e :: es) [] pos) (tMethAt C m sp E ta t) where
  run := by
    intro pins s σ H Q I h
    refine PySem.W.methodCall_KW (pl := pl) (thn (he.run pins s σ H _ I h) ?_) ht
    rintro u s1 ⟨x, H1, I1, rx, a, dx, fs, rfl, ea, l, q⟩
    cases rx
    refine getmeth_ok I1 ea c hm l (PySem.W.callWith_K (first := [.ref a]) (h₀ := X.base) I.ok.mod.kin hm.kp (thn (ha.run pos pins s1 σ H1 _ I1 q) ?_) hs hp)
    rintro us s2 ⟨vs, H2, I2, r, q2⟩
    rw [List.append_nil] at q2
    exact ⟨I2.kIn, run_fnS (us := .ref a :: us) (vs := .ref a :: vs) F hr hb (hx σ) I2 (.cons rfl r) q2⟩
theorem pe_methT0 (he : PE X o ta) (c : Cls X.K C) (hm : Meth X.K C m f) (F : FnOk X.prog X.w X.K X.mg X.base CX k f fd ps sp) (hr : Room k X.A) (hb : Binds X.K fd ps []) (hx : ∀ σ, PassesAt CX X σ (E σ))
    (ht : eval (.Call (.Attribute o m apos) [] [] pos) X.env = (do let ov ← eval o X.env; standAt apos.atName; let (f, first) ← holding [ov] (getMethod ov m pl); callWith pos f first (backTo pos (starEach [] X.env)) (backToKw pos (keywordEach [] X.env))) := by rfl) :
    PE X (.Call (.Attribute o m apos) [] [] pos) (tMethAt C m sp E ta tNil) where
  run := by
    intro pins s σ H Q I h
    refine PySem.W.methodCall_KW (pl := pl) (thn (he.run pins s σ H _ I h) ?_) ht
    rintro u s1 ⟨x, H1, I1, rx, a, dx, fs, rfl, ea, l, q⟩
    cases rx
    exact getmeth_ok I1 ea c hm l (PySem.W.callWith_K0 (first := [.ref a]) I1.kIn hm.kp (run_fnS (us := [.ref a]) (vs := [.ref a]) F hr hb (hx σ) I1 (.cons rfl .nil) q))
end
end
end Fl

set_option Elab.async false
set_option linter.all false
set_option maxRecDepth 100000
set_option maxHeartbeats 400000
/-! zip(a, b), where each of a and b is a text, a tuple or a list. -/
namespace ZG
open PySem PySem.Spec PyProof.Rows L2

/-- what a zip goes over -/
inductive Src where
  | txt (x : Str) | tup (a : Addr) | lst (a : Addr)
def Src.v : Src → V
  | .txt x => .str x | .tup a => .ref a | .lst a => .ref a
/-- it stands, with these items -/
def Src.has (K : PySem.W.Frag) (H : Hp) : Src → List V → Prop
  | .txt x, ys => ys = x.cps.toList.map fun c => .str ⟨#[c]⟩
  | .tup a, ys => SqT K H a ys
  | .lst a, ys => SqL K H a ys
def Src.cells : Src → List Addr
  | .txt _ => [] | .tup a => [a] | .lst a => [a]
def Src.itAt : Src → Addr → Nat → Heap → Prop
  | .txt x, it, i, h => ∃ t, h.IsStrIter it (strIterType x) x t i
  | .tup a, it, i, h => h.IsTupleIter it a i
  | .lst a, it, i, h => h.IsListIter it a i
theorem Src.itAt_obj {S : Src} {it : Addr} {i : Nat} {h : Heap} (st : S.itAt it i h) : ∃ o, h.get? it = some o ∧ ∀ v, o.data ≠ .cell v := by
  cases S with
  | txt x => obtain ⟨t, o, ho, _, hd⟩ := st; exact ⟨o, ho, fun v q => by rw [hd] at q; cases q⟩
  | tup a => obtain ⟨o, ho, _, hd⟩ := st; exact ⟨o, ho, fun v q => by rw [hd] at q; cases q⟩
  | lst a => obtain ⟨o, ho, _, hd⟩ := st; exact ⟨o, ho, fun v q => by rw [hd] at q; cases q⟩
theorem Src.itAt_keep {S : Src} {it : Addr} {i : Nat} {h h' : Heap} (st : S.itAt it i h) (k : ∀ o, h.get? it = some o → h'.get? it = some o) : S.itAt it i h' := by
  cases S with
  | txt x => obtain ⟨t, o, ho, r⟩ := st; exact ⟨t, o, k o ho, r⟩
  | tup a => obtain ⟨o, ho, r⟩ := st; exact ⟨o, k o ho, r⟩
  | lst a => obtain ⟨o, ho, r⟩ := st; exact ⟨o, k o ho, r⟩
theorem Src.inj {X : Cx} {pins : List (Addr × Obj)} {σ : L2.St} {H : Hp} {s : Shared} (I : Inv X pins σ H s) {S : Src} {xs ys : List V} (h1 : S.has X.K H xs) (h2 : S.has X.K H ys) : xs = ys := by
  cases S with
  | txt x => exact h1.trans h2.symm
  | tup a => exact I.tuple_inj h1 h2
  | lst a => exact I.list_inj h1 h2

theorem Src.draws {X : Cx} {pins : List (Addr × Obj)} {σ : L2.St} {H : Hp} {s : Shared} (I : Inv X pins σ H s) (hh : X.A.in1.handled = none) {S : Src} {it : Addr} {i : Nat} {xs : List V} (hs : S.has X.K H xs) (st : S.itAt it i s.heap) (hne : ∀ c ∈ S.cells, c ≠ it) :
    ∃ (P : Nat → Value → Prop) (St : Nat → Heap → Prop), Draws X.prog X.w X.A.in1 it (it :: S.cells) xs.length P St ∧ St i s.heap ∧ (∀ j v, P j v → ∃ x, xs[j]? = some x ∧ RelV x v) ∧ ∀ j h, St j h → S.itAt it j h := by
  cases S with
  | txt x =>
    obtain ⟨t, st⟩ := st
    have hs : xs = x.cps.toList.map fun c => V.str ⟨#[c]⟩ := hs
    have hl : xs.length = x.cps.size := by rw [hs]; simp
    rw [hl]
    refine ⟨_, _, Draws.text hh it x t, st, fun j v hv => ?_, fun j h q => ⟨t, q⟩⟩
    obtain ⟨c, u, hc, rfl⟩ := hv
    refine ⟨.str ⟨#[c]⟩, ?_, u, rfl⟩
    rw [hs, List.getElem?_map, Array.getElem?_toList, hc]; rfl
  | tup a =>
    obtain ⟨its, rv, p, _⟩ := I.tuple (show SqT X.K H a xs from hs)
    have hl : xs.length = its.toArray.size := by rw [rv.length]; simp
    rw [hl]
    refine ⟨_, _, Draws.tuple hh it a (hne a (List.mem_cons_self ..)) its.toArray, ⟨st, p⟩, fun j v hv => ?_, fun j h q => q.1⟩
    have hv : its[j]? = some v := by simpa using hv
    have hj : j < xs.length := by
      rw [rv.length]
      rcases Nat.lt_or_ge j its.length with z | z
      · exact z
      · rw [List.getElem?_eq_none z] at hv; cases hv
    obtain ⟨u, hu, ru⟩ := rv.get (List.getElem?_eq_getElem hj)
    rw [hv] at hu
    cases hu
    exact ⟨_, List.getElem?_eq_getElem hj, ru⟩
  | lst a =>
    obtain ⟨its, rv, p, _⟩ := I.list (show SqL X.K H a xs from hs)
    have hl : xs.length = its.toArray.size := by rw [rv.length]; simp
    rw [hl]
    refine ⟨_, _, Draws.list hh it a (hne a (List.mem_cons_self ..)) its.toArray, ⟨st, p.isList⟩, fun j v hv => ?_, fun j h q => q.1⟩
    have hv : its[j]? = some v := by simpa using hv
    have hj : j < xs.length := by
      rw [rv.length]
      rcases Nat.lt_or_ge j its.length with z | z
      · exact z
      · rw [List.getElem?_eq_none z] at hv; cases hv
    obtain ⟨u, hu, ru⟩ := rv.get (List.getElem?_eq_getElem hj)
    rw [hv] at hu
    cases hu
    exact ⟨_, List.getElem?_eq_getElem hj, ru⟩

/-- both as they stand at each turn; the items in a new pair -/
def ItG (K : PySem.W.Frag) (S1 S2 : Src) : It where
  go i H := ∃ xs ys, S1.has K H xs ∧ S2.has K H ys ∧ i < xs.length ∧ i < ys.length
  yld i H v H' := ∃ T x y, v = .ref T ∧ H T = none ∧ H' = upd H T (.tup [x, y]) ∧ (∀ xs, S1.has K H xs → xs[i]? = some x) ∧ ∀ ys, S2.has K H ys → ys[i]? = some y
  stop i H := ∃ xs ys, S1.has K H xs ∧ S2.has K H ys ∧ i = min xs.length ys.length
structure Apart (z TI TO i1 i2 : Addr) (S1 S2 : Src) : Prop where
  sep : ZipSep2 z TI TO i1 i2 (i1 :: S1.cells) (i2 :: S2.cells)
  n1 : ∀ c ∈ S1.cells, c ≠ i1
  n2 : ∀ c ∈ S2.cells, c ≠ i2

theorem turnG {P : Program} {w : World} {K : PySem.W.Frag} {elts : List Expr} {kk : Nat} {tpos : Pos} {S1 S2 : Src} {z TI TO i1 i2 : Addr} (D : Apart z TI TO i1 i2 S1 S2) :
    Turn P w K (.Tuple elts kk tpos) (ItG K S1 S2) [z, TI, TO, i1, i2] z (fun i h => (IsZip h z TI TO .none ∧ IsTupOf2 h TI (.ref i1) (.ref i2) ∧ ∃ x y, IsTupOf2 h TO x y) ∧ S1.itAt i1 i h ∧ S2.itAt i2 i h) where
  mem := by simp
  obj := by
    rintro i h ⟨⟨hz, hI, x, y, hO⟩, h1, h2⟩ c hc
    simp only [List.mem_cons, List.not_mem_nil, or_false] at hc
    rcases hc with rfl | rfl | rfl | rfl | rfl
    · exact ⟨_, hz, nofun⟩
    · exact ⟨_, hI, nofun⟩
    · exact ⟨_, hO, nofun⟩
    · exact Src.itAt_obj h1
    · exact Src.itAt_obj h2
  keep := by
    rintro i h h' ⟨⟨hz, hI, x, y, hO⟩, h1, h2⟩ k
    exact ⟨⟨k z (by simp) _ hz, k TI (by simp) _ hI, x, y, k TO (by simp) _ hO⟩, Src.itAt_keep h1 (k i1 (by simp)), Src.itAt_keep h2 (k i2 (by simp))⟩
  item := by
    intro X hP hw hK hc i pins s σ H E I hf ⟨⟨hz, hI, x0, y0, hO⟩, h1, h2⟩ ⟨xs, ys, q1, q2, l1, l2⟩
    subst hP hw hK
    have hh : X.A.in1.handled = none := I.ok.hd hc
    obtain ⟨P1, St1, D1, st1, e1, k1⟩ := Src.draws I hh q1 h1 D.n1
    obtain ⟨P2, St2, D2, st2, e2, k2⟩ := Src.draws I hh q2 h2 D.n2
    have lz : z < s.heap.objs.size := Heap.lt_size hz
    refine wpAny_pyNext_zipD2_item D.sep D1 D2 hz hI hO st1 st2 l1 l2 fun u1 u2 h' tk p1 p2 z' o' n1 n2 hT hsz hk => ?_
    obtain ⟨x, hx, rx⟩ := e1 i u1 p1
    obtain ⟨y, hy, ry⟩ := e2 i u2 p2
    refine ⟨_, rfl, wpAny_letOwnedTupleGo_zip (s := { s with heap := h', toks := tk }) z' fun h'' z'' sb => ?_⟩
    have hT2 := (sb.2 _ (Nat.ne_of_gt lz)).trans hT
    have new : ObjOk X.prog X.w (upd H s.heap.objs.size (.tup [x, y])) h'' s.heap.objs.size (.tup [x, y]) :=
      ⟨by show 2 ≤ sizeLine; decide, [u1, u2], .cons rx (.cons ry .nil), _, hT2, rfl, _, rfl⟩
    have all : ∀ c o, c ∉ [z, TI, TO, i1, i2] → s.heap.get? c = some o → h''.get? c = some o := fun c o hb q => by
      simp only [List.mem_cons, List.not_mem_nil, or_false, not_or] at hb
      exact (sb.2 c hb.1).trans (hk c o hb.1 hb.2.2.1 hb.2.2.2.1 hb.2.2.2.2 q)
    have I1 : Inv X pins σ (upd H s.heap.objs.size (.tup [x, y])) { s with heap := h'', toks := tk } := I.turnedNew all hf (Nat.le_refl _) new
    have lt : ∀ {c o}, s.heap.get? c = some o → c < s.heap.objs.size := fun e => Heap.lt_size e
    obtain ⟨oa, ha, _⟩ := Src.itAt_obj h1
    obtain ⟨ob, hb, _⟩ := Src.itAt_obj h2
    refine ⟨.ref s.heap.objs.size, _, I1, rfl, ⟨_, x, y, rfl, I.hok.fresh (Nat.le_refl _), rfl, fun l hl => by rw [Src.inj I hl q1]; exact hx, fun l hl => by rw [Src.inj I hl q2]; exact hy⟩, ⟨⟨z'', ?_, u1, u2, ?_⟩, ?_, ?_⟩, fun c hcm => ?_⟩
    · exact (sb.2 _ D.sep.TIz).trans (hk _ _ D.sep.TIz D.sep.TITO D.sep.TIi1 D.sep.TIi2 hI)
    · exact (sb.2 _ D.sep.TOz).trans o'
    · exact Src.itAt_keep (k1 _ _ n1) fun o e => (sb.2 _ (Ne.symm D.sep.zi1)).trans e
    · exact Src.itAt_keep (k2 _ _ n2) fun o e => (sb.2 _ (Ne.symm D.sep.zi2)).trans e
    · have hlt : c < s.heap.objs.size := by
        simp only [List.mem_cons, List.not_mem_nil, or_false] at hcm
        rcases hcm with rfl | rfl | rfl | rfl | rfl
        · exact lz
        · exact lt hI
        · exact lt hO
        · exact lt ha
        · exact lt hb
      rw [upd_ne (Nat.ne_of_lt hlt)]
      exact (hf c hcm).1
  done := by
    intro X hP hw hK hc i pins s σ H E I hf ⟨⟨hz, hI, x0, y0, hO⟩, h1, h2⟩ ⟨xs, ys, q1, q2, hend⟩
    subst hP hw hK
    have hh : X.A.in1.handled = none := I.ok.hd hc
    obtain ⟨P1, St1, D1, st1, e1, k1⟩ := Src.draws I hh q1 h1 D.n1
    obtain ⟨P2, St2, D2, st2, e2, k2⟩ := Src.draws I hh q2 h2 D.n2
    refine wpAny_pyNext_zipD2_end D.sep D1 D2 hz hI hO st1 st2 (by omega) (by omega) (by omega) fun h' tk hk => ⟨rfl, I.turnedL (ch := [z, TI, TO, i1, i2]) (fun c o hb q => ?_) hf⟩
    simp only [List.mem_cons, List.not_mem_nil, or_false, not_or] at hb
    exact hk c o hb.1 hb.2.2.1 hb.2.2.2.1 hb.2.2.2.2 q
  self := fun A i s Q E st h => wpAny_pyIter_zip st.1.1 h

/-- the object of its iterator, at the start -/
def Src.o1 (S : Src) (u : Value) : Obj :=
  match S with
  | .txt x => { cls := .type (strIterType x), data := .fields #[u, .int 0 0] }
  | .tup _ => { cls := .type "tuple_iterator", data := .fields #[u, .int 0 0] }
  | .lst _ => { cls := .type "list_iterator", data := .fields #[u, .int 0 0] }
theorem Src.begins {X : Cx} {pins : List (Addr × Obj)} {σ : L2.St} {H : Hp} {s : Shared} (I : Inv X pins σ H s) {S : Src} {xs : List V} (hs : S.has X.K H xs) {u : Value} (hu : RelV S.v u) :
    ∃ G : Heap → Prop, Begins u (S.o1 u) G ∧ G s.heap ∧ (∀ h it, h.get? it = some (S.o1 u) → S.itAt it 0 h) ∧ ∀ c ∈ S.cells, c < s.heap.objs.size := by
  cases S with
  | txt x =>
    obtain ⟨t, rfl⟩ := hu
    exact ⟨_, begins_text x t, trivial, fun h it e => ⟨t, _, e, rfl, rfl⟩, nofun⟩
  | tup a =>
    cases hu
    obtain ⟨its, rv, p, _⟩ := I.tuple (show SqT X.K H a xs from hs)
    obtain ⟨o, ho, _⟩ := id p
    exact ⟨_, begins_tuple a its.toArray, p, fun h it e => ⟨_, e, rfl, rfl⟩, fun c hc => by rw [List.mem_singleton.mp hc]; exact Heap.lt_size ho⟩
  | lst a =>
    cases hu
    obtain ⟨its, rv, p, _⟩ := I.list (show SqL X.K H a xs from hs)
    exact ⟨_, begins_list a its.toArray, p.isList, fun h it e => ⟨_, e, rfl, rfl⟩, fun c hc => by rw [List.mem_singleton.mp hc]; exact p.lt⟩

def iZipG (K : PySem.W.Frag) (ta : TA) : TI := fun σ H R => ta σ H fun vs H1 => ∃ S1 S2 xs ys, vs = [Src.v S1, Src.v S2] ∧ S1.has K H1 xs ∧ S2.has K H1 ys ∧ R (ItG K S1 S2) H1
theorem pi_zipG {X : Cx} {e e2 : Expr} {ta : TA} {p pos tpos : Pos} {elts : List Expr} {kk : Nat} (hg : Gl X "zip") (hm : X.mg "zip" = none) (ha : PA X [e, e2] ta)
    (hs : starEach [e, e2] X.env = (false, eval e X.env) :: starEach [e2] X.env := by rfl) (hpl : (backTo pos (starEach [e2] X.env)).any (·.1) = false := by rfl) :
    PI X (.Tuple elts kk tpos) (.Call (.Name "zip" p) [e, e2] [] pos) (iZipG X.K ta) := by
  refine ⟨fun pins s σ H R I h => Call_ (ld_blt I hg hm PyProof.Rows.boot_zip (PyProof.Rows.callWith_type1 (thn (ha.run pos pins s σ H _ I h) fun us s1 ⟨vs, H1, I1, r1, q1⟩ => ?_) hs hpl))⟩
  obtain ⟨S1, S2, xs, ys, rfl, g1, g2, q⟩ := q1
  cases r1 with
  | cons r rr =>
    cases rr with
    | cons r' rr =>
      cases rr
      obtain ⟨G1, B1, b1, f1, c1⟩ := Src.begins I1 g1 r
      obtain ⟨G2, B2, b2, f2, c2⟩ := Src.begins I1 g2 r'
      refine zip_begins2 B1 B2 b1 b2 ?_
      intro h' hz hI hO o1 o2 hsz hk
      refine wpAny_pyIter_zip hz ?_
      have I2 : Inv X pins σ H1 { s1 with heap := h' } := I1.kept (t' := s1.toks) hk
      have D : Apart (s1.heap.objs.size + 4) (s1.heap.objs.size + 2) (s1.heap.objs.size + 3) s1.heap.objs.size (s1.heap.objs.size + 1) S1 S2 := ⟨zip_sep2 c1 c2, fun c hc => Nat.ne_of_lt (c1 c hc), fun c hc => Nat.ne_of_lt (Nat.lt_succ_of_lt (c2 c hc))⟩
      refine ⟨s1.heap.objs.size + 4, [s1.heap.objs.size + 4, s1.heap.objs.size + 2, s1.heap.objs.size + 3, s1.heap.objs.size, s1.heap.objs.size + 1], _, _, H1, rfl, I2, turnG D, ⟨⟨hz, hI, _, _, hO⟩, f1 _ _ o1, f2 _ _ o2⟩, fun c hc => ?_, q⟩
      have hle : s1.heap.objs.size ≤ c := by
        simp only [List.mem_cons, List.not_mem_nil, or_false] at hc
        rcases hc with rfl | rfl | rfl | rfl | rfl
        · exact Nat.le_add_right _ _
        · exact Nat.le_add_right _ _
        · exact Nat.le_add_right _ _
        · exact Nat.le_refl _
        · exact Nat.le_add_right _ _
      exact I1.fpOk hle (I1.hok.fresh hle)

theorem walkG {K : PySem.W.Frag} {S1 S2 : Src} {xs ys : List V} {n : Nat} (hn : n = min xs.length ys.length) : Walk (ItG K S1 S2) n (fun H => S1.has K H xs ∧ S2.has K H ys) (YPair (fun i => xs[i]?) (fun i => ys[i]?)) := by
  refine ⟨fun i _ hi q => ⟨xs, ys, q.1, q.2, by omega, by omega⟩, fun _ q => ⟨xs, ys, q.1, q.2, hn⟩, fun i H v H' _ q y => ?_⟩
  obtain ⟨T, x, w, e1, e2, e3, e4, e5⟩ := y
  exact ⟨T, x, w, e1, e2, e3, e4 xs q.1, e5 ys q.2⟩
end ZG

set_option Elab.async false
set_option linter.all false
set_option maxRecDepth 100000
set_option maxHeartbeats 1000000
/-! A second layer: values as data, objects by number, a law's defs as transformers over these.
A reading of the hand layer is had from the data's reading, once for each construct. -/
namespace DT
open PySem PySem.Spec PyProof.Rows L2 Lw WD GxR
/-- a value: tuples by what they hold; ro: a list that nobody writes; ref: the object of that number; con: any other thing -/
inductive D where
  | non
  | bl (b : Bool)
  | int (i : Int)
  | str (x : Str)
  | con (v : V)
  | tup (ds : List D)
  | ro (ds : List D)
  | ref (n : Nat)
/-- an object that may be written -/
inductive Ob where
  | lst (ds : List D)
  | ins (c : Str) (fs : List (Str × D))
  | dct (kvs : List (Key × D))
abbrev Sto := List Ob
structure Wl where
  ads : List Addr
  imm : List (Addr × HO)
structure Ext (w w' : Wl) : Prop where
  pre : ∃ l, w'.ads = w.ads ++ l
  sub : ∀ q ∈ w.imm, q ∈ w'.imm
theorem Ext.rfl {w : Wl} : Ext w w := ⟨⟨[], (List.append_nil _).symm⟩, fun _ h => h⟩
theorem Ext.trans {a b c : Wl} (h : Ext a b) (k : Ext b c) : Ext a c := by
  obtain ⟨⟨l, e⟩, s⟩ := h
  obtain ⟨⟨m, f⟩, t⟩ := k
  exact ⟨⟨l ++ m, by rw [f, e, List.append_assoc]⟩, fun q hq => t q (s q hq)⟩
theorem Ext.ads {w w' : Wl} (h : Ext w w') {n : Nat} {a : Addr} (e : w.ads[n]? = some a) : w'.ads[n]? = some a := by
  obtain ⟨⟨l, f⟩, _⟩ := h
  rw [f, List.getElem?_append_left (List.getElem?_eq_some_iff.mp e).1]
  exact e
/-- a list that stands, of the law's text or of the program's top -/
def LstAt (K : PySem.W.Frag) (L : List (Addr × HO)) (a : Addr) (xs : List V) : Prop :=
  (∃ u, (a, u) ∈ L ∧ (u = .lst xs ∨ ∃ o, u = .frz o (.lst xs))) ∨ ∀ H : Hp, SqL K H a xs
theorem LstAt.sq {K : PySem.W.Frag} {L : List (Addr × HO)} {H : Hp} {a : Addr} {xs : List V} (h : LstAt K L a xs) (hL : ∀ q ∈ L, H q.1 = some q.2) : SqL K H a xs := by
  rcases h with ⟨u, hm, rfl | ⟨o, rfl⟩⟩ | h
  · exact SqL.of (hL _ hm)
  · exact .inl (.inr ⟨o, hL _ hm⟩)
  · exact h H
theorem LstAt.mono {K : PySem.W.Frag} {L M : List (Addr × HO)} {a : Addr} {xs : List V} (h : LstAt K L a xs) (s : ∀ q ∈ L, q ∈ M) : LstAt K M a xs := by
  rcases h with ⟨u, hm, h⟩ | h
  · exact .inl ⟨u, s _ hm, h⟩
  · exact .inr h
inductive Rep (K : PySem.W.Frag) (w : Wl) : V → D → Prop
  | non : Rep K w .non .non
  | bl (b : Bool) : Rep K w (.bl b) (.bl b)
  | int (i : Int) : Rep K w (.int i) (.int i)
  | str (x : Str) : Rep K w (.str x) (.str x)
  | con (v : V) : Rep K w v (.con v)
  | tup {a : Addr} {xs : List V} {ds : List D} : TupAt K w.imm a xs → xs.length = ds.length → (∀ (i : Nat) (x : V) (d : D), xs[i]? = some x → ds[i]? = some d → Rep K w x d) → Rep K w (.ref a) (.tup ds)
  | ro {a : Addr} {xs : List V} {ds : List D} : LstAt K w.imm a xs → xs.length = ds.length → (∀ (i : Nat) (x : V) (d : D), xs[i]? = some x → ds[i]? = some d → Rep K w x d) → Rep K w (.ref a) (.ro ds)
  | ref {n : Nat} {a : Addr} : w.ads[n]? = some a → Rep K w (.ref a) (.ref n)
abbrev Reps (K : PySem.W.Frag) (w : Wl) : List V → List D → Prop := Paired (Rep K w)
theorem Rep.mono {K : PySem.W.Frag} {w w' : Wl} (s : Ext w w') {v : V} {d : D} (r : Rep K w v d) : Rep K w' v d := by
  induction r with
  | non => exact .non
  | bl b => exact .bl b
  | int i => exact .int i
  | str x => exact .str x
  | con v => exact .con v
  | tup t l _ ih => exact .tup (t.mono s.sub) l ih
  | ro t l _ ih => exact .ro (t.mono s.sub) l ih
  | ref e => exact .ref (s.ads e)
theorem Reps.mono {K : PySem.W.Frag} {w w' : Wl} (s : Ext w w') {vs : List V} {ds : List D} (r : Reps K w vs ds) : Reps K w' vs ds := paired_imp (fun _ _ z => z.mono s) r
theorem reps_of {R : V → D → Prop} : ∀ {xs : List V} {ds : List D}, xs.length = ds.length → (∀ (i : Nat) x d, xs[i]? = some x → ds[i]? = some d → R x d) → Paired R xs ds
  | [], [], _, _ => .nil
  | x :: xs, d :: ds, l, h => .cons (h 0 x d rfl rfl) (reps_of (by simpa using l) fun i y e h1 h2 => h (i + 1) y e (by simpa using h1) (by simpa using h2))
theorem pr_get2 {α β : Type} {R : α → β → Prop} {xs : List α} {ys : List β} (h : Paired R xs ys) {i : Nat} {x : α} {y : β} (a : xs[i]? = some x) (b : ys[i]? = some y) : R x y := by
  obtain ⟨z, hz, r⟩ := pr_get h a
  rw [b] at hz
  cases hz
  exact r
theorem Rep.tup_of {K : PySem.W.Frag} {w : Wl} {a : Addr} {xs : List V} {ds : List D} (t : TupAt K w.imm a xs) (p : Reps K w xs ds) : Rep K w (.ref a) (.tup ds) :=
  .tup t p.length fun _ _ _ h1 h2 => pr_get2 p h1 h2
theorem Rep.tup_at {K : PySem.W.Frag} {w : Wl} {v : V} {ds : List D} (r : Rep K w v (.tup ds)) : ∃ a xs, v = .ref a ∧ TupAt K w.imm a xs ∧ Reps K w xs ds := by
  cases r with
  | tup t l h => exact ⟨_, _, rfl, t, reps_of l h⟩
theorem Rep.ro_at {K : PySem.W.Frag} {w : Wl} {v : V} {ds : List D} (r : Rep K w v (.ro ds)) : ∃ a xs, v = .ref a ∧ LstAt K w.imm a xs ∧ Reps K w xs ds := by
  cases r with
  | ro t l h => exact ⟨_, _, rfl, t, reps_of l h⟩
theorem Rep.ref_at {K : PySem.W.Frag} {w : Wl} {v : V} {n : Nat} (r : Rep K w v (.ref n)) : ∃ a, v = .ref a ∧ w.ads[n]? = some a := by
  cases r with
  | ref e => exact ⟨_, rfl, e⟩
theorem Rep.int_at {K : PySem.W.Frag} {w : Wl} {v : V} {i : Int} (r : Rep K w v (.int i)) : v = .int i := by cases r; rfl
theorem Rep.str_at {K : PySem.W.Frag} {w : Wl} {v : V} {i : Str} (r : Rep K w v (.str i)) : v = .str i := by cases r; rfl
theorem Rep.bl_at {K : PySem.W.Frag} {w : Wl} {v : V} {i : Bool} (r : Rep K w v (.bl i)) : v = .bl i := by cases r; rfl
theorem Rep.non_at {K : PySem.W.Frag} {w : Wl} {v : V} (r : Rep K w v .non) : v = .non := by cases r; rfl
theorem Rep.con_at {K : PySem.W.Frag} {w : Wl} {v u : V} (r : Rep K w v (.con u)) : v = u := by cases r; rfl
/-- what stays as it is through the law -/
structure Ctx where
  K : PySem.W.Frag
  mg : Str → Option Value
  tb : List Addr
def RepO (C : Ctx) (w : Wl) : HO → Ob → Prop
  | .lst xs, .lst ds => Reps C.K w xs ds
  | .ins A _ fs, .ins c gs => C.mg c = some (.ref A) ∧ Paired (fun p q => p.1 = q.1 ∧ Rep C.K w p.2 q.2) fs gs
  | .dK ks, .dct gs => Paired (fun p q => p.1 = q.1 ∧ Rep C.K w p.2 q.2) ks gs
  | _, _ => False
theorem RepO.mono {C : Ctx} {w w' : Wl} (s : Ext w w') {u : HO} {o : Ob} (h : RepO C w u o) : RepO C w' u o := by
  cases u <;> cases o <;> first
    | exact False.elim h
    | exact Reps.mono s h
    | exact ⟨h.1, paired_imp (fun _ _ z => ⟨z.1, z.2.mono s⟩) h.2⟩
    | exact paired_imp (fun _ _ z => ⟨z.1, z.2.mono s⟩) (show Paired _ _ _ from h)
theorem RepO.not_tbl {C : Ctx} {w : Wl} {t : Array Value} {o : Ob} (h : RepO C w (.tbl t) o) : False := by cases o <;> exact h
structure Holds (C : Ctx) (H0 : Hp) (w : Wl) (S : Sto) (H : Hp) : Prop where
  imm : ∀ q ∈ w.imm, H q.1 = some q.2
  old : Same H0 H
  len : w.ads.length = S.length
  nd : w.ads.Nodup
  new : ∀ a ∈ w.ads, H0 a = none
  apart : ∀ q ∈ w.imm, q.1 ∉ w.ads
  plain : ∀ q ∈ w.imm, ∀ t, q.2 ≠ .tbl t
  ob : ∀ (n : Nat) (a : Addr) (o : Ob), w.ads[n]? = some a → S[n]? = some o → ∃ u, H a = some u ∧ RepO C w u o
  tab : ∀ p ∈ C.tb, H0 p = none ∧ ∃ t : Array Value, H p = some (.tbl t) ∧ TriplesOk t.toList
section
variable {C : Ctx} {H0 H H' : Hp} {w w' : Wl} {S : Sto} {a : Addr} {u : HO}
theorem Holds.fresh (h : Holds C H0 w S H) (n : H a = none) : a ∉ w.ads := fun z => by
  obtain ⟨i, hi⟩ := List.mem_iff_getElem?.mp z
  have hl := (List.getElem?_eq_some_iff.mp hi).1
  rw [h.len] at hl
  obtain ⟨u, e, _⟩ := h.ob i a _ hi (List.getElem?_eq_getElem hl)
  rw [n] at e
  cases e
/-- more stands -/
theorem Holds.same (h : Holds C H0 w S H) (s : Same H H') : Holds C H0 w S H' where
  imm q hq := s _ _ (h.imm q hq)
  old := h.old.trans s
  len := h.len
  nd := h.nd
  new := h.new
  apart := h.apart
  plain := h.plain
  ob n a o h1 h2 := by
    obtain ⟨u, e, r⟩ := h.ob n a o h1 h2
    exact ⟨u, s _ _ e, r⟩
  tab p hp := by
    obtain ⟨e, t, k, ok⟩ := h.tab p hp
    exact ⟨e, t, s _ _ k, ok⟩
theorem Holds.skip (h : Holds C H0 w S H) (n : H a = none) : Holds C H0 w S (upd H a u) := h.same (same_upd n)
/-- something that nobody writes is laid -/
theorem Holds.lay (h : Holds C H0 w S H) (n : H a = none) (s : Same H H') (e : H' a = some u) (hk : ∀ t, u ≠ .tbl t) : Holds C H0 ⟨w.ads, (a, u) :: w.imm⟩ S H' := by
  have hs := h.same s
  refine ⟨fun q hq => ?_, hs.old, hs.len, hs.nd, hs.new, fun q hq => ?_, fun q hq => (List.mem_cons.mp hq).elim (fun z => by rw [z]; exact hk) (hs.plain q), fun i b o h1 h2 => ?_, hs.tab⟩
  · rcases List.mem_cons.mp hq with z | z
    · rw [z]; exact e
    · exact hs.imm q z
  · rcases List.mem_cons.mp hq with z | z
    · rw [z]; exact h.fresh n
    · exact hs.apart q z
  · obtain ⟨x, e, r⟩ := hs.ob i b o h1 h2
    exact ⟨x, e, RepO.mono (w := w) (w' := ⟨w.ads, (a, u) :: w.imm⟩) ⟨⟨[], (List.append_nil _).symm⟩, fun _ z => List.mem_cons_of_mem _ z⟩ r⟩
theorem ext_lay {q : Addr × HO} : Ext w ⟨w.ads, q :: w.imm⟩ := ⟨⟨[], (List.append_nil _).symm⟩, fun _ z => List.mem_cons_of_mem _ z⟩
theorem ext_add : Ext w ⟨w.ads ++ [a], w.imm⟩ := ⟨⟨[a], rfl⟩, fun _ z => z⟩
/-- a new object -/
theorem Holds.add {o : Ob} (h : Holds C H0 w S H) (n : H a = none) (s : Same H H') (e : H' a = some u) (r : RepO C w u o) : Holds C H0 ⟨w.ads ++ [a], w.imm⟩ (S ++ [o]) H' := by
  have hs := h.same s
  have fr := h.fresh n
  refine ⟨hs.imm, hs.old, ?_, ?_, fun b hb => ?_, fun q hq hb => ?_, hs.plain, fun i b x h1 h2 => ?_, hs.tab⟩
  · rw [List.length_append, List.length_append, h.len]; rfl
  · refine List.nodup_append.mpr ⟨h.nd, List.nodup_cons.mpr ⟨List.not_mem_nil, List.nodup_nil⟩, fun x hx y hy => ?_⟩
    have : y = a := by simpa using hy
    subst this
    exact fun z => fr (z ▸ hx)
  · rcases List.mem_append.mp hb with z | z
    · exact h.new b z
    · have : b = a := by simpa using z
      subst this
      exact h.old.free n
  · rcases List.mem_append.mp hb with z | z
    · exact h.apart q hq z
    · have z : q.1 = a := by simpa using z
      have := h.imm q hq
      rw [z, n] at this
      cases this
  · by_cases hi : i < w.ads.length
    · rw [List.getElem?_append_left hi] at h1
      rw [List.getElem?_append_left (by rw [← h.len]; exact hi)] at h2
      obtain ⟨y, e, r⟩ := hs.ob i b x h1 h2
      exact ⟨y, e, r.mono ext_add⟩
    · have hi2 : i = w.ads.length := by
        have := (List.getElem?_eq_some_iff.mp h1).1
        rw [List.length_append] at this
        have : i < w.ads.length + 1 := this
        omega
      subst hi2
      rw [List.getElem?_append_right (Nat.le_refl _), Nat.sub_self] at h1
      rw [h.len, List.getElem?_append_right (Nat.le_refl _), Nat.sub_self] at h2
      cases h1
      cases h2
      exact ⟨u, e, r.mono ext_add⟩
/-- an object is written -/
theorem Holds.put {o o' : Ob} {i : Nat} {v : HO} (h : Holds C H0 w S H) (hi : w.ads[i]? = some a) (ho : S[i]? = some o) (r : RepO C w v o') : Holds C H0 w (S.set i o') (upd H a v) := by
  obtain ⟨u, e, ru⟩ := h.ob i a o hi ho
  have hm : a ∈ w.ads := List.mem_of_getElem? hi
  refine ⟨fun q hq => ?_, fun b x hb => ?_, by rw [List.length_set]; exact h.len, h.nd, h.new, h.apart, h.plain, fun j b x h1 h2 => ?_, fun p hp => ?_⟩
  · rw [upd_ne (fun z : q.1 = a => h.apart q hq (by rw [z]; exact hm))]
    exact h.imm q hq
  · rw [upd_ne (fun z => by rw [z, h.new a hm] at hb; cases hb)]
    exact h.old b x hb
  · by_cases hj : i = j
    · subst hj
      rw [hi] at h1
      cases h1
      rw [List.getElem?_set_self (List.getElem?_eq_some_iff.mp ho).1] at h2
      cases h2
      exact ⟨v, upd_same, r⟩
    · rw [List.getElem?_set_ne hj] at h2
      obtain ⟨y, e, ry⟩ := h.ob j b x h1 h2
      refine ⟨y, ?_, ry⟩
      rw [upd_ne (fun z => ?_)]
      · exact e
      · subst z
        obtain ⟨g1, f1⟩ := List.getElem?_eq_some_iff.mp hi
        obtain ⟨g2, f2⟩ := List.getElem?_eq_some_iff.mp h1
        exact hj ((List.getElem_inj h.nd).mp (f1.trans f2.symm))
  · obtain ⟨n, t, k, ok⟩ := h.tab p hp
    refine ⟨n, t, ?_, ok⟩
    rw [upd_ne (fun z => ?_)]
    · exact k
    · subst z
      rw [k] at e
      cases e
      exact ru.not_tbl
/-- a table has grown -/
theorem Holds.tabbed {p : Addr} (h : Holds C H0 w S H) (hp : p ∈ C.tb) (t : Tabbed p H H') : Holds C H0 w S H' := by
  obtain ⟨⟨t', e', ok'⟩, k⟩ := t
  obtain ⟨n0, t0, e0, _⟩ := h.tab p hp
  have kp : ∀ b o, H b = some o → (∀ q, o ≠ .tbl q) → H' b = some o := fun b o e nn => by
    refine (k b (fun z => ?_)).trans e
    rw [z, e0] at e
    cases e
    exact nn _ rfl
  refine ⟨fun q hq => ?_, fun b o e => ?_, h.len, h.nd, h.new, h.apart, h.plain, fun i b o h1 h2 => ?_, fun r hr => ?_⟩
  · by_cases z : q.1 = p
    · have := h.imm q hq
      rw [z, e0] at this
      exact absurd (Option.some.inj this).symm (h.plain q hq t0)
    · exact (k _ z).trans (h.imm q hq)
  · exact (k b (fun z => by rw [z, n0] at e; cases e)).trans (h.old b o e)
  · obtain ⟨u, e, r⟩ := h.ob i b o h1 h2
    exact ⟨u, kp b u e (fun q z => by subst z; exact r.not_tbl), r⟩
  · by_cases z : r = p
    · subst z
      exact ⟨n0, t', e', ok'⟩
    · obtain ⟨n, t, e, ok⟩ := h.tab r hr
      exact ⟨n, t, (k r z).trans e, ok⟩
end
/-! ### transformers over data, and when a reading is had from one -/
abbrev DE := List (Option D)
abbrev DK := D → Sto → Prop
abbrev XE := DE → Sto → DK → Prop
abbrev XT := DE → Sto → (Bool → Sto → Prop) → Prop
abbrev XA := DE → Sto → (List D → Sto → Prop) → Prop
abbrev XO := DE → Sto → (Option Int → Sto → Prop) → Prop
abbrev X2 := D → D → Sto → DK → Prop
abbrev XG := D → DE → Sto → (DE → Sto → Prop) → Prop
abbrev XGs := List D → DE → Sto → (DE → Sto → Prop) → Prop
abbrev XF := List D → Sto → DK → Prop
structure XD where
  nx : DE → Sto → Prop
  rt : DK
  bk : DE → Sto → Prop := fun _ _ => False
  ct : DE → Sto → Prop := fun _ _ => False
abbrev XS := XD → DE → Sto → Prop
structure EnvR (K : PySem.W.Frag) (w : Wl) (σ : L2.St) (ρ : DE) : Prop where
  len : σ.length = ρ.length
  at_ : ∀ (i : Nat) (d : D), ρ[i]? = some (some d) → ∃ v, σ[i]? = some (some v) ∧ Rep K w v d
theorem EnvR.mono {K : PySem.W.Frag} {w w' : Wl} {σ : L2.St} {ρ : DE} (e : EnvR K w σ ρ) (s : Ext w w') : EnvR K w' σ ρ :=
  ⟨e.len, fun i d h => by
    obtain ⟨v, h1, h2⟩ := e.at_ i d h
    exact ⟨v, h1, h2.mono s⟩⟩
theorem EnvR.set {K : PySem.W.Frag} {w : Wl} {σ : L2.St} {ρ : DE} {v : V} {d : D} (e : EnvR K w σ ρ) (i : Nat) (r : Rep K w v d) : EnvR K w (σ.set i (some v)) (ρ.set i (some d)) := by
  refine ⟨by rw [List.length_set, List.length_set, e.len], fun j x h => ?_⟩
  by_cases hj : i = j
  · subst hj
    by_cases hi : i < ρ.length
    · rw [List.getElem?_set_self hi] at h
      cases h
      exact ⟨v, List.getElem?_set_self (by rw [e.len]; exact hi), r⟩
    · rw [List.getElem?_eq_none (by rw [List.length_set]; omega)] at h
      cases h
  · rw [List.getElem?_set_ne hj] at h ⊢
    exact e.at_ j x h
theorem EnvR.none {K : PySem.W.Frag} {w : Wl} {σ : L2.St} {ρ : DE} (e : EnvR K w σ ρ) (i : Nat) : EnvR K w (σ.set i none) (ρ.set i none) := by
  refine ⟨by rw [List.length_set, List.length_set, e.len], fun j x h => ?_⟩
  by_cases hj : i = j
  · subst hj
    by_cases hi : i < ρ.length
    · rw [List.getElem?_set_self hi] at h
      cases h
    · rw [List.getElem?_eq_none (by rw [List.length_set]; omega)] at h
      cases h
  · rw [List.getElem?_set_ne hj] at h ⊢
    exact e.at_ j x h
def xwipe (ρ : DE) : List Nat → DE
  | [] => ρ
  | v :: vs => (xwipe ρ vs).set v none
theorem EnvR.wiped {K : PySem.W.Frag} {w : Wl} {σ : L2.St} {ρ : DE} (e : EnvR K w σ ρ) : ∀ vs : List Nat, EnvR K w (wipe σ vs) (xwipe ρ vs)
  | [] => e
  | v :: vs => by
    unfold wipe xwipe
    exact (EnvR.wiped e vs).none v
section
variable (C : Ctx)
def Kont (H0 : Hp) (w : Wl) (q : DK) (Q : VK) : Prop := ∀ w' S H v d, Ext w w' → Holds C H0 w' S H → Rep C.K w' v d → q d S → Q v H
theorem Kont.mono {C : Ctx} {H0 : Hp} {w w' : Wl} {q : DK} {Q : VK} (k : Kont C H0 w q Q) (s : Ext w w') : Kont C H0 w' q Q := fun _ _ _ _ _ t h r x => k _ _ _ _ _ (s.trans t) h r x
def SE (t : TE) (x : XE) : Prop := ∀ H0 w σ ρ S H Q q, Holds C H0 w S H → EnvR C.K w σ ρ → x ρ S q → Kont C H0 w q Q → t σ H Q
def ST (t : TT) (x : XT) : Prop := ∀ H0 w σ ρ S H (Q : Bool → Hp → Prop) (q : Bool → Sto → Prop), Holds C H0 w S H → EnvR C.K w σ ρ → x ρ S q → (∀ w' S' H' b, Ext w w' → Holds C H0 w' S' H' → q b S' → Q b H') → t σ H Q
/-- n: how many, where that is known from the text -/
def SA (n : Option Nat) (t : TA) (x : XA) : Prop := ∀ H0 w σ ρ S H (Q : List V → Hp → Prop) (q : List D → Sto → Prop), Holds C H0 w S H → EnvR C.K w σ ρ → x ρ S q →
  (∀ w' S' H' vs ds, Ext w w' → Holds C H0 w' S' H' → Reps C.K w' vs ds → (∀ m, n = some m → ds.length = m) → q ds S' → Q vs H') → t σ H Q
def SO (t : TO) (x : XO) : Prop := ∀ H0 w σ ρ S H (Q : Option Int → Hp → Prop) (q : Option Int → Sto → Prop), Holds C H0 w S H → EnvR C.K w σ ρ → x ρ S q → (∀ w' S' H' b, Ext w w' → Holds C H0 w' S' H' → q b S' → Q b H') → t σ H Q
def S2 (r : R2) (g : X2) : Prop := ∀ H0 w S H x y dx dy Q q, Holds C H0 w S H → Rep C.K w x dx → Rep C.K w y dy → g dx dy S q → Kont C H0 w q Q → r x y H Q
def S1 (r : V → Hp → VK → Prop) (g : D → Sto → DK → Prop) : Prop := ∀ H0 w S H x dx Q q, Holds C H0 w S H → Rep C.K w x dx → g dx S q → Kont C H0 w q Q → r x H Q
def SC (r : List V → Hp → VK → Prop) (g : XF) : Prop := ∀ H0 w S H xs dxs Q q, Holds C H0 w S H → Reps C.K w xs dxs → g dxs S q → Kont C H0 w q Q → r xs H Q
def SM (r : V → List V → Hp → VK → Prop) (g : D → XF) : Prop := ∀ H0 w S H x dx xs dxs Q q, Holds C H0 w S H → Rep C.K w x dx → Reps C.K w xs dxs → g dx dxs S q → Kont C H0 w q Q → r x xs H Q
def SSl (r : V → Option Int → Option Int → Hp → VK → Prop) (g : D → Option Int → Option Int → Sto → DK → Prop) : Prop := ∀ H0 w S H x dx lo hi Q q, Holds C H0 w S H → Rep C.K w x dx → g dx lo hi S q → Kont C H0 w q Q → r x lo hi H Q
def KontN (H0 : Hp) (w : Wl) (q : DE → Sto → Prop) (Q : L2.St → Hp → Prop) : Prop := ∀ w' σ ρ S H, Ext w w' → Holds C H0 w' S H → EnvR C.K w' σ ρ → q ρ S → Q σ H
theorem KontN.mono {C : Ctx} {H0 : Hp} {w w' : Wl} {q : DE → Sto → Prop} {Q : L2.St → Hp → Prop} (k : KontN C H0 w q Q) (s : Ext w w') : KontN C H0 w' q Q := fun _ _ _ _ _ t h r x => k _ _ _ _ _ (s.trans t) h r x
structure KontS (H0 : Hp) (w : Wl) (d : XD) (D : Ends) : Prop where
  nx : KontN C H0 w d.nx D.nx
  rt : Kont C H0 w d.rt D.rt
  bk : KontN C H0 w d.bk D.bk
  ct : KontN C H0 w d.ct D.ct
theorem KontS.mono {C : Ctx} {H0 : Hp} {w w' : Wl} {d : XD} {D : Ends} (k : KontS C H0 w d D) (s : Ext w w') : KontS C H0 w' d D := ⟨k.nx.mono s, k.rt.mono s, k.bk.mono s, k.ct.mono s⟩
def SS (t : TS) (x : XS) : Prop := ∀ H0 w σ ρ S H D d, Holds C H0 w S H → EnvR C.K w σ ρ → x d ρ S → KontS C H0 w d D → t D σ H
def SG (g : TG) (x : XG) : Prop := ∀ H0 w σ ρ S H v d Q q, Holds C H0 w S H → EnvR C.K w σ ρ → Rep C.K w v d → x d ρ S q → KontN C H0 w q Q → g v σ H Q
def SGs (g : TGs) (x : XGs) : Prop := ∀ H0 w σ ρ S H vs ds Q q, Holds C H0 w S H → EnvR C.K w σ ρ → Reps C.K w vs ds → x ds ρ S q → KontN C H0 w q Q → g vs σ H Q
end
/-- a list is told item by item before it is used (so that it is reckoned once) -/
def forceL {α : Type} : List α → (List α → Prop) → Prop
  | [], k => k []
  | x :: xs, k => forceL xs fun ys => k (x :: ys)
theorem forceL_eq {α : Type} : ∀ (l : List α) (k : List α → Prop), forceL l k = k l
  | [], _ => rfl
  | x :: xs, k => forceL_eq xs fun ys => k (x :: ys)
/-- with what is there -/
abbrev oEl {α : Type} (o : Option α) (k : α → Prop) : Prop := @Option.rec α (fun _ => Prop) False k o
theorem oEl_inv {α : Type} {o : Option α} {k : α → Prop} (h : oEl o k) : ∃ a, o = some a ∧ k a := by
  cases o with
  | none => exact False.elim h
  | some a => exact ⟨a, rfl, h⟩
theorem oEl_of {α : Type} {o : Option α} {k : α → Prop} {a : α} (e : o = some a) (h : k a) : @Option.rec α (fun _ => Prop) False k o := by
  rw [e]
  exact h
/-- a choice, ready to be told by cases -/
abbrev bIf (b : Bool) (A B : Prop) : Prop := @Bool.rec (fun _ => Prop) B A b
/-! ### names, constants, operations -/
section
variable {C : Ctx}
def xVar (i : Nat) : XE := fun ρ S q => match ρ[i]? with
  | some (some d) => q d S
  | _ => False
theorem se_var (i : Nat) : SE C (tVar i) (xVar i) := by
  intro H0 w σ ρ S H Q q h e x k
  unfold xVar at x
  split at x
  · rename_i d hd
    obtain ⟨v, hv, r⟩ := e.at_ i d hd
    exact ⟨v, hv, k _ _ _ _ _ .rfl h r x⟩
  · exact x.elim
def xC (d : D) : XE := fun _ S q => q d S
theorem se_c {v : V} {d : D} (r : ∀ w, Rep C.K w v d) : SE C (tC v) (xC d) := fun _ w _ _ _ _ _ _ h _ x k => k _ _ _ _ _ .rfl h (r w) x
theorem se_int {i : Int} : SE C (tC (.int i)) (xC (.int i)) := se_c fun _ => .int i
theorem se_str {i : Str} : SE C (tC (.str i)) (xC (.str i)) := se_c fun _ => .str i
theorem se_bl {i : Bool} : SE C (tC (.bl i)) (xC (.bl i)) := se_c fun _ => .bl i
theorem se_non : SE C (tC .non) (xC .non) := se_c fun _ => .non
theorem se_con {v : V} : SE C (tC v) (xC (.con v)) := se_c fun _ => .con v
def xOp (g : X2) (a b : XE) : XE := fun ρ S q => a ρ S fun x S1 => b ρ S1 fun y S2 => g x y S2 q
theorem se_op {r : R2} {g : X2} {ta tb : TE} {a b : XE} (hr : S2 C r g) (ha : SE C ta a) (hb : SE C tb b) : SE C (tOp r ta tb) (xOp g a b) :=
  fun H0 w σ ρ S H Q q h e x k => ha H0 w σ ρ S H _ _ h e x fun w1 S1 H1 v1 d1 s1 h1 r1 x1 => hb H0 w1 σ ρ S1 H1 _ _ h1 (e.mono s1) x1 fun w2 S2 H2 v2 d2 s2 h2 r2 x2 =>
    hr H0 w2 S2 H2 v1 v2 d1 d2 Q q h2 (r1.mono s2) r2 x2 (k.mono (s1.trans s2))
def xUn (g : D → Sto → DK → Prop) (a : XE) : XE := fun ρ S q => a ρ S fun x S1 => g x S1 q
theorem se_un {r : V → Hp → VK → Prop} {g : D → Sto → DK → Prop} {ta : TE} {a : XE} (hr : S1 C r g) (ha : SE C ta a) : SE C (tUn r ta) (xUn g a) :=
  fun H0 w σ ρ S H Q q h e x k => ha H0 w σ ρ S H _ _ h e x fun w1 S1 H1 v1 d1 s1 h1 r1 x1 => hr H0 w1 S1 H1 v1 d1 Q q h1 r1 x1 (k.mono s1)
/-- two rules for one construct -/
theorem s2_l {r r' : R2} {g : X2} (h : S2 C r g) : S2 C (fun x y H Q => r x y H Q ∨ r' x y H Q) g := fun _ _ _ _ _ _ _ _ _ _ a b c d e => .inl (h _ _ _ _ _ _ _ _ _ _ a b c d e)
theorem s2_or {r r' : R2} {g : X2} (h : ∀ H0 w S H x y dx dy Q q, Holds C H0 w S H → Rep C.K w x dx → Rep C.K w y dy → g dx dy S q → Kont C H0 w q Q → r x y H Q ∨ r' x y H Q) : S2 C (fun x y H Q => r x y H Q ∨ r' x y H Q) g := h
/-- the list that is an object -/
@[irreducible] def look (S : Sto) (n : Nat) : Option (List D) := match S[n]? with
  | some (.lst ds) => some ds
  | _ => none
theorem look_of {S : Sto} {n : Nat} {ds : List D} (h : S[n]? = some (.lst ds)) : look S n = some ds := by
  unfold look
  simp only [h]
theorem of_look {S : Sto} {n : Nat} {ds : List D} (h : look S n = some ds) : S[n]? = some (.lst ds) := by
  unfold look at h
  split at h
  · cases h
    assumption
  · cases h
/-- what a value holds, if it is a list or a tuple -/
def seqD (S : Sto) : D → Option (List D)
  | .tup ds => some ds
  | .ro ds => some ds
  | .ref n => look S n
  | _ => none
theorem Holds.lst {H0 : Hp} {w : Wl} {S : Sto} {H : Hp} {n : Nat} {ds : List D} {v : V} (h : Holds C H0 w S H) (r : Rep C.K w v (.ref n)) (e : look S n = some ds) : ∃ a xs, v = .ref a ∧ w.ads[n]? = some a ∧ H a = some (.lst xs) ∧ Reps C.K w xs ds := by
  obtain ⟨a, rfl, ha⟩ := r.ref_at
  obtain ⟨u, hu, ru⟩ := h.ob n a _ ha (of_look e)
  cases u <;> first
    | exact False.elim ru
    | exact ⟨a, _, rfl, ha, hu, ru⟩
theorem Holds.ins {H0 : Hp} {w : Wl} {S : Sto} {H : Hp} {n : Nat} {c : Str} {gs : List (Str × D)} {v : V} (h : Holds C H0 w S H) (r : Rep C.K w v (.ref n)) (e : S[n]? = some (.ins c gs)) :
    ∃ a A dx fs, v = .ref a ∧ w.ads[n]? = some a ∧ H a = some (.ins A dx fs) ∧ C.mg c = some (.ref A) ∧ Paired (fun p q => p.1 = q.1 ∧ Rep C.K w p.2 q.2) fs gs := by
  obtain ⟨a, rfl, ha⟩ := r.ref_at
  obtain ⟨u, hu, ru⟩ := h.ob n a _ ha e
  cases u <;> first
    | exact False.elim ru
    | exact ⟨a, _, _, _, rfl, ha, hu, ru.1, ru.2⟩
theorem seq_of {H0 : Hp} {w : Wl} {S : Sto} {H : Hp} {d : D} {ds : List D} {v : V} (h : Holds C H0 w S H) (r : Rep C.K w v d) (e : seqD S d = some ds) : ∃ a xs, v = .ref a ∧ Reps C.K w xs ds ∧ (SqL C.K H a xs ∨ SqT C.K H a xs) := by
  unfold seqD at e
  split at e
  · cases e
    obtain ⟨a, xs, rfl, t, p⟩ := r.tup_at
    exact ⟨a, xs, rfl, p, .inr (t.sq h.imm)⟩
  · cases e
    obtain ⟨a, xs, rfl, t, p⟩ := r.ro_at
    exact ⟨a, xs, rfl, p, .inl (t.sq h.imm)⟩
  · obtain ⟨a, xs, rfl, _, hl, p⟩ := h.lst r e
    exact ⟨a, xs, rfl, p, .inl (SqL.of hl)⟩
  · cases e
/-! arithmetic -/
def gI (C : Int → Int → Prop) (g : Int → Int → D) : X2 := fun x y S q => match x, y with
  | .int i, .int j => C i j ∧ q (g i j) S
  | _, _ => False
def gI0 (g : Int → Int → D) : X2 := fun x y S q => match x, y with
  | .int i, .int j => q (g i j) S
  | _, _ => False
theorem gI_inv {c : Int → Int → Prop} {g : Int → Int → D} {x y : D} {S : Sto} {q : DK} (h : gI c g x y S q) : ∃ i j, x = .int i ∧ y = .int j ∧ c i j ∧ q (g i j) S := by
  cases x <;> cases y <;> first
    | exact False.elim h
    | exact ⟨_, _, rfl, rfl, h⟩
theorem gI0_inv {g : Int → Int → D} {x y : D} {S : Sto} {q : DK} (h : gI0 g x y S q) : ∃ i j, x = .int i ∧ y = .int j ∧ q (g i j) S := by
  cases x <;> cases y <;> first
    | exact False.elim h
    | exact ⟨_, _, rfl, rfl, h⟩
theorem s2_I {c : Int → Int → Prop} {g : Int → Int → V} {g' : Int → Int → D} (hg : ∀ w i j, Rep C.K w (g i j) (g' i j)) : S2 C (rI c g) (gI c g') := by
  intro H0 w S H x y dx dy Q q h rx ry x1 k
  obtain ⟨i, j, rfl, rfl, hc, x1⟩ := gI_inv x1
  exact ⟨i, j, rx.int_at, ry.int_at, hc, k _ _ _ _ _ .rfl h (hg _ _ _) x1⟩
theorem s2_I0 {g : Int → Int → V} {g' : Int → Int → D} (hg : ∀ w i j, Rep C.K w (g i j) (g' i j)) : S2 C (rI0 g) (gI0 g') := by
  intro H0 w S H x y dx dy Q q h rx ry x1 k
  obtain ⟨i, j, rfl, rfl, x1⟩ := gI0_inv x1
  exact ⟨i, j, rx.int_at, ry.int_at, k _ _ _ _ _ .rfl h (hg _ _ _) x1⟩
theorem s2_sub : S2 C (rI0 fun i j => .int (i - j)) (gI0 fun i j => .int (i - j)) := s2_I0 fun _ _ _ => .int _
theorem s2_mul : S2 C (rI CMulX fun i j => .int (i * j)) (gI CMulX fun i j => .int (i * j)) := s2_I fun _ _ _ => .int _
theorem s2_fdiv : S2 C (rI CDivW fun i j => .int (i / j)) (gI CDivW fun i j => .int (i / j)) := s2_I fun _ _ _ => .int _
theorem s2_mod : S2 C (rI (fun _ j => 0 < j) fun i j => .int (i % j)) (gI (fun _ j => 0 < j) fun i j => .int (i % j)) := s2_I fun _ _ _ => .int _
theorem s2_pow : S2 C (rI CPow fun i j => .int (i ^ j.toNat)) (gI CPow fun i j => .int (i ^ j.toNat)) := s2_I fun _ _ _ => .int _
theorem s2_shl : S2 C (rI CShl fun i j => .int (i * 2 ^ j.toNat)) (gI CShl fun i j => .int (i * 2 ^ j.toNat)) := s2_I fun _ _ _ => .int _
theorem s2_shr : S2 C (rI (fun _ j => 0 ≤ j) fun i j => .int (i / 2 ^ j.toNat)) (gI (fun _ j => 0 ≤ j) fun i j => .int (i / 2 ^ j.toNat)) := s2_I fun _ _ _ => .int _
theorem s2_and : S2 C (rI0 fun i j => .int (Builtin.bitAnd i j)) (gI0 fun i j => .int (Builtin.bitAnd i j)) := s2_I0 fun _ _ _ => .int _
theorem s2_or' : S2 C (rI0 fun i j => .int (Builtin.bitOr i j)) (gI0 fun i j => .int (Builtin.bitOr i j)) := s2_I0 fun _ _ _ => .int _
theorem s2_xor : S2 C (rI0 fun i j => .int (Builtin.bitXor i j)) (gI0 fun i j => .int (Builtin.bitXor i j)) := s2_I0 fun _ _ _ => .int _
theorem s2_lt : S2 C (rI0 fun i j => .bl (decide (i < j))) (gI0 fun i j => .bl (decide (i < j))) := s2_I0 fun _ _ _ => .bl _
theorem s2_le : S2 C (rI0 fun i j => .bl (decide (i ≤ j))) (gI0 fun i j => .bl (decide (i ≤ j))) := s2_I0 fun _ _ _ => .bl _
theorem s2_gt : S2 C (rI0 fun i j => .bl (decide (j < i))) (gI0 fun i j => .bl (decide (j < i))) := s2_I0 fun _ _ _ => .bl _
theorem s2_ge : S2 C (rI0 fun i j => .bl (decide (j ≤ i))) (gI0 fun i j => .bl (decide (j ≤ i))) := s2_I0 fun _ _ _ => .bl _
end
end DT

set_option Elab.async false
set_option linter.all false
set_option maxRecDepth 100000
set_option maxHeartbeats 1000000
namespace DT
open PySem PySem.Spec PyProof.Rows L2 Lw WD GxR
/-! ### data that compares -/
mutual
/-- a value as data, where no object stands in it -/
def pd : D → Option PyData
  | .non => some .none
  | .bl b => some (.bool b)
  | .int i => some (.int i)
  | .str x => some (.str x)
  | .con _ => none
  | .tup ds => (pds ds).map .tuple
  | .ro ds => (pds ds).map .list
  | .ref _ => none
termination_by structural d => d
def pds : List D → Option (List PyData)
  | [] => some []
  | d :: ds => match pd d, pds ds with
    | some x, some xs => some (x :: xs)
    | _, _ => none
termination_by structural ds => ds
end
/-- .. or a list of such, or of lists of such -/
def pd1 (S : Sto) (d : D) : Option PyData := match d with
  | .ref m => match look S m with
    | some ds => (pds ds).map .list
    | none => none
  | d => pd d
def pds1 (S : Sto) : List D → Option (List PyData)
  | [] => some []
  | d :: ds => match pd1 S d, pds1 S ds with
    | some x, some xs => some (x :: xs)
    | _, _ => none
def pdt (S : Sto) (d : D) : Option PyData := match d with
  | .ref m => match look S m with
    | some ds => (pds1 S ds).map .list
    | none => none
  | d => pd d
section
variable {C : Ctx} {H0 H : Hp} {w : Wl} {S : Sto}
mutual
theorem dp_of (hL : ∀ q ∈ w.imm, H q.1 = some q.2) : ∀ (d : D) (v : V) (p : PyData), Rep C.K w v d → pd d = some p → Dp C.K H v p
  | .non, v, p, r, e => by rw [r.non_at]; cases e; exact .non
  | .bl b, v, p, r, e => by rw [r.bl_at]; cases e; exact .bl b
  | .int i, v, p, r, e => by rw [r.int_at]; cases e; exact .int i
  | .str x, v, p, r, e => by rw [r.str_at]; cases e; exact .str x
  | .con u, v, p, r, e => by cases e
  | .tup ds, v, p, r, e => by
    obtain ⟨a, xs, rfl, t, ps⟩ := r.tup_at
    obtain ⟨l, hl, rfl⟩ := Option.map_eq_some_iff.mp (show (pds ds).map .tuple = some p from e)
    exact .tup (t.sq hL) (dps_of2 hL ds xs l ps hl)
  | .ro ds, v, p, r, e => by
    obtain ⟨a, xs, rfl, t, ps⟩ := r.ro_at
    obtain ⟨l, hl, rfl⟩ := Option.map_eq_some_iff.mp (show (pds ds).map .list = some p from e)
    exact .lst (t.sq hL) (dps_of2 hL ds xs l ps hl)
  | .ref n, v, p, r, e => by cases e
theorem dps_of2 (hL : ∀ q ∈ w.imm, H q.1 = some q.2) : ∀ (ds : List D) (vs : List V) (ps : List PyData), Reps C.K w vs ds → pds ds = some ps → DpAll C.K H vs ps
  | [], _, ps, .nil, e => by cases e; exact .nil
  | d :: ds, _, ps, .cons r t, e => by
    unfold pds at e
    split at e
    · rename_i x xs h1 h2
      cases e
      exact .cons (dp_of hL d _ x r h1) (dps_of2 hL ds _ xs t h2)
    · cases e
end
theorem dp_one (h : Holds C H0 w S H) {d : D} {v : V} {p : PyData} (r : Rep C.K w v d) (e : pd1 S d = some p) : Dp C.K H v p := by
  unfold pd1 at e
  split at e
  · rename_i m
    split at e
    · rename_i ds hn
      obtain ⟨l, hl, rfl⟩ := Option.map_eq_some_iff.mp e
      obtain ⟨a, xs, rfl, _, hx, ps⟩ := h.lst r hn
      exact .lst (SqL.of hx) (dps_of2 h.imm ds xs l ps hl)
    · cases e
  · exact dp_of h.imm d v p r e
theorem dps_one (h : Holds C H0 w S H) : ∀ {ds : List D} {vs : List V} {ps : List PyData}, Reps C.K w vs ds → pds1 S ds = some ps → DpAll C.K H vs ps
  | [], _, ps, .nil, e => by cases e; exact .nil
  | d :: ds, _, ps, .cons r t, e => by
    unfold pds1 at e
    split at e
    · rename_i x xs h1 h2
      cases e
      exact .cons (dp_one h r h1) (dps_one h t h2)
    · cases e
theorem dp_top (h : Holds C H0 w S H) {d : D} {v : V} {p : PyData} (r : Rep C.K w v d) (e : pdt S d = some p) : Dp C.K H v p := by
  unfold pdt at e
  split at e
  · rename_i m
    split at e
    · rename_i ds hn
      obtain ⟨l, hl, rfl⟩ := Option.map_eq_some_iff.mp e
      obtain ⟨a, xs, rfl, _, hx, ps⟩ := h.lst r hn
      exact .lst (SqL.of hx) (dps_one h ps hl)
    · cases e
  · exact dp_of h.imm d v p r e
end
/-- equal, not equal -/
def gEq (neg : Bool) : X2 := fun x y S q => match x, y with
  | .int i, .int j => q (.bl (neg.xor (decide (i = j)))) S
  | .str i, .str j => q (.bl (neg.xor (decide (i = j)))) S
  | .bl i, .bl j => q (.bl (neg.xor (decide (i = j)))) S
  | .non, .non => q (.bl (neg.xor true)) S
  | x, y => ∃ a b, pdt S x = some a ∧ pdt S y = some b ∧ SeqAt.shaped a = true ∧ SeqAt.shaped b = true ∧ q (.bl (neg.xor (PyData.eqv a b))) S
theorem gEq_inv {neg : Bool} {x y : D} {S : Sto} {q : DK} (h : gEq neg x y S q) :
    (∃ i j, x = .int i ∧ y = .int j ∧ q (.bl (neg.xor (decide (i = j)))) S) ∨ (∃ i j, x = .str i ∧ y = .str j ∧ q (.bl (neg.xor (decide (i = j)))) S) ∨
    (∃ i j, x = .bl i ∧ y = .bl j ∧ q (.bl (neg.xor (decide (i = j)))) S) ∨ (x = .non ∧ y = .non ∧ q (.bl (neg.xor true)) S) ∨
    ∃ a b, pdt S x = some a ∧ pdt S y = some b ∧ SeqAt.shaped a = true ∧ SeqAt.shaped b = true ∧ q (.bl (neg.xor (PyData.eqv a b))) S := by
  unfold gEq at h
  split at h
  · exact .inl ⟨_, _, rfl, rfl, h⟩
  · exact .inr (.inl ⟨_, _, rfl, rfl, h⟩)
  · exact .inr (.inr (.inl ⟨_, _, rfl, rfl, h⟩))
  · exact .inr (.inr (.inr (.inl ⟨rfl, rfl, h⟩)))
  · exact .inr (.inr (.inr (.inr h)))
section
variable {C : Ctx}
theorem dv_int (i j : Int) : decide (V.int i = V.int j) = decide (i = j) := decide_eq_decide.mpr ⟨fun z => V.int.inj z, fun z => by rw [z]⟩
theorem dv_str (i j : Str) : decide (V.str i = V.str j) = decide (i = j) := decide_eq_decide.mpr ⟨fun z => V.str.inj z, fun z => by rw [z]⟩
theorem dv_bl (i j : Bool) : decide (V.bl i = V.bl j) = decide (i = j) := decide_eq_decide.mpr ⟨fun z => V.bl.inj z, fun z => by rw [z]⟩
theorem s2_eq : S2 C (fun x y H Q => rEq x y H Q ∨ rEqD C.K x y H Q) (gEq false) := by
  intro H0 w S H x y dx dy Q q h rx ry x1 k
  have fin : ∀ b, q (.bl b) S → Q (.bl b) H := fun b z => k _ _ _ _ _ .rfl h (.bl _) z
  rcases gEq_inv x1 with ⟨i, j, rfl, rfl, z⟩ | ⟨i, j, rfl, rfl, z⟩ | ⟨i, j, rfl, rfl, z⟩ | ⟨rfl, rfl, z⟩ | ⟨a, b, ha, hb, sa, sb, z⟩
  · rw [rx.int_at, ry.int_at]
    refine .inl ⟨rfl, ?_⟩
    rw [dv_int]
    rw [Bool.false_xor] at z
    exact fin _ z
  · rw [rx.str_at, ry.str_at]
    refine .inl ⟨rfl, ?_⟩
    rw [dv_str]
    rw [Bool.false_xor] at z
    exact fin _ z
  · rw [rx.bl_at, ry.bl_at]
    refine .inl ⟨rfl, ?_⟩
    rw [dv_bl]
    rw [Bool.false_xor] at z
    exact fin _ z
  · rw [rx.non_at, ry.non_at]
    exact .inl ⟨rfl, fin _ z⟩
  · rw [Bool.false_xor] at z
    exact .inr ⟨a, b, dp_top h rx ha, dp_top h ry hb, sa, sb, fin _ z⟩
theorem s2_ne : S2 C (fun x y H Q => rNe x y H Q ∨ rNeD C.K x y H Q) (gEq true) := by
  intro H0 w S H x y dx dy Q q h rx ry x1 k
  have fin : ∀ b, q (.bl b) S → Q (.bl b) H := fun b z => k _ _ _ _ _ .rfl h (.bl _) z
  rcases gEq_inv x1 with ⟨i, j, rfl, rfl, z⟩ | ⟨i, j, rfl, rfl, z⟩ | ⟨i, j, rfl, rfl, z⟩ | ⟨rfl, rfl, z⟩ | ⟨a, b, ha, hb, sa, sb, z⟩
  · rw [rx.int_at, ry.int_at]
    refine .inl ⟨rfl, ?_⟩
    rw [dv_int]
    rw [Bool.true_xor] at z
    exact fin _ z
  · rw [rx.str_at, ry.str_at]
    refine .inl ⟨rfl, ?_⟩
    rw [dv_str]
    rw [Bool.true_xor] at z
    exact fin _ z
  · rw [rx.bl_at, ry.bl_at]
    refine .inl ⟨rfl, ?_⟩
    rw [dv_bl]
    rw [Bool.true_xor] at z
    exact fin _ z
  · rw [rx.non_at, ry.non_at]
    exact .inl ⟨rfl, fin _ z⟩
  · rw [Bool.true_xor] at z
    exact .inr ⟨a, b, dp_top h rx ha, dp_top h ry hb, sa, sb, fin _ z⟩
/-- is None, is not None -/
def isNon : D → Option Bool
  | .non => some true
  | .con _ => none
  | _ => some false
def gIs (neg : Bool) : X2 := fun x y S q => match y, isNon x with
  | .non, some b => q (.bl (neg.xor b)) S
  | _, _ => False
theorem isNon_ok {K : PySem.W.Frag} {w : Wl} {v : V} {d : D} {b : Bool} (r : Rep K w v d) (e : isNon d = some b) : decide (v = .non) = b := by
  cases r <;> first
    | (cases e; done)
    | (cases e; rfl)
    | (cases e; exact decide_eq_false fun z => by cases z)
theorem gIs_inv {neg : Bool} {x y : D} {S : Sto} {q : DK} (h : gIs neg x y S q) : y = .non ∧ ∃ b, isNon x = some b ∧ q (.bl (neg.xor b)) S := by
  unfold gIs at h
  split at h
  · rename_i e
    exact ⟨rfl, _, e, h⟩
  · exact h.elim
theorem s2_is : S2 C (fun x y H Q => y = .non ∧ Q (.bl (decide (x = .non))) H) (gIs false) := by
  intro H0 w S H x y dx dy Q q h rx ry x1 k
  obtain ⟨rfl, b, e, z⟩ := gIs_inv x1
  refine ⟨ry.non_at, ?_⟩
  rw [isNon_ok rx e]
  rw [Bool.false_xor] at z
  exact k _ _ _ _ _ .rfl h (.bl _) z
theorem s2_isnot : S2 C (fun x y H Q => y = .non ∧ Q (.bl (!decide (x = .non))) H) (gIs true) := by
  intro H0 w S H x y dx dy Q q h rx ry x1 k
  obtain ⟨rfl, b, e, z⟩ := gIs_inv x1
  refine ⟨ry.non_at, ?_⟩
  rw [isNon_ok rx e]
  rw [Bool.true_xor] at z
  exact k _ _ _ _ _ .rfl h (.bl _) z
/-! ### x in a list or a tuple -/
def flatD : D → Option V
  | .non => some .non
  | .bl b => some (.bl b)
  | .int i => some (.int i)
  | .str x => some (.str x)
  | _ => none
theorem flatD_ok {K : PySem.W.Frag} {w : Wl} {v u : V} {d : D} (r : Rep K w v d) (e : flatD d = some u) : v = u ∧ flatV v = true := by
  cases r <;> first
    | (cases e; exact ⟨rfl, rfl⟩)
    | cases e
def flatDs : List D → Option (List V)
  | [] => some []
  | d :: ds => match flatD d, flatDs ds with
    | some v, some vs => some (v :: vs)
    | _, _ => none
theorem flatDs_ok {K : PySem.W.Frag} {w : Wl} : ∀ {ds : List D} {vs us : List V}, Reps K w vs ds → flatDs ds = some us → vs = us ∧ vs.all flatV = true
  | [], _, us, .nil, e => by cases e; exact ⟨rfl, rfl⟩
  | d :: ds, _, us, .cons r t, e => by
    unfold flatDs at e
    split at e
    · rename_i v vs h1 h2
      cases e
      obtain ⟨rfl, f1⟩ := flatD_ok r h1
      obtain ⟨rfl, f2⟩ := flatDs_ok t h2
      exact ⟨rfl, by rw [List.all_cons, f1, f2]; rfl⟩
    · cases e
/-- by plain things, or by data -/
def gIn (neg : Bool) : X2 := fun x y S q => match seqD S y with
  | some ds => match flatD x, flatDs ds with
    | some v, some vs => q (.bl (neg.xor (inV v vs))) S
    | _, _ => match y, pdt S x, pds ds with
      | .tup _, some a, some bs => SeqAt.shaped a = true ∧ SeqAt.shaped (.tuple bs) = true ∧ q (.bl (neg.xor (bs.any fun z => PyData.eqv z a))) S
      | _, _, _ => False
  | none => False
theorem gIn_inv {neg : Bool} {x y : D} {S : Sto} {q : DK} (h : gIn neg x y S q) : ∃ ds, seqD S y = some ds ∧ ((∃ v vs, flatD x = some v ∧ flatDs ds = some vs ∧ q (.bl (neg.xor (inV v vs))) S) ∨
    ∃ a bs, y = .tup ds ∧ pdt S x = some a ∧ pds ds = some bs ∧ SeqAt.shaped a = true ∧ SeqAt.shaped (.tuple bs) = true ∧ q (.bl (neg.xor (bs.any fun z => PyData.eqv z a))) S) := by
  unfold gIn at h
  split at h
  · rename_i ds e
    refine ⟨ds, e, ?_⟩
    split at h
    · exact .inl ⟨_, _, by assumption, by assumption, h⟩
    · split at h
      · cases e
        exact .inr ⟨_, _, rfl, by assumption, by assumption, h⟩
      · exact h.elim
  · exact h.elim
theorem s2_in : S2 C (fun x y H Q => rIn C.K false x y H Q ∨ IT.rInT C.K false x y H Q) (gIn false) := by
  intro H0 w S H x y dx dy Q q h rx ry x1 k
  obtain ⟨ds, e, ⟨v, vs, e1, e2, z⟩ | ⟨a, bs, rfl, e1, e2, s1, s2, z⟩⟩ := gIn_inv x1
  · obtain ⟨p, xs, rfl, ps, hq⟩ := seq_of h ry e
    obtain ⟨rfl, f1⟩ := flatD_ok rx e1
    obtain ⟨rfl, f2⟩ := flatDs_ok ps e2
    refine .inl ⟨p, xs, rfl, hq, f1, f2, ?_⟩
    rw [if_neg Bool.false_ne_true]
    rw [Bool.false_xor] at z
    exact k _ _ _ _ _ .rfl h (.bl _) z
  · refine .inr ⟨a, bs, ⟨⟨dp_top h rx e1, s1⟩, dp_of h.imm _ _ _ ry ?_, s2⟩, k _ _ _ _ _ .rfl h (.bl _) z⟩
    show (pds ds).map PyData.tuple = _
    rw [e2]
    rfl
theorem s2_notin : S2 C (fun x y H Q => rIn C.K true x y H Q ∨ IT.rInT C.K true x y H Q) (gIn true) := by
  intro H0 w S H x y dx dy Q q h rx ry x1 k
  obtain ⟨ds, e, ⟨v, vs, e1, e2, z⟩ | ⟨a, bs, rfl, e1, e2, s1, s2, z⟩⟩ := gIn_inv x1
  · obtain ⟨p, xs, rfl, ps, hq⟩ := seq_of h ry e
    obtain ⟨rfl, f1⟩ := flatD_ok rx e1
    obtain ⟨rfl, f2⟩ := flatDs_ok ps e2
    refine .inl ⟨p, xs, rfl, hq, f1, f2, ?_⟩
    rw [if_pos rfl]
    rw [Bool.true_xor] at z
    exact k _ _ _ _ _ .rfl h (.bl _) z
  · refine .inr ⟨a, bs, ⟨⟨dp_top h rx e1, s1⟩, dp_of h.imm _ _ _ ry ?_, s2⟩, k _ _ _ _ _ .rfl h (.bl _) z⟩
    show (pds ds).map PyData.tuple = _
    rw [e2]
    rfl
end
end DT

set_option Elab.async false
set_option linter.all false
set_option maxRecDepth 100000
set_option maxHeartbeats 1000000
namespace DT
open PySem PySem.Spec PyProof.Rows L2 Lw WD GxR
theorem big_line {n : Nat} (h : n ≤ 1000000) : n ≤ sizeLine := by rw [sizeLine_eq]; omega
theorem big_lt {n : Nat} (h : n < 1000000) : n < sizeLine := by rw [sizeLine_eq]; omega
theorem paired_atI {R : V → D → Prop} {xs : List V} {ds : List D} (p : Paired R xs ds) {i : Int} {d : D} (e : atI ds i = some d) : ∃ v, atI xs i = some v ∧ R v d := by
  unfold atI at e ⊢
  rw [p.length]
  cases h : ixN ds.length i with
  | none => rw [h] at e; cases e
  | some j =>
    rw [h] at e
    obtain ⟨v, hv, r⟩ := paired_at p (show ds[j]? = some d from e)
    exact ⟨v, hv, r⟩
section
variable {C : Ctx}
/-! ### x[i] -/
def gIx : X2 := fun x y S q => match y with
  | .int i => match x with
    | .str z => oEl (atI z.cps.toList i) fun c => z.length ≤ 1000000 ∧ q (.str ⟨#[c]⟩) S
    | x => oEl (seqD S x) fun ds => oEl (atI ds i) fun d => q d S
  | _ => False
theorem gIx_inv {x y : D} {S : Sto} {q : DK} (h : gIx x y S q) : ∃ i, y = .int i ∧ ((∃ z c, x = .str z ∧ atI z.cps.toList i = some c ∧ z.length ≤ 1000000 ∧ q (.str ⟨#[c]⟩) S) ∨ ∃ ds d, seqD S x = some ds ∧ atI ds i = some d ∧ q d S) := by
  unfold gIx at h
  split at h
  · rename_i i
    refine ⟨i, rfl, ?_⟩
    split at h
    · obtain ⟨c, e, h⟩ := oEl_inv h
      exact .inl ⟨_, c, rfl, e, h⟩
    · obtain ⟨ds, e, h⟩ := oEl_inv h
      obtain ⟨d, e2, h⟩ := oEl_inv h
      exact .inr ⟨ds, d, e, e2, h⟩
  · exact h.elim
theorem s2_ix : S2 C (rIx C.K) gIx := by
  intro H0 w S H x y dx dy Q q h rx ry x1 k
  obtain ⟨i, rfl, ⟨z, c, rfl, e, hz, x1⟩ | ⟨ds, d, e, ed, x1⟩⟩ := gIx_inv x1
  · exact .inr (.inr ⟨z, i, c, rx.str_at, ry.int_at, big_line hz, e, k _ _ _ _ _ .rfl h (.str _) x1⟩)
  · obtain ⟨a, xs, rfl, ps, hq⟩ := seq_of h rx e
    obtain ⟨v, hv, r⟩ := paired_atI ps ed
    have fin := k _ _ _ _ _ .rfl h r x1
    rcases hq with hq | hq
    · exact .inl ⟨a, xs, i, v, rfl, ry.int_at, hq, hv, fin⟩
    · exact .inr (.inl ⟨a, xs, i, v, rfl, ry.int_at, hq, hv, fin⟩)
theorem gIx_seq {x : D} {i : Int} {S : Sto} {q : DK} {ds : List D} {d : D} (e : seqD S x = some ds) (hd : atI ds i = some d) (hq : q d S) : gIx x (.int i) S q := by
  have key : oEl (seqD S x) fun ds => oEl (atI ds i) fun d => q d S := oEl_of e (oEl_of hd hq)
  cases x <;> first
    | exact key
    | exact False.elim key
/-! ### a + b, a * b -/
def gAdd : X2 := fun x y S q => match x, y with
  | .int i, .int j => q (.int (i + j)) S
  | .str i, .str j => i.length + j.length ≤ 1000000 ∧ q (.str (i ++ j)) S
  | .tup a, .tup b => a.length + b.length ≤ 1000000 ∧ q (.tup (a ++ b)) S
  | .ref n, .ref m => match look S n, look S m with
    | some a, some b => a.length + b.length ≤ 1000000 ∧ q (.ref S.length) (S ++ [.lst (a ++ b)])
    | _, _ => False
  | _, _ => False
theorem s2_add : S2 C (fun x y H Q => (∃ i j, x = .int i ∧ y = .int j ∧ Q (.int (i + j)) H) ∨ ((∃ i j, x = .str i ∧ y = .str j ∧ i.length + j.length ≤ sizeLine ∧ Q (.str (i ++ j)) H) ∨ (rCatA C.K x y H Q ∨ rCat x y H Q))) gAdd := by
  intro H0 w S H x y dx dy Q q h rx ry x1 k
  unfold gAdd at x1
  split at x1
  · exact .inl ⟨_, _, rx.int_at, ry.int_at, k _ _ _ _ _ .rfl h (.int _) x1⟩
  · exact .inr (.inl ⟨_, _, rx.str_at, ry.str_at, big_line x1.1, k _ _ _ _ _ .rfl h (.str _) x1.2⟩)
  · rename_i da db
    obtain ⟨a, xs, rfl, t1, p1⟩ := rx.tup_at
    obtain ⟨b, ys, rfl, t2, p2⟩ := ry.tup_at
    refine .inr (.inr (.inl ⟨a, b, xs, ys, rfl, rfl, t1.sq h.imm, t2.sq h.imm, ?_, fun e => ?_, fun _ e => ?_, fun _ _ p hp => ?_⟩))
    · rw [p1.length, p2.length]
      exact big_line x1.1
    · subst e
      cases p1
      exact k _ _ _ _ _ .rfl h ry x1.2
    · subst e
      cases p2
      refine k _ _ _ _ _ .rfl h rx ?_
      rw [List.append_nil] at x1
      exact x1.2
    · exact k _ _ _ _ _ ext_lay (h.lay hp (same_upd hp) upd_same fun _ z => by cases z) (.tup_of (.inl (List.mem_cons_self ..)) (Reps.mono ext_lay (paired_app p1 p2))) x1.2
  · split at x1
    · rename_i n m _ _ da db e1 e2
      obtain ⟨a, xs, rfl, _, h1, p1⟩ := h.lst rx e1
      obtain ⟨b, ys, rfl, _, h2, p2⟩ := h.lst ry e2
      refine .inr (.inr (.inr ⟨a, b, xs, ys, rfl, rfl, h1, h2, ?_, fun p hp => ?_⟩))
      · rw [p1.length, p2.length]
        exact big_line x1.1
      · exact k _ _ _ _ _ ext_add (h.add hp (same_upd hp) upd_same (o := .lst (da ++ db)) (paired_app p1 p2)) (.ref (by rw [← h.len]; exact List.getElem?_concat_length ..)) x1.2
    · exact x1.elim
  · exact x1.elim
/-- products of which one part is small, or both not too great -/
def CMulA (i j : Int) : Prop := CMul i j ∨ CMulX i j
def gMul : X2 := fun x y S q => match x, y with
  | .int i, .int j => CMulA i j ∧ q (.int (i * j)) S
  | .ref n, .int k => match look S n with
    | some a => (0 ≤ k ∧ k ≤ 1000000 ∧ a.length * k.toNat ≤ 1000000) ∧ q (.ref S.length) (S ++ [.lst (List.replicate k.toNat a).flatten])
    | _ => False
  | .tup a, .int k => (a ≠ [] ∧ 0 ≤ k ∧ k ≤ 1000 ∧ a.length ≤ 1000) ∧ q (.tup (List.replicate k.toNat a).flatten) S
  | _, _ => False
theorem paired_flat {R : V → D → Prop} {xs : List V} {ds : List D} (p : Paired R xs ds) : ∀ n : Nat, Paired R (List.replicate n xs).flatten (List.replicate n ds).flatten
  | 0 => .nil
  | n + 1 => by
    rw [List.replicate_succ, List.replicate_succ, List.flatten_cons, List.flatten_cons]
    exact paired_app p (paired_flat p n)
/-! ### slices -/
def cutL {α : Type} (xs : List α) (lo hi : Option Int) : List α := (xs.drop (HT.sIx xs.length 0 lo)).take (HT.sIx xs.length xs.length hi - HT.sIx xs.length 0 lo)
theorem cut_paired {R : V → D → Prop} {xs : List V} {ds : List D} (p : Paired R xs ds) (lo hi : Option Int) : Paired R (cutV xs lo hi) (cutL ds lo hi) := by
  unfold cutV cutL
  rw [p.length]
  exact paired_take _ (paired_drop _ p)
theorem cut_whole {ds : List D} {lo hi : Option Int} (h : HT.sIx ds.length 0 lo = 0 ∧ HT.sIx ds.length ds.length hi = ds.length) : cutL ds lo hi = ds := by
  unfold cutL
  rw [h.1, h.2, List.drop_zero, Nat.sub_zero, List.take_length]
def gSl : D → Option Int → Option Int → Sto → DK → Prop := fun x lo hi S q => match x with
  | .tup ds => q (.tup (cutL ds lo hi)) S
  | .str z => z.length ≤ 1000000 ∧ q (.str (cutS z lo hi)) S
  | .ro ds => q (.ref S.length) (S ++ [.lst (cutL ds lo hi)])
  | .ref n => match look S n with
    | some ds => q (.ref S.length) (S ++ [.lst (cutL ds lo hi)])
    | none => False
  | _ => False

theorem s2_mulA : S2 C (fun x y H Q => (rI CMul (fun i j => .int (i * j)) x y H Q ∨ rI CMulX (fun i j => .int (i * j)) x y H Q) ∨ (rRep x y H Q ∨ TR.rRepA C.K x y H Q)) gMul := by
  intro H0 w S H x y dx dy Q q h rx ry x1 k
  unfold gMul at x1
  split at x1
  · rcases x1 with ⟨c | c, x1⟩
    · exact .inl (.inl ⟨_, _, rx.int_at, ry.int_at, c, k _ _ _ _ _ .rfl h (.int _) x1⟩)
    · exact .inl (.inr ⟨_, _, rx.int_at, ry.int_at, c, k _ _ _ _ _ .rfl h (.int _) x1⟩)
  · split at x1
    · rename_i n kk _ da e1
      obtain ⟨a, xs, rfl, _, h1, p1⟩ := h.lst rx e1
      obtain ⟨⟨k0, k1, k2⟩, x1⟩ := x1
      refine .inr (.inl ⟨a, kk, xs, rfl, ry.int_at, h1, by omega, by omega, ?_, fun p hp => ?_⟩)
      · rw [p1.length]
        exact big_line k2
      · exact k _ _ _ _ _ ext_add (h.add hp (same_upd hp) upd_same (o := .lst (List.replicate kk.toNat da).flatten) (paired_flat p1 _)) (.ref (by rw [← h.len]; exact List.getElem?_concat_length ..)) x1
    · exact x1.elim
  · rename_i da kk
    obtain ⟨a, xs, rfl, t1, p1⟩ := rx.tup_at
    obtain ⟨⟨n0, k0, k1, k2⟩, x1⟩ := x1
    refine .inr (.inr ⟨a, kk, xs, rfl, ry.int_at, t1.sq h.imm, ?_, k0, k1, ?_, fun e => ?_, fun e p hp => ?_⟩)
    · intro e
      subst e
      cases p1
      exact n0 rfl
    · rw [p1.length]
      exact k2
    · subst e
      refine k _ _ _ _ _ .rfl h rx ?_
      rw [show (List.replicate (1 : Int).toNat da).flatten = da by simp] at x1
      exact x1
    · exact k _ _ _ _ _ ext_lay (h.lay hp (same_upd hp) upd_same fun _ z => by cases z) (.tup_of (.inl (List.mem_cons_self ..)) (Reps.mono ext_lay (paired_flat p1 _))) x1
  · exact x1.elim
theorem ssl_any : SSl C (fun x lo hi H Q => rSlL C.K x lo hi H Q ∨ (rSlA C.K x lo hi H Q ∨ rSlS x lo hi H Q)) gSl := by
  intro H0 w S H x dx lo hi Q q h rx x1 k
  unfold gSl at x1
  split at x1
  · rename_i ds
    obtain ⟨a, xs, rfl, t1, p1⟩ := rx.tup_at
    refine .inr (.inl ⟨a, xs, rfl, t1.sq h.imm, fun e => ?_, fun _ p hp => ?_⟩)
    · rw [p1.length] at e
      rw [cut_whole e] at x1
      exact k _ _ _ _ _ .rfl h rx x1
    · exact k _ _ _ _ _ ext_lay (h.lay hp (same_upd hp) upd_same fun _ z => by cases z) (.tup_of (.inl (List.mem_cons_self ..)) (Reps.mono ext_lay (cut_paired p1 _ _))) x1
  · exact .inr (.inr ⟨_, rx.str_at, big_line x1.1, k _ _ _ _ _ .rfl h (.str _) x1.2⟩)
  · rename_i ds
    obtain ⟨a, xs, rfl, t1, p1⟩ := rx.ro_at
    refine .inl ⟨a, xs, rfl, t1.sq h.imm, fun p hp => ?_⟩
    exact k _ _ _ _ _ ext_add (h.add hp (same_upd hp) upd_same (o := .lst (cutL ds lo hi)) (cut_paired p1 _ _)) (.ref (by rw [← h.len]; exact List.getElem?_concat_length ..)) x1
  · split at x1
    · rename_i n _ ds e1
      obtain ⟨a, xs, rfl, _, h1, p1⟩ := h.lst rx e1
      refine .inl ⟨a, xs, rfl, SqL.of h1, fun p hp => ?_⟩
      exact k _ _ _ _ _ ext_add (h.add hp (same_upd hp) upd_same (o := .lst (cutL ds lo hi)) (cut_paired p1 _ _)) (.ref (by rw [← h.len]; exact List.getElem?_concat_length ..)) x1
    · exact x1.elim
  · exact x1.elim
def xNoPart : XO := fun _ S q => q none S
def xPart (x : XE) : XO := fun ρ S q => x ρ S fun d S1 => match d with
  | .int i => q (some i) S1
  | _ => False
theorem so_none : SO C tNoPart xNoPart := fun _ _ _ _ _ _ _ _ h _ x k => k _ _ _ _ .rfl h x
theorem so_some {t : TE} {x : XE} (hx : SE C t x) : SO C (tPart t) (xPart x) := by
  intro H0 w σ ρ S H Q q h e x1 k
  refine hx H0 w σ ρ S H _ _ h e x1 fun w1 S1 H1 v1 d1 s1 h1 r1 x2 => ?_
  cases d1 <;> first
    | exact False.elim x2
    | exact ⟨_, r1.int_at, k _ _ _ _ s1 h1 x2⟩
def xSl (g : D → Option Int → Option Int → Sto → DK → Prop) (x : XE) (l h : XO) : XE := fun ρ S q => x ρ S fun d S1 => l ρ S1 fun lo S2 => h ρ S2 fun hi S3 => g d lo hi S3 q
theorem se_sl {r : V → Option Int → Option Int → Hp → VK → Prop} {g : D → Option Int → Option Int → Sto → DK → Prop} {te : TE} {tl th : TO} {x : XE} {l u : XO} (hr : SSl C r g) (hx : SE C te x) (hl : SO C tl l) (hu : SO C th u) : SE C (tSl r te tl th) (xSl g x l u) :=
  fun H0 w σ ρ S H Q q h e x1 k => hx H0 w σ ρ S H _ _ h e x1 fun w1 S1 H1 v1 d1 s1 h1 r1 x2 => hl H0 w1 σ ρ S1 H1 _ _ h1 (e.mono s1) x2 fun w2 S2 H2 lo s2 h2 x3 =>
    hu H0 w2 σ ρ S2 H2 _ _ h2 ((e.mono s1).mono s2) x3 fun w3 S3 H3 hi s3 h3 x4 => hr H0 w3 S3 H3 v1 d1 lo hi Q q h3 ((r1.mono s2).mono s3) x4 (k.mono ((s1.trans s2).trans s3))
/-! ### argument lists, displays -/
def xNil : XA := fun _ S q => q [] S
def xCons (a : XE) (r : XA) : XA := fun ρ S q => a ρ S fun d S1 => r ρ S1 fun ds S2 => q (d :: ds) S2
theorem sa_nil : SA C (some 0) tNil xNil := fun _ _ _ _ _ _ _ _ h _ x k => k _ _ _ _ _ .rfl h .nil (fun m e => by cases e; rfl) x
theorem sa_cons {n : Option Nat} {t : TE} {x : XE} {tr : TA} {xr : XA} (hx : SE C t x) (hr : SA C n tr xr) : SA C (n.map (· + 1)) (tCons t tr) (xCons x xr) :=
  fun H0 w σ ρ S H Q q h e x1 k => hx H0 w σ ρ S H _ _ h e x1 fun w1 S1 H1 v1 d1 s1 h1 r1 x2 => hr H0 w1 σ ρ S1 H1 _ _ h1 (e.mono s1) x2 fun w2 S2 H2 vs ds s2 h2 r2 hn x3 =>
    k _ _ _ _ _ (s1.trans s2) h2 (.cons (r1.mono s2) r2) (fun m em => by
      cases n with
      | none => cases em
      | some m' => cases em; rw [List.length_cons, hn m' rfl]) x3
def xStar (a : XE) (r : XA) : XA := fun ρ S q => a ρ S fun d S1 => match seqD S1 d with
  | some es => r ρ S1 fun ds S2 => q (es ++ ds) S2
  | none => False
theorem sa_star {n : Option Nat} {t : TE} {x : XE} {tr : TA} {xr : XA} (hx : SE C t x) (hr : SA C n tr xr) : SA C none (StX.tStar C.K t tr) (xStar x xr) := by
  intro H0 w σ ρ S H Q q h e x1 k
  refine hx H0 w σ ρ S H _ _ h e x1 fun w1 S1 H1 v1 d1 s1 h1 r1 x2 => ?_
  split at x2
  · rename_i es he
    obtain ⟨a, xs, rfl, ps, hq⟩ := seq_of h1 r1 he
    refine ⟨a, xs, rfl, hq.symm, hr H0 w1 σ ρ S1 H1 _ _ h1 (e.mono s1) x2 fun w2 S2 H2 vs ds s2 h2 r2 hn x3 => ?_⟩
    exact k _ _ _ _ _ (s1.trans s2) h2 (paired_app (Reps.mono s2 ps) r2) (fun m em => by cases em) x3
  · exact x2.elim
/-- a display of a known number of parts -/
def xTup (a : XA) : XE := fun ρ S q => a ρ S fun ds S1 => q (.tup ds) S1
theorem se_tup {n : Nat} {t : TA} {a : XA} (ha : SA C (some n) t a) (hn : n ≤ 1000000) : SE C (tTup t) (xTup a) :=
  fun H0 w σ ρ S H Q q h e x1 k => ha H0 w σ ρ S H _ _ h e x1 fun w1 S1 H1 vs ds s1 h1 r1 l x2 => ⟨by rw [r1.length, l n rfl]; exact big_line hn, fun p hp =>
    k _ _ _ _ _ (s1.trans ext_lay) (h1.lay hp (same_upd hp) upd_same fun _ z => by cases z) (.tup_of (.inl (List.mem_cons_self ..)) (Reps.mono ext_lay r1)) x2⟩
def xTupS (a : XA) : XE := fun ρ S q => a ρ S fun ds S1 => ds.length ≤ 1000000 ∧ q (.tup ds) S1
theorem se_tupS {n : Option Nat} {t : TA} {a : XA} (ha : SA C n t a) : SE C (tTup t) (xTupS a) :=
  fun H0 w σ ρ S H Q q h e x1 k => ha H0 w σ ρ S H _ _ h e x1 fun w1 S1 H1 vs ds s1 h1 r1 l x2 => ⟨by rw [r1.length]; exact big_line x2.1, fun p hp =>
    k _ _ _ _ _ (s1.trans ext_lay) (h1.lay hp (same_upd hp) upd_same fun _ z => by cases z) (.tup_of (.inl (List.mem_cons_self ..)) (Reps.mono ext_lay r1)) x2.2⟩
def xLst (a : XA) : XE := fun ρ S q => a ρ S fun ds S1 => q (.ref S1.length) (S1 ++ [.lst ds])
theorem se_lst {n : Nat} {t : TA} {a : XA} (ha : SA C (some n) t a) (hn : n ≤ 1000000) : SE C (tLst t) (xLst a) :=
  fun H0 w σ ρ S H Q q h e x1 k => ha H0 w σ ρ S H _ _ h e x1 fun w1 S1 H1 vs ds s1 h1 r1 l x2 => ⟨by rw [r1.length, l n rfl]; exact big_line hn, fun p hp =>
    k _ _ _ _ _ (s1.trans ext_add) (h1.add hp (same_upd hp) upd_same (o := .lst ds) r1) (.ref (by rw [← h1.len]; exact List.getElem?_concat_length ..)) x2⟩
def xLstS (a : XA) : XE := fun ρ S q => a ρ S fun ds S1 => ds.length ≤ 1000000 ∧ q (.ref S1.length) (S1 ++ [.lst ds])
theorem se_lstS {n : Option Nat} {t : TA} {a : XA} (ha : SA C n t a) : SE C (tLst t) (xLstS a) :=
  fun H0 w σ ρ S H Q q h e x1 k => ha H0 w σ ρ S H _ _ h e x1 fun w1 S1 H1 vs ds s1 h1 r1 l x2 => ⟨by rw [r1.length]; exact big_line x2.1, fun p hp =>
    k _ _ _ _ _ (s1.trans ext_add) (h1.add hp (same_upd hp) upd_same (o := .lst ds) r1) (.ref (by rw [← h1.len]; exact List.getElem?_concat_length ..)) x2.2⟩
/-- a list that is laid and then only read: nothing is kept of it -/
def xRo (a : XA) : XE := fun ρ S q => a ρ S fun ds S1 => q (.ro ds) S1
theorem se_ro {n : Nat} {t : TA} {a : XA} (ha : SA C (some n) t a) (hn : n ≤ 1000000) : SE C (tLst t) (xRo a) :=
  fun H0 w σ ρ S H Q q h e x1 k => ha H0 w σ ρ S H _ _ h e x1 fun w1 S1 H1 vs ds s1 h1 r1 l x2 => ⟨by rw [r1.length, l n rfl]; exact big_line hn, fun p hp =>
    k _ _ _ _ _ (s1.trans ext_lay) (h1.lay hp (same_upd hp) upd_same fun _ z => by cases z) ((Rep.ro (xs := vs) (.inl ⟨_, List.mem_cons_self .., .inl rfl⟩) r1.length fun _ _ _ e1 e2 => (pr_get2 r1 e1 e2).mono ext_lay)) x2⟩
/-! ### tests, boolean values -/
def xTest (x : XE) : XT := fun ρ S q => x ρ S fun d S1 => match d with
  | .bl b => q b S1
  | _ => False
theorem st_test {t : TE} {x : XE} (hx : SE C t x) : ST C (tTest t) (xTest x) := by
  intro H0 w σ ρ S H Q q h e x1 k
  refine hx H0 w σ ρ S H _ _ h e x1 fun w1 S1 H1 v1 d1 s1 h1 r1 x2 => ?_
  cases d1 <;> first
    | exact False.elim x2
    | exact ⟨_, r1.bl_at, k _ _ _ _ s1 h1 x2⟩
theorem st_b {t : TE} {x : XE} (hx : SE C t x) : ST C (tB t) (xTest x) := st_test hx
def truD (S : Sto) : D → Option Bool
  | .non => some false
  | .bl b => some b
  | .int i => some (i != 0)
  | .tup ds => some (!ds.isEmpty)
  | .ro ds => some (!ds.isEmpty)
  | .str z => if z.length ≤ 1000000 then some ((z.length : Int) != 0) else none
  | .ref n => match look S n with
    | some ds => some (!ds.isEmpty)
    | none => none
  | .con _ => none
theorem paired_empty {R : V → D → Prop} {xs : List V} {ds : List D} (p : Paired R xs ds) : xs.isEmpty = ds.isEmpty := by cases p <;> rfl
theorem tru_of {H0 : Hp} {w : Wl} {S : Sto} {H : Hp} {v : V} {d : D} {b : Bool} (h : Holds C H0 w S H) (r : Rep C.K w v d) (e : truD S d = some b) : TruV C.K v H b := by
  cases d with
  | non => cases e; rw [r.non_at]; exact rfl
  | bl b => cases e; rw [r.bl_at]; exact rfl
  | int i => cases e; rw [r.int_at]; exact rfl
  | str z =>
    rw [r.str_at]
    unfold truD at e
    dsimp only at e
    split at e
    · cases e
      exact ⟨big_line (by assumption), rfl⟩
    · cases e
  | con u => cases e
  | tup ds =>
    cases e
    obtain ⟨a, xs, rfl, t, ps⟩ := r.tup_at
    exact .inr (.inl ⟨xs, t.sq h.imm, by rw [paired_empty ps]⟩)
  | ro ds =>
    cases e
    obtain ⟨a, xs, rfl, t, ps⟩ := r.ro_at
    exact .inl ⟨xs, t.sq h.imm, by rw [paired_empty ps]⟩
  | ref n =>
    unfold truD at e
    dsimp only at e
    split at e
    · rename_i ds hn
      cases e
      obtain ⟨a, xs, rfl, _, hx, ps⟩ := h.lst r hn
      exact .inl ⟨xs, SqL.of hx, by rw [paired_empty ps]⟩
    · cases e
def xTru (x : XE) : XT := fun ρ S q => x ρ S fun d S1 => match truD S1 d with
  | some b => q b S1
  | none => False
theorem st_tru {t : TE} {x : XE} (hx : SE C t x) : ST C (fun σ H Q => t σ H fun x H' => ∃ k, TruV C.K x H' k ∧ Q k H') (xTru x) := by
  intro H0 w σ ρ S H Q q h e x1 k
  refine hx H0 w σ ρ S H _ _ h e x1 fun w1 S1 H1 v1 d1 s1 h1 r1 x2 => ?_
  split at x2
  · rename_i b hb
    exact ⟨b, tru_of h1 r1 hb, k _ _ _ _ s1 h1 x2⟩
  · exact x2.elim
def xAnd (a b : XT) : XT := fun ρ S q => a ρ S fun c S1 => bIf c (b ρ S1 q) (q false S1)
def xOr (a b : XT) : XT := fun ρ S q => a ρ S fun c S1 => bIf c (q true S1) (b ρ S1 q)
def xNot (a : XT) : XT := fun ρ S q => a ρ S fun c S1 => q (!c) S1
theorem st_and {ta tb : TT} {a b : XT} (ha : ST C ta a) (hb : ST C tb b) : ST C (tAnd ta tb) (xAnd a b) := by
  intro H0 w σ ρ S H Q q h e x1 k
  refine ha H0 w σ ρ S H _ _ h e x1 fun w1 S1 H1 c s1 h1 x2 => ?_
  cases c with
  | true => exact hb H0 w1 σ ρ S1 H1 Q q h1 (e.mono s1) x2 fun w2 S2 H2 b s2 h2 x3 => k _ _ _ _ (s1.trans s2) h2 x3
  | false => exact k _ _ _ _ s1 h1 x2
theorem st_or {ta tb : TT} {a b : XT} (ha : ST C ta a) (hb : ST C tb b) : ST C (tOr ta tb) (xOr a b) := by
  intro H0 w σ ρ S H Q q h e x1 k
  refine ha H0 w σ ρ S H _ _ h e x1 fun w1 S1 H1 c s1 h1 x2 => ?_
  cases c with
  | false => exact hb H0 w1 σ ρ S1 H1 Q q h1 (e.mono s1) x2 fun w2 S2 H2 b s2 h2 x3 => k _ _ _ _ (s1.trans s2) h2 x3
  | true => exact k _ _ _ _ s1 h1 x2
theorem st_not {ta : TT} {a : XT} (ha : ST C ta a) : ST C (tNot ta) (xNot a) :=
  fun H0 w σ ρ S H Q q h e x1 k => ha H0 w σ ρ S H _ _ h e x1 fun w1 S1 H1 c s1 h1 x2 => k _ _ _ _ s1 h1 x2
def xAndV (a b : XE) : XE := fun ρ S q => a ρ S fun d S1 => match d with
  | .bl true => b ρ S1 q
  | .bl false => q (.bl false) S1
  | _ => False
def xOrV (a b : XE) : XE := fun ρ S q => a ρ S fun d S1 => match d with
  | .bl true => q (.bl true) S1
  | .bl false => b ρ S1 q
  | _ => False
def xNotV (a : XE) : XE := fun ρ S q => a ρ S fun d S1 => match d with
  | .bl c => q (.bl (!c)) S1
  | _ => False
theorem se_and {ta tb : TE} {a b : XE} (ha : SE C ta a) (hb : SE C tb b) : SE C (tAndV ta tb) (xAndV a b) := by
  intro H0 w σ ρ S H Q q h e x1 k
  refine ha H0 w σ ρ S H _ _ h e x1 fun w1 S1 H1 v1 d1 s1 h1 r1 x2 => ?_
  split at x2
  · exact ⟨true, r1.bl_at, hb H0 w1 σ ρ S1 H1 Q q h1 (e.mono s1) x2 (k.mono s1)⟩
  · exact ⟨false, r1.bl_at, k _ _ _ _ _ s1 h1 (.bl _) x2⟩
  · exact x2.elim
theorem se_or {ta tb : TE} {a b : XE} (ha : SE C ta a) (hb : SE C tb b) : SE C (tOrV ta tb) (xOrV a b) := by
  intro H0 w σ ρ S H Q q h e x1 k
  refine ha H0 w σ ρ S H _ _ h e x1 fun w1 S1 H1 v1 d1 s1 h1 r1 x2 => ?_
  split at x2
  · exact ⟨true, r1.bl_at, k _ _ _ _ _ s1 h1 (.bl _) x2⟩
  · exact ⟨false, r1.bl_at, hb H0 w1 σ ρ S1 H1 Q q h1 (e.mono s1) x2 (k.mono s1)⟩
  · exact x2.elim
theorem se_not {ta : TE} {a : XE} (ha : SE C ta a) : SE C (tNotV ta) (xNotV a) := by
  intro H0 w σ ρ S H Q q h e x1 k
  refine ha H0 w σ ρ S H _ _ h e x1 fun w1 S1 H1 v1 d1 s1 h1 r1 x2 => ?_
  split at x2
  · exact ⟨_, r1.bl_at, k _ _ _ _ _ s1 h1 (.bl _) x2⟩
  · exact x2.elim
def xIf (c : XT) (a b : XE) : XE := fun ρ S q => c ρ S fun k S1 => bIf k (a ρ S1 q) (b ρ S1 q)
theorem se_if {tc : TT} {ta tb : TE} {c : XT} {a b : XE} (hc : ST C tc c) (ha : SE C ta a) (hb : SE C tb b) : SE C (tIf tc ta tb) (xIf c a b) := by
  intro H0 w σ ρ S H Q q h e x1 k
  refine hc H0 w σ ρ S H _ _ h e x1 fun w1 S1 H1 c s1 h1 x2 => ?_
  cases c with
  | true => exact ha H0 w1 σ ρ S1 H1 Q q h1 (e.mono s1) x2 (k.mono s1)
  | false => exact hb H0 w1 σ ρ S1 H1 Q q h1 (e.mono s1) x2 (k.mono s1)
/-- a < b < c -/
def xChain (g g' : X2) (a b c : XE) : XE := fun ρ S q => a ρ S fun x S1 => b ρ S1 fun y S2 => g x y S2 fun z S3 => match z with
  | .bl b => bIf b (c ρ S3 fun u S4 => g' y u S4 fun z' S5 => match z' with
    | .bl k => q (.bl k) S5
    | _ => False) (q (.bl false) S3)
  | _ => False
theorem se_chain {r r' : R2} {g g' : X2} {ta tb tc : TE} {a b c : XE} (hr : S2 C r g) (hr' : S2 C r' g') (ha : SE C ta a) (hb : SE C tb b) (hc : SE C tc c) : SE C (tChain r r' ta tb tc) (xChain g g' a b c) := by
  intro H0 w σ ρ S H Q q h e x k
  refine ha H0 w σ ρ S H _ _ h e x fun w1 S1 H1 v1 d1 s1 h1 r1 x1 => hb H0 w1 σ ρ S1 H1 _ _ h1 (e.mono s1) x1 fun w2 S2 H2 v2 d2 s2 h2 r2 x2 => ?_
  have e2 := (e.mono s1).mono s2
  refine hr H0 w2 S2 H2 v1 v2 d1 d2 _ _ h2 (r1.mono s2) r2 x2 fun w3 S3 H3 v3 d3 s3 h3 r3 x3 => ?_
  split at x3
  rename_i b
  cases b with
  | true =>
    refine ⟨true, r3.bl_at, ?_⟩
    rw [if_pos rfl]
    refine hc H0 w3 σ ρ S3 H3 _ _ h3 (e2.mono s3) x3 fun w4 S4 H4 v4 d4 s4 h4 r4 x4 => ?_
    refine hr' H0 w4 S4 H4 v2 v4 d2 d4 _ _ h4 ((r2.mono s3).mono s4) r4 x4 fun w5 S5 H5 v5 d5 s5 h5 r5 x5 => ?_
    split at x5
    · rename_i kk
      have fin : Q (.bl kk) H5 := k _ _ _ _ _ ((((s1.trans s2).trans s3).trans s4).trans s5) h5 (.bl _) x5
      first
        | exact ⟨kk, r5.bl_at, fin⟩
        | (rw [r5.bl_at]; exact fin)
        | (rw [r5.bl_at]; exact ⟨_, rfl, fin⟩)
    · exact x5.elim
  | false =>
    refine ⟨false, r3.bl_at, ?_⟩
    rw [if_neg Bool.false_ne_true]
    exact k _ _ _ _ _ ((s1.trans s2).trans s3) h3 (.bl _) x3
  exact x3.elim
end
end DT

set_option Elab.async false
set_option linter.all false
set_option maxRecDepth 100000
set_option maxHeartbeats 1000000
namespace DT
open PySem PySem.Spec PyProof.Rows L2 Lw WD GxR
/-! ### calls of the text's own defs -/
/-- the promise of a def whose reading over data is f, with m parameters -/
def spOf (C : Ctx) (m : Nat) (f : XF) : Sp := fun vs H Q _ => ∃ H0 w S ds q, Holds C H0 w S H ∧ Reps C.K w vs ds ∧ ds.length = m ∧ f ds S q ∧ Kont C H0 w q Q
theorem spOf_len {C : Ctx} {m : Nat} {f : XF} {vs : List V} {H : Hp} {Q : VK} {E : XK} (h : spOf C m f vs H Q E) : vs.length = m := by
  obtain ⟨H0, w, S, ds, q, _, r, l, _⟩ := h
  rw [r.length, l]
section
variable {C : Ctx}
def xCall (f : XF) (a : XA) : XE := fun ρ S q => a ρ S fun ds S1 => f ds S1 q
theorem se_call {m : Nat} {f : XF} {t : TA} {a : XA} {E : XK} (ha : SA C (some m) t a) : SE C (tCall (spOf C m f) [] E t) (xCall f a) :=
  fun H0 w σ ρ S H Q q h e x k => ha H0 w σ ρ S H _ _ h e x fun w1 S1 H1 vs ds s1 h1 r1 l x1 => ⟨H0, w1, S1, ds, q, h1, by rw [List.append_nil]; exact r1, l m rfl, x1, k.mono s1⟩
/-- a built-in's -/
theorem se_cb {n : Option Nat} {r : List V → Hp → VK → Prop} {f : XF} {t : TA} {a : XA} (hr : SC C r f) (ha : SA C n t a) : SE C (tCB r t) (xCall f a) :=
  fun H0 w σ ρ S H Q q h e x k => ha H0 w σ ρ S H _ _ h e x fun w1 S1 H1 vs ds s1 h1 r1 l x1 => hr H0 w1 S1 H1 vs ds Q q h1 r1 x1 (k.mono s1)
theorem reps1 {K : PySem.W.Frag} {w : Wl} {vs : List V} {d : D} (r : Reps K w vs [d]) : ∃ v, vs = [v] ∧ Rep K w v d := by
  cases r with
  | cons a b => cases b; exact ⟨_, rfl, a⟩
theorem reps2 {K : PySem.W.Frag} {w : Wl} {vs : List V} {d e : D} (r : Reps K w vs [d, e]) : ∃ v u, vs = [v, u] ∧ Rep K w v d ∧ Rep K w u e := by
  cases r with
  | cons a b =>
    obtain ⟨u, rfl, r2⟩ := reps1 b
    exact ⟨_, _, rfl, a, r2⟩
def fLen : XF := fun ds S q => match ds with
  | [.str z] => z.length ≤ 1000000 ∧ q (.int z.length) S
  | [d] => match seqD S d with
    | some es => q (.int es.length) S
    | none => False
  | _ => False
theorem sc_len : SC C (fun xs H Q => ∃ x n, xs = [x] ∧ LenV C.K x H n ∧ Q (.int n) H) fLen := by
  intro H0 w S H xs dxs Q q h r x k
  unfold fLen at x
  split at x
  · obtain ⟨v, rfl, rv⟩ := reps1 r
    rw [rv.str_at]
    exact ⟨_, _, rfl, ⟨big_line x.1, rfl⟩, k _ _ _ _ _ .rfl h (.int _) x.2⟩
  · split at x
    · rename_i es e
      obtain ⟨v, rfl, rv⟩ := reps1 r
      obtain ⟨a, ys, rfl, ps, hq⟩ := seq_of h rv e
      refine ⟨_, ys.length, rfl, ?_, k _ _ _ _ _ .rfl h (by rw [ps.length]; exact .int _) x⟩
      rcases hq with hq | hq
      · exact .inl ⟨ys, hq, rfl⟩
      · exact .inr ⟨ys, hq, rfl⟩
    · exact x.elim
  · exact x.elim
def fAbs : XF := fun ds S q => match ds with
  | [.int i] => q (.int (if i < 0 then -i else i)) S
  | _ => False
theorem sc_abs : SC C (fun xs H Q => ∃ i, xs = [.int i] ∧ Q (.int (if i < 0 then -i else i)) H) fAbs := by
  intro H0 w S H xs dxs Q q h r x k
  unfold fAbs at x
  split at x
  · obtain ⟨v, rfl, rv⟩ := reps1 r
    rw [rv.int_at]
    exact ⟨_, rfl, k _ _ _ _ _ .rfl h (.int _) x⟩
  · exact x.elim
def fMax : XF := fun ds S q => match ds with
  | [.int i, .int j] => q (.int (if j > i then j else i)) S
  | _ => False
theorem sc_max : SC C (fun xs H Q => ∃ i j, xs = [.int i, .int j] ∧ Q (.int (if j > i then j else i)) H) fMax := by
  intro H0 w S H xs dxs Q q h r x k
  unfold fMax at x
  split at x
  · obtain ⟨v, u, rfl, rv, ru⟩ := reps2 r
    rw [rv.int_at, ru.int_at]
    exact ⟨_, _, rfl, k _ _ _ _ _ .rfl h (.int _) x⟩
  · exact x.elim
def fMin : XF := fun ds S q => match ds with
  | [.int i, .int j] => q (.int (if j < i then j else i)) S
  | _ => False
theorem sc_min : SC C (fun xs H Q => ∃ i j, xs = [.int i, .int j] ∧ Q (.int (if j < i then j else i)) H) fMin := by
  intro H0 w S H xs dxs Q q h r x k
  unfold fMin at x
  split at x
  · obtain ⟨v, u, rfl, rv, ru⟩ := reps2 r
    rw [rv.int_at, ru.int_at]
    exact ⟨_, _, rfl, k _ _ _ _ _ .rfl h (.int _) x⟩
  · exact x.elim
def fInt : XF := fun ds S q => match ds with
  | [.int i] => q (.int i) S
  | [.bl b] => q (.int (if b then 1 else 0)) S
  | _ => False
theorem sc_int : SC C (fun xs H Q => (∃ i, xs = [.int i] ∧ Q (.int i) H) ∨ ∃ k, xs = [.bl k] ∧ Q (.int (if k then 1 else 0)) H) fInt := by
  intro H0 w S H xs dxs Q q h r x k
  unfold fInt at x
  split at x
  · obtain ⟨v, rfl, rv⟩ := reps1 r
    rw [rv.int_at]
    exact .inl ⟨_, rfl, k _ _ _ _ _ .rfl h (.int _) x⟩
  · obtain ⟨v, rfl, rv⟩ := reps1 r
    rw [rv.bl_at]
    exact .inr ⟨_, rfl, k _ _ _ _ _ .rfl h (.int _) x⟩
  · exact x.elim
def fBool : XF := fun ds S q => match ds with
  | [.int i] => q (.bl (i != 0)) S
  | [.bl b] => q (.bl b) S
  | _ => False
theorem sc_bool : SC C (fun xs H Q => (∃ i, xs = [.int i] ∧ Q (.bl (i != 0)) H) ∨ ∃ k, xs = [.bl k] ∧ Q (.bl k) H) fBool := by
  intro H0 w S H xs dxs Q q h r x k
  unfold fBool at x
  split at x
  · obtain ⟨v, rfl, rv⟩ := reps1 r
    rw [rv.int_at]
    exact .inl ⟨_, rfl, k _ _ _ _ _ .rfl h (.bl _) x⟩
  · obtain ⟨v, rfl, rv⟩ := reps1 r
    rw [rv.bl_at]
    exact .inr ⟨_, rfl, k _ _ _ _ _ .rfl h (.bl _) x⟩
  · exact x.elim
def fList : XF := fun ds S q => match ds with
  | [d] => match seqD S d with
    | some es => q (.ref S.length) (S ++ [.lst es])
    | none => False
  | _ => False
theorem sc_list : SC C (fun xs H Q => ∃ p ys, xs = [.ref p] ∧ (SqL C.K H p ys ∨ SqT C.K H p ys) ∧ ∀ l, H l = none → Q (.ref l) (upd H l (.lst ys))) fList := by
  intro H0 w S H xs dxs Q q h r x k
  unfold fList at x
  split at x
  · split at x
    · rename_i es e
      obtain ⟨v, rfl, rv⟩ := reps1 r
      obtain ⟨a, ys, rfl, ps, hq⟩ := seq_of h rv e
      exact ⟨a, ys, rfl, hq, fun p hp => k _ _ _ _ _ ext_add (h.add hp (same_upd hp) upd_same (o := .lst es) ps) (.ref (by rw [← h.len]; exact List.getElem?_concat_length ..)) x⟩
    · exact x.elim
  · exact x.elim
def fTuple : XF := fun ds S q => match ds with
  | [d] => match seqD S d with
    | some es => q (.tup es) S
    | none => False
  | _ => False
theorem sc_tuple : SC C (fun xs H Q => ∃ p ys, xs = [.ref p] ∧ ((SqL C.K H p ys ∧ ∀ l, H l = none → Q (.ref l) (upd H l (.tup ys))) ∨ (SqT C.K H p ys ∧ Q (.ref p) H))) fTuple := by
  intro H0 w S H xs dxs Q q h r x k
  unfold fTuple at x
  split at x
  · rename_i d
    split at x
    · rename_i es e
      obtain ⟨v, rfl, rv⟩ := reps1 r
      cases d with
      | tup ds =>
        cases e
        obtain ⟨a, ys, rfl, t, ps⟩ := rv.tup_at
        exact ⟨a, ys, rfl, .inr ⟨t.sq h.imm, k _ _ _ _ _ .rfl h rv x⟩⟩
      | ro ds =>
        cases e
        obtain ⟨a, ys, rfl, t, ps⟩ := rv.ro_at
        exact ⟨a, ys, rfl, .inl ⟨t.sq h.imm, fun p hp => k _ _ _ _ _ ext_lay (h.lay hp (same_upd hp) upd_same fun _ z => by cases z) (.tup_of (.inl (List.mem_cons_self ..)) (Reps.mono ext_lay ps)) x⟩⟩
      | ref n =>
        obtain ⟨a, ys, rfl, _, hx, ps⟩ := h.lst rv (show look S n = some es from e)
        exact ⟨a, ys, rfl, .inl ⟨SqL.of hx, fun p hp => k _ _ _ _ _ ext_lay (h.lay hp (same_upd hp) upd_same fun _ z => by cases z) (.tup_of (.inl (List.mem_cons_self ..)) (Reps.mono ext_lay ps)) x⟩⟩
      | non => cases e
      | bl b => cases e
      | int i => cases e
      | str z => cases e
      | con u => cases e
    · exact x.elim
  · exact x.elim
/-- the kind of a value -/
def kindD (S : Sto) : D → Option String
  | .non => some "NoneType"
  | .bl _ => some "bool"
  | .int _ => some "int"
  | .str _ => some "str"
  | .tup _ => some "tuple"
  | .ref n => match look S n with
    | some _ => some "list"
    | none => match S[n]? with
      | some (.dct _) => some "dict"
      | _ => none
  | _ => none
theorem kind_ty {H0 : Hp} {w : Wl} {S : Sto} {H : Hp} {v : V} {d : D} {z : String} (h : Holds C H0 w S H) (r : Rep C.K w v d) (e : kindD S d = some z) : TyX C.K H v (.type z) := by
  cases d with
  | non => cases e; rw [r.non_at]; exact .base .non
  | bl b => cases e; rw [r.bl_at]; exact .base (.bl _)
  | int i => cases e; rw [r.int_at]; exact .base (.int _)
  | str x => cases e; rw [r.str_at]; exact .base (.str _)
  | con u => cases e
  | tup ds =>
    cases e
    obtain ⟨a, xs, rfl, t, _⟩ := r.tup_at
    exact t.ty h.imm
  | ro ds => cases e
  | ref n =>
    unfold kindD at e
    dsimp only at e
    obtain ⟨a, rfl, ha⟩ := r.ref_at
    split at e
    · rename_i ds hn
      cases e
      obtain ⟨u, hu, ru⟩ := h.ob n a _ ha (of_look hn)
      cases u <;> first
        | exact False.elim ru
        | exact .base (.lst hu)
    · split at e
      · rename_i ds hn
        cases e
        obtain ⟨u, hu, ru⟩ := h.ob n a _ ha hn
        cases u <;> first
          | exact False.elim ru
          | exact .base (.dK hu)
      · cases e
def fIsi : XF := fun ds S q => match ds with
  | [d, .con (.ty n)] => match kindD S d with
    | some z => match kitB z n with
      | some b => q (.bl b) S
      | none => False
    | none => False
  | _ => False
theorem sc_isi : SC C (rIsi C.K) fIsi := by
  intro H0 w S H xs dxs Q q h r x k
  unfold fIsi at x
  split at x
  · split at x
    · rename_i n _ z e
      split at x
      · rename_i b eb
        obtain ⟨v, u, rfl, rv, ru⟩ := reps2 r
        rw [ru.con_at]
        exact ⟨v, _, _, _, b, rfl, .ty n, kind_ty h rv e, kit_ty eb, k _ _ _ _ _ .rfl h (.bl _) x⟩
      · exact x.elim
    · exact x.elim
  · exact x.elim
def xBits (a : XE) : XE := fun ρ S q => a ρ S fun d S1 => match d with
  | .int i => q (.int (Builtin.Int.intBits i : Nat)) S1
  | _ => False
theorem se_bits {t : TE} {a : XE} (ha : SE C t a) : SE C (tBits t) (xBits a) := by
  intro H0 w σ ρ S H Q q h e x1 k
  refine ha H0 w σ ρ S H _ _ h e x1 fun w1 S1 H1 v1 d1 s1 h1 r1 x2 => ?_
  split at x2
  · exact ⟨_, r1.int_at, k _ _ _ _ _ s1 h1 (.int _) x2⟩
  · exact x2.elim
def gNeg : D → Sto → DK → Prop := fun d S q => match d with
  | .int i => q (.int (-i)) S
  | _ => False
theorem s1_neg : S1 C (rU fun i => .int (-i)) gNeg := by
  intro H0 w S H x dx Q q h r x1 k
  cases dx <;> first
    | exact False.elim x1
    | exact ⟨_, r.int_at, k _ _ _ _ _ .rfl h (.int _) x1⟩
/-! ### methods of lists -/
def xBM (g : D → XF) (o : XE) (a : XA) : XE := fun ρ S q => o ρ S fun d S1 => a ρ S1 fun ds S2 => g d ds S2 q
/-- the object itself is a list that may be written, and is still one when its arguments are known -/
def xBL (g : Nat → List D → XF) (o : XE) (a : XA) : XE := fun ρ S q => o ρ S fun d S1 => match d with
  | .ref n => match look S1 n with
    | some _ => a ρ S1 fun ds S2 => match look S2 n with
      | some es => g n es ds S2 q
      | none => False
    | none => False
  | _ => False
/-- what a method of a list does: its items, the arguments, the list behind it, the answer -/
def SL (r : V → List V → Hp → VK → Prop) (g : Nat → List D → XF) : Prop := ∀ H0 w S H n a xs ds vs es Q q, Holds C H0 w S H → w.ads[n]? = some a → H a = some (.lst xs) → look S n = some ds → Reps C.K w xs ds → Reps C.K w vs es → g n ds es S q → Kont C H0 w q Q → r (.ref a) vs H Q
theorem se_bl' {n : Option Nat} {r : V → List V → Hp → VK → Prop} {g : Nat → List D → XF} {t : TE} {o : XE} {ta : TA} {a : XA} (hr : SL (C := C) r g) (ho : SE C t o) (ha : SA C n ta a) : SE C (tBM C.K "list" r t ta) (xBL g o a) := by
  intro H0 w σ ρ S H Q q h e x1 k
  refine ho H0 w σ ρ S H _ _ h e x1 fun w1 S1 H1 v1 d1 s1 h1 r1 x2 => ?_
  split at x2
  · rename_i n
    split at x2
    · rename_i ds hn
      obtain ⟨p, xs, rfl, hp, hH, ps⟩ := h1.lst r1 hn
      refine ⟨.inl ⟨rfl, xs, SqL.of hH⟩, ha H0 w1 σ ρ S1 H1 _ _ h1 (e.mono s1) x2 fun w2 S2 H2 vs es s2 h2 r2 _ x3 => ?_⟩
      split at x3
      · rename_i fs hn2
        obtain ⟨p2, ys, e2, hp2, hH2, ps2⟩ := h2.lst (r1.mono s2) hn2
        cases e2
        exact hr H0 w2 S2 H2 n p ys fs vs es Q q h2 hp2 hH2 hn2 ps2 r2 x3 (k.mono (s1.trans s2))
      · exact x3.elim
    · exact x2.elim
  · exact x2.elim
def gAppend : Nat → List D → XF := fun n ds es S q => match es with
  | [d] => ds.length < 1000000 ∧ q .non (S.set n (.lst (ds ++ [d])))
  | _ => False
theorem sl_append : SL (C := C) rAppend gAppend := by
  intro H0 w S H n a xs ds vs es Q q h ha hH hS ps pv x k
  unfold gAppend at x
  split at x
  · obtain ⟨v, rfl, rv⟩ := reps1 pv
    exact ⟨a, xs, v, rfl, rfl, hH, by rw [ps.length]; exact big_lt x.1, k _ _ _ _ _ .rfl (h.put ha (of_look hS) (v := .lst (xs ++ [v])) (o' := .lst (ds ++ [_])) (paired_app ps (.cons rv .nil))) .non x.2⟩
  · exact x.elim
def gExtend : Nat → List D → XF := fun n ds es S q => match es with
  | [.ref m] => match look S m with
    | some fs => ds.length + fs.length ≤ 1000000 ∧ q .non (S.set n (.lst (ds ++ fs)))
    | _ => False
  | _ => False
theorem sl_extend : SL (C := C) rExtend gExtend := by
  intro H0 w S H n a xs ds vs es Q q h ha hH hS ps pv x k
  unfold gExtend at x
  split at x
  · rename_i m
    split at x
    · rename_i fs hm
      obtain ⟨v, rfl, rv⟩ := reps1 pv
      obtain ⟨b, ys, rfl, _, hb, p2⟩ := h.lst rv hm
      exact ⟨a, b, xs, ys, rfl, rfl, hH, hb, by rw [ps.length, p2.length]; exact big_line x.1, k _ _ _ _ _ .rfl (h.put ha (of_look hS) (v := .lst (xs ++ ys)) (o' := .lst (ds ++ fs)) (paired_app ps p2)) .non x.2⟩
    · exact x.elim
  · exact x.elim
/-! ### o[i] = v -/
def gSetL (n : Nat) (i : Int) (v : D) (S : Sto) (q : Sto → Prop) : Prop := match look S n with
  | some ds => match ixN ds.length i with
    | some j => q (S.set n (.lst (ds.set j v)))
    | none => False
  | _ => False
def xSub (o i : XE) : XG := fun v ρ S q => o ρ S fun d S1 => i ρ S1 fun k S2 => match d, k with
  | .ref n, .int k => gSetL n k v S2 fun S3 => q ρ S3
  | _, _ => False
theorem sg_sub {to ti : TE} {o i : XE} (ho : SE C to o) (hi : SE C ti i) : SG C (gSub to ti rSetL) (xSub o i) := by
  intro H0 w σ ρ S H v d Q q h e r x k
  refine ho H0 w σ ρ S H _ _ h e x fun w1 S1 H1 v1 d1 s1 h1 r1 x1 => hi H0 w1 σ ρ S1 H1 _ _ h1 (e.mono s1) x1 fun w2 S2 H2 v2 d2 s2 h2 r2 x2 => ?_
  split at x2
  · rename_i n kk
    unfold gSetL at x2
    split at x2
    · rename_i ds hn
      split at x2
      · rename_i j hj
        obtain ⟨p, xs, rfl, hp, hH, ps⟩ := h2.lst (r1.mono s2) hn
        have s12 := s1.trans s2
        refine ⟨p, xs, kk, j, rfl, r2.int_at, hH, by rw [ps.length]; exact hj, ?_⟩
        exact k _ _ _ _ _ s12 (h2.put hp (of_look hn) (v := .lst (xs.set j v)) (o' := .lst (ds.set j d)) (paired_set (r.mono s12) j ps)) (e.mono s12) x2
      · exact x2.elim
    · exact x2.elim
  · exact x2.elim
/-! ### statements -/
def xNext : XS := fun d ρ S => d.nx ρ S
theorem ss_next : SS C tNext xNext := fun _ w σ ρ S H D d h e x k => k.nx _ _ _ _ _ .rfl h e x
def xSeq (a b : XS) : XS := fun d ρ S => a { d with nx := b d } ρ S
theorem ss_seq {ta tb : TS} {a b : XS} (ha : SS C ta a) (hb : SS C tb b) : SS C (tSeq ta tb) (xSeq a b) :=
  fun H0 w σ ρ S H D d h e x k => ha H0 w σ ρ S H _ _ h e x ⟨fun w1 σ1 ρ1 S1 H1 s1 h1 e1 x1 => hb H0 w1 σ1 ρ1 S1 H1 D d h1 e1 x1 (k.mono s1), k.rt, k.bk, k.ct⟩
def xBreak : XS := fun d ρ S => d.bk ρ S
theorem ss_break : SS C tBreak xBreak := fun _ w σ ρ S H D d h e x k => k.bk _ _ _ _ _ .rfl h e x
def xCont : XS := fun d ρ S => d.ct ρ S
theorem ss_cont : SS C tCont xCont := fun _ w σ ρ S H D d h e x k => k.ct _ _ _ _ _ .rfl h e x
def xDrop (a : XE) : XS := fun d ρ S => a ρ S fun _ S1 => d.nx ρ S1
theorem ss_drop {t : TE} {a : XE} (ha : SE C t a) : SS C (tDrop t) (xDrop a) :=
  fun H0 w σ ρ S H D d h e x k => ha H0 w σ ρ S H _ _ h e x fun w1 S1 H1 v1 d1 s1 h1 r1 x1 => k.nx _ _ _ _ _ s1 h1 (e.mono s1) x1
def xRet (a : XE) : XS := fun d ρ S => a ρ S d.rt
theorem ss_ret {t : TE} {a : XE} (ha : SE C t a) : SS C (tRet t) (xRet a) :=
  fun H0 w σ ρ S H D d h e x k => ha H0 w σ ρ S H _ _ h e x k.rt
def xRetN : XS := fun d ρ S => d.rt .non S
theorem ss_retN : SS C tRetN xRetN := fun _ w σ ρ S H D d h e x k => k.rt _ _ _ _ _ .rfl h .non x
def xIfS (c : XT) (a b : XS) : XS := fun d ρ S => c ρ S fun k S1 => bIf k (a d ρ S1) (b d ρ S1)
theorem ss_if {tc : TT} {ta tb : TS} {c : XT} {a b : XS} (hc : ST C tc c) (ha : SS C ta a) (hb : SS C tb b) : SS C (tIfS tc ta tb) (xIfS c a b) := by
  intro H0 w σ ρ S H D d h e x k
  refine hc H0 w σ ρ S H _ _ h e x fun w1 S1 H1 c s1 h1 x1 => ?_
  cases c with
  | true => exact ha H0 w1 σ ρ S1 H1 D d h1 (e.mono s1) x1 (k.mono s1)
  | false => exact hb H0 w1 σ ρ S1 H1 D d h1 (e.mono s1) x1 (k.mono s1)
def xNever : XS := fun _ _ _ => False
theorem ss_never : SS C tNever xNever := fun _ _ _ _ _ _ _ _ _ _ x _ => x.elim
def xName (i : Nat) : XG := fun d ρ S q => forceL (ρ.set i (some d)) fun ρ' => q ρ' S
theorem sg_name {i : Nat} : SG C (gName i) (xName i) := fun H0 w σ ρ S H v d Q q h e r x k => k _ _ _ _ _ .rfl h (e.set i r) (by unfold xName at x; rw [forceL_eq] at x; exact x)
def xGNil : XGs := fun ds ρ S q => match ds with
  | [] => q ρ S
  | _ => False
def xGCons (g : XG) (gs : XGs) : XGs := fun ds ρ S q => match ds with
  | d :: ds => g d ρ S fun ρ1 S1 => gs ds ρ1 S1 q
  | [] => False
theorem sgs_nil : SGs C gNil xGNil := by
  intro H0 w σ ρ S H vs ds Q q h e r x k
  cases r with
  | nil => exact ⟨rfl, k _ _ _ _ _ .rfl h e x⟩
  | cons _ _ => exact x.elim
theorem sgs_cons {g : TG} {gs : TGs} {x : XG} {xs : XGs} (hg : SG C g x) (hs : SGs C gs xs) : SGs C (gCons g gs) (xGCons x xs) := by
  intro H0 w σ ρ S H vs ds Q q h e r x k
  cases r with
  | nil => exact x.elim
  | cons r t => exact ⟨_, _, rfl, hg H0 w σ ρ S H _ _ _ _ h e r x fun w1 σ1 ρ1 S1 H1 s1 h1 e1 x1 => hs H0 w1 σ1 ρ1 S1 H1 _ _ Q q h1 e1 (Reps.mono s1 t) x1 (k.mono s1)⟩
def xGTup (n : Nat) (gs : XGs) : XG := fun d ρ S q => match d with
  | .tup ds => match Nat.beq ds.length n with
    | true => gs ds ρ S q
    | false => False
  | _ => False
theorem sg_tup {n : Nat} {gs : TGs} {xs : XGs} (hs : SGs C gs xs) : SG C (gTup C.K n gs) (xGTup n xs) := by
  intro H0 w σ ρ S H v d Q q h e r x k
  unfold xGTup at x
  split at x
  · rename_i ds
    split at x
    · rename_i hl
      obtain ⟨a, ys, rfl, t, ps⟩ := r.tup_at
      exact ⟨a, ys, rfl, t.sq h.imm, by rw [ps.length]; exact Nat.eq_of_beq_eq_true hl, hs H0 w σ ρ S H ys ds Q q h e ps x k⟩
    · exact x.elim
  · exact x.elim
def xAsg (a : XE) (g : XG) : XS := fun d ρ S => a ρ S fun v S1 => g v ρ S1 d.nx
theorem ss_asg {t : TE} {g : TG} {a : XE} {x : XG} (ha : SE C t a) (hg : SG C g x) : SS C (tAsg t g) (xAsg a x) :=
  fun H0 w σ ρ S H D d h e x1 k => ha H0 w σ ρ S H _ _ h e x1 fun w1 S1 H1 v1 d1 s1 h1 r1 x2 => hg H0 w1 σ ρ S1 H1 v1 d1 _ _ h1 (e.mono s1) r1 x2 (k.nx.mono s1)
def xAug (i : Nat) (f : Int → Int → Int) (a : XE) : XS := fun d ρ S => match ρ[i]? with
  | some (some (.int x)) => a ρ S fun y S1 => match y with
    | .int y => forceL (ρ.set i (some (.int (f x y)))) fun ρ' => d.nx ρ' S1
    | _ => False
  | _ => False
theorem ss_aug {i : Nat} {f : Int → Int → Int} {t : TE} {a : XE} (ha : SE C t a) : SS C (tAug i t (ipI f)) (xAug i f a) := by
  intro H0 w σ ρ S H D d h e x k
  unfold xAug at x
  split at x
  · rename_i i0 hi
    obtain ⟨v, hv, rv⟩ := e.at_ i _ hi
    refine ⟨v, hv, ha H0 w σ ρ S H _ _ h e x fun w1 S1 H1 v1 d1 s1 h1 r1 x1 => ?_⟩
    split at x1
    · rw [forceL_eq] at x1
      exact ⟨_, _, rv.int_at, r1.int_at, k.nx _ _ _ _ _ s1 h1 ((e.mono s1).set i (.int _)) x1⟩
    · exact x1.elim
  · exact x.elim
def xWhile (c : XT) (b : XS) : XS := fun d ρ S => ∃ P : Nat → DE → Sto → Prop, (∃ m, P m ρ S) ∧ ∀ m ρ S, P m ρ S → c ρ S fun k S1 => bIf k (b { d with nx := fun ρ' S' => ∃ m', m' < m ∧ P m' ρ' S', ct := fun ρ' S' => ∃ m', m' < m ∧ P m' ρ' S', bk := d.nx } ρ S1) (d.nx ρ S1)
theorem ss_while {tc : TT} {tb : TS} {c : XT} {b : XS} (hc : ST C tc c) (hb : SS C tb b) : SS C (tWhile tc tb) (xWhile c b) := by
  intro H0 w σ ρ S H D d h e ⟨P, ⟨m0, p0⟩, turn⟩ k
  refine ⟨fun m σ' H' => ∃ w' ρ' S', Ext w w' ∧ Holds C H0 w' S' H' ∧ EnvR C.K w' σ' ρ' ∧ P m ρ' S', ⟨m0, w, ρ, S, .rfl, h, e, p0⟩, ?_⟩
  rintro m σ1 H1 ⟨w1, ρ1, S1, s1, h1, e1, p1⟩
  refine hc H0 w1 σ1 ρ1 S1 H1 _ _ h1 e1 (turn m ρ1 S1 p1) fun w2 S2 H2 c s2 h2 x2 => ?_
  have s12 := s1.trans s2
  cases c with
  | true =>
    rw [if_pos rfl]
    refine ⟨fun σ' H' => ∃ m', m' < m ∧ ∃ w' ρ' S', Ext w w' ∧ Holds C H0 w' S' H' ∧ EnvR C.K w' σ' ρ' ∧ P m' ρ' S', fun _ _ z => z, ?_⟩
    refine hb H0 w2 σ1 ρ1 S2 H2 _ _ h2 (e1.mono s2) x2 ⟨?_, k.rt.mono s12, k.nx.mono s12, ?_⟩
    · rintro w3 σ3 ρ3 S3 H3 s3 h3 e3 ⟨m', hm, p3⟩
      exact ⟨m', hm, w3, ρ3, S3, s12.trans s3, h3, e3, p3⟩
    · rintro w3 σ3 ρ3 S3 H3 s3 h3 e3 ⟨m', hm, p3⟩
      exact ⟨m', hm, w3, ρ3, S3, s12.trans s3, h3, e3, p3⟩
  | false =>
    rw [if_neg Bool.false_ne_true]
    exact k.nx _ _ _ _ _ s12 h2 (e1.mono s2) x2
/-! ### a def -/
/-- a thing that is never looked into -/
noncomputable def lock {α : Type} (a : α) : α := Classical.choose (⟨a, rfl⟩ : ∃ x, x = a)
theorem lock_eq {α : Type} (a : α) : lock a = a := Classical.choose_spec (⟨a, rfl⟩ : ∃ x, x = a)
theorem ss_cut {t : TS} {a b : XS} (e : a = b) (h : SS C t b) : SS C t a := e ▸ h
/-- k: how many names beside the parameters -/
def xFn (k : Nat) (b : XS) : XF := fun ds S q => forceL (ds.map some ++ List.replicate k none) fun ρ => b { nx := fun _ S' => q .non S', rt := q } ρ S
theorem env_start {K : PySem.W.Frag} {w : Wl} {N : List Str} {vs : List V} {ds : List D} (r : Reps K w vs ds) : EnvR K w (L2.start N vs) (ds.map some ++ List.replicate (N.length - ds.length) none) := by
  unfold L2.start
  rw [← r.length]
  refine ⟨by simp [r.length], fun i d h => ?_⟩
  by_cases hi : i < ds.length
  · rw [List.getElem?_append_left (by simpa using hi), List.getElem?_map] at h
    obtain ⟨d', hd, e⟩ := Option.map_eq_some_iff.mp h
    cases e
    obtain ⟨v, hv, rv⟩ := paired_at r hd
    refine ⟨v, ?_, rv⟩
    rw [List.getElem?_append_left (by rw [List.length_map, r.length]; exact hi), List.getElem?_map, hv]
    rfl
  · rw [List.getElem?_append_right (by simpa using hi), List.getElem?_replicate] at h
    split at h <;> cases h
theorem fn_body {m j : Nat} {N : List Str} {t : TS} {b : XS} {vs : List V} {H : Hp} {Q : VK} {E : XK} (hs : SS C t b) (h : spOf C m (xFn j b) vs H Q E) (hN : N.length = m + j) : t { nx := fun _ H' => Q .non H', rt := Q } (L2.start N vs) H := by
  obtain ⟨H0, w, S, ds, q, hh, r, l, x, k⟩ := h
  unfold xFn at x
  rw [forceL_eq] at x
  have e := env_start (N := N) r
  rw [hN, l, Nat.add_sub_cancel_left] at e
  exact hs H0 w _ _ S H _ _ hh e x ⟨fun w1 σ1 ρ1 S1 H1 s1 h1 e1 x1 => k _ _ _ _ _ s1 h1 .non x1, k, fun _ _ _ _ _ _ _ _ z => z, fun _ _ _ _ _ _ _ _ z => z⟩
end
end DT

set_option Elab.async false
set_option linter.all false
set_option maxRecDepth 100000
set_option maxHeartbeats 1000000
namespace DT
open PySem PySem.Spec PyProof.Rows L2 Lw WD GxR
/-! ### what a loop walks: its items, and what must stand of the objects meanwhile -/
abbrev XI := DE → Sto → (List D → (Sto → Prop) → Sto → Prop) → Prop
structure ItOk (C : Ctx) (H0 : Hp) (w : Wl) (J : It) (ds : List D) (chk : Sto → Prop) : Prop where
  stop : ∀ w' S H, Ext w w' → Holds C H0 w' S H → chk S → J.stop ds.length H
  go : ∀ (i : Nat) (d : D) w' S H, Ext w w' → Holds C H0 w' S H → chk S → ds[i]? = some d → J.go i H ∧ ∀ x H', J.yld i H x H' → ∃ w'', Ext w' w'' ∧ Holds C H0 w'' S H' ∧ Rep C.K w'' x d
def SI (C : Ctx) (wi : TI) (x : XI) : Prop := ∀ H0 w σ ρ S H (R : It → Hp → Prop) (r : List D → (Sto → Prop) → Sto → Prop), Holds C H0 w S H → EnvR C.K w σ ρ → x ρ S r →
  (∀ w' S' H' J ds chk, Ext w w' → Holds C H0 w' S' H' → ItOk C H0 w' J ds chk → r ds chk S' → R J H') → wi σ H R
section
variable {C : Ctx}
theorem sqL_at {K : PySem.W.Frag} {H : Hp} {a : Addr} {xs : List V} (h : SqL K H a xs) (i : Nat) (x : V) (e : xs[i]? = some x) : (Itl K a).go i H := ⟨xs, x, h, e⟩
/-- a list or a tuple -/
def xSeqIt (a : XE) : XI := fun ρ S r => a ρ S fun d S1 => match d with
  | .tup ds => r ds (fun _ => True) S1
  | .ro ds => r ds (fun _ => True) S1
  | .ref n => match look S1 n with
    | some ds => r ds (fun S => look S n = some ds) S1
    | none => False
  | _ => False
theorem si_seq {t : TE} {a : XE} (ha : SE C t a) : SI C (fun σ H R => t σ H fun x H1 => (∃ a, x = .ref a ∧ (∃ xs, SqL C.K H1 a xs) ∧ R (Itl C.K a) H1) ∨ (∃ a, x = .ref a ∧ (∃ xs, SqT C.K H1 a xs) ∧ R (Itt C.K a) H1)) (xSeqIt a) := by
  intro H0 w σ ρ S H R r h e x k
  refine ha H0 w σ ρ S H _ _ h e x fun w1 S1 H1 v1 d1 s1 h1 r1 x1 => ?_
  split at x1
  · rename_i ds
    obtain ⟨a, xs, rfl, t, ps⟩ := r1.tup_at
    refine .inr ⟨a, rfl, ⟨xs, t.sq h1.imm⟩, k _ _ _ _ _ _ s1 h1 ⟨fun w' S H s hh _ => ⟨xs, (t.mono s.sub).sq hh.imm, by rw [ps.length]; exact Nat.le_refl _⟩, fun i d w' S H s hh _ hd => ?_⟩ x1⟩
    obtain ⟨v, hv, rv⟩ := paired_at ps hd
    have sq := (t.mono s.sub).sq hh.imm
    exact ⟨⟨xs, v, sq, hv⟩, fun x H' y => by
      obtain ⟨rfl, y⟩ := y
      have := y xs sq
      rw [hv] at this
      cases this
      exact ⟨w', .rfl, hh, rv.mono s⟩⟩
  · rename_i ds
    obtain ⟨a, xs, rfl, t, ps⟩ := r1.ro_at
    refine .inl ⟨a, rfl, ⟨xs, t.sq h1.imm⟩, k _ _ _ _ _ _ s1 h1 ⟨fun w' S H s hh _ => ⟨xs, (t.mono s.sub).sq hh.imm, by rw [ps.length]; exact Nat.le_refl _⟩, fun i d w' S H s hh _ hd => ?_⟩ x1⟩
    obtain ⟨v, hv, rv⟩ := paired_at ps hd
    have sq := (t.mono s.sub).sq hh.imm
    exact ⟨⟨xs, v, sq, hv⟩, fun x H' y => by
      obtain ⟨rfl, y⟩ := y
      have := y xs sq
      rw [hv] at this
      cases this
      exact ⟨w', .rfl, hh, rv.mono s⟩⟩
  · split at x1
    · rename_i n _ ds hn
      obtain ⟨a, xs, rfl, ha, hl, ps⟩ := h1.lst r1 hn
      have lk : ∀ w' S H, Ext w1 w' → Holds C H0 w' S H → look S n = some ds → ∃ ys, SqL C.K H a ys ∧ Reps C.K w' ys ds := fun w' S H s hh hs => by
        obtain ⟨b, ys, e2, hb, hl2, p2⟩ := hh.lst (r1.mono s) hs
        cases e2
        exact ⟨ys, SqL.of hl2, p2⟩
      refine .inl ⟨a, rfl, ⟨xs, SqL.of hl⟩, k _ _ _ _ _ _ s1 h1 ⟨fun w' S H s hh hs => ?_, fun i d w' S H s hh hs hd => ?_⟩ x1⟩
      · obtain ⟨ys, sq, p2⟩ := lk w' S H s hh hs
        exact ⟨ys, sq, by rw [p2.length]; exact Nat.le_refl _⟩
      · obtain ⟨ys, sq, p2⟩ := lk w' S H s hh hs
        obtain ⟨v, hv, rv⟩ := paired_at p2 hd
        exact ⟨⟨ys, v, sq, hv⟩, fun x H' y => by
          obtain ⟨rfl, y⟩ := y
          have := y ys sq
          rw [hv] at this
          cases this
          exact ⟨w', .rfl, hh, rv⟩⟩
    · exact x1.elim
  · exact x1.elim
/-- whole numbers from lo on -/
def rngD (lo : Int) (n : Nat) : List D := (List.range n).map fun i => .int (lo + (i : Nat))
theorem rngD_len {lo : Int} {n : Nat} : (rngD lo n).length = n := by unfold rngD; simp
theorem rngD_at {lo : Int} {n i : Nat} (h : i < n) : (rngD lo n)[i]? = some (.int (lo + (i : Nat))) := by
  unfold rngD
  rw [List.getElem?_map, List.getElem?_range h]
  rfl
theorem it_rng {H0 : Hp} {w : Wl} {lo : Int} {n : Nat} : ItOk C H0 w (Itr lo n) (rngD lo n) (fun _ => True) :=
  ⟨fun _ _ _ _ _ _ => by show n ≤ (rngD lo n).length; rw [rngD_len]; exact Nat.le_refl _, fun i d w' S H s hh _ hd => by
    have hi : i < n := by
      have := (List.getElem?_eq_some_iff.mp hd).1
      rw [rngD_len] at this
      exact this
    rw [rngD_at hi] at hd
    cases hd
    exact ⟨hi, fun x H' y => by
      obtain ⟨rfl, rfl⟩ := y
      exact ⟨w', .rfl, hh, .int _⟩⟩⟩
def xRng1 (a : XA) : XI := fun ρ S r => a ρ S fun ds S1 => match ds with
  | [.int j] => (-(2 ^ 62) ≤ j ∧ j < 2 ^ 62) ∧ r (rngD 0 j.toNat) (fun _ => True) S1
  | _ => False
theorem si_rng1 {n : Option Nat} {t : TA} {a : XA} (ha : SA C n t a) : SI C (iRng1 t) (xRng1 a) := by
  intro H0 w σ ρ S H R r h e x k
  refine ha H0 w σ ρ S H _ _ h e x fun w1 S1 H1 vs ds s1 h1 r1 _ x1 => ?_
  split at x1
  · obtain ⟨v, rfl, rv⟩ := reps1 r1
    rw [rv.int_at]
    exact ⟨_, rfl, x1.1.1, x1.1.2, k _ _ _ _ _ _ s1 h1 it_rng x1.2⟩
  · exact x1.elim
def xRng2 (a : XA) : XI := fun ρ S r => a ρ S fun ds S1 => match ds with
  | [.int i, .int j] => (-(2 ^ 62) ≤ i ∧ i < 2 ^ 62 ∧ -(2 ^ 62) ≤ j ∧ j < 2 ^ 62) ∧ r (rngD i (j - i).toNat) (fun _ => True) S1
  | _ => False
theorem si_rng2 {n : Option Nat} {t : TA} {a : XA} (ha : SA C n t a) : SI C (iRng2 t) (xRng2 a) := by
  intro H0 w σ ρ S H R r h e x k
  refine ha H0 w σ ρ S H _ _ h e x fun w1 S1 H1 vs ds s1 h1 r1 _ x1 => ?_
  split at x1
  · obtain ⟨v, u, rfl, rv, ru⟩ := reps2 r1
    rw [rv.int_at, ru.int_at]
    exact ⟨_, _, rfl, x1.1, k _ _ _ _ _ _ s1 h1 it_rng x1.2⟩
  · exact x1.elim
/-! ### for -/
def xFor (xi : XI) (g : XG) (b : XS) : XS := fun d ρ S => xi ρ S fun ds chk S1 => ∃ P : Nat → DE → Sto → Prop, P 0 ρ S1 ∧ (∀ i ρ S, i ≤ ds.length → P i ρ S → chk S) ∧
  (∀ (i : Nat) x ρ S, ds[i]? = some x → P i ρ S → g x ρ S fun ρ' S' => b { d with nx := P (i + 1), ct := P (i + 1), bk := d.nx } ρ' S') ∧ ∀ ρ S, P ds.length ρ S → d.nx ρ S
theorem ss_for {wi : TI} {g : TG} {tb : TS} {xi : XI} {x : XG} {b : XS} (hi : SI C wi xi) (hg : SG C g x) (hb : SS C tb b) : SS C (tFor wi g tb) (xFor xi x b) := by
  intro H0 w σ ρ S H D d h e x1 k
  refine hi H0 w σ ρ S H _ _ h e x1 fun w1 S1 H1 J ds chk s1 h1 ok ⟨P, p0, pc, ps, pd⟩ => ?_
  refine ⟨fun i m σ' H' => m = ds.length - i ∧ i ≤ ds.length ∧ ∃ w' ρ' S', Ext w1 w' ∧ Holds C H0 w' S' H' ∧ EnvR C.K w' σ' ρ' ∧ P i ρ' S', ⟨_, rfl, Nat.zero_le _, w1, ρ, S1, .rfl, h1, e.mono s1, p0⟩, ?_⟩
  rintro i m σ2 H2 ⟨rfl, hle, w2, ρ2, S2, s2, h2, e2, p2⟩
  have s12 := s1.trans s2
  by_cases hlt : i < ds.length
  · have hd := List.getElem?_eq_getElem hlt
    obtain ⟨g1, g2⟩ := ok.go i _ w2 S2 H2 s2 h2 (pc i _ _ hle p2) hd
    refine .inr ⟨g1, fun σ' H' => ∃ w' ρ' S', Ext w1 w' ∧ Holds C H0 w' S' H' ∧ EnvR C.K w' σ' ρ' ∧ P (i + 1) ρ' S', fun σ' H' z => ⟨_, by omega, rfl, hlt, z⟩, fun v H3 y => ?_⟩
    obtain ⟨w3, s3, h3, rv⟩ := g2 v H3 y
    refine hg H0 w3 σ2 ρ2 S2 H3 v _ _ _ h3 (e2.mono s3) rv (ps i _ ρ2 S2 hd p2) fun w4 σ4 ρ4 S4 H4 s4 h4 e4 x4 => ?_
    have s14 := (s12.trans s3).trans s4
    refine hb H0 w4 σ4 ρ4 S4 H4 _ _ h4 e4 x4 ⟨?_, k.rt.mono s14, k.nx.mono s14, ?_⟩
    · exact fun w5 σ5 ρ5 S5 H5 s5 h5 e5 p5 => ⟨w5, ρ5, S5, ((s2.trans s3).trans s4).trans s5, h5, e5, p5⟩
    · exact fun w5 σ5 ρ5 S5 H5 s5 h5 e5 p5 => ⟨w5, ρ5, S5, ((s2.trans s3).trans s4).trans s5, h5, e5, p5⟩
  · have : i = ds.length := by omega
    subst this
    exact .inl ⟨ok.stop w2 S2 H2 s2 h2 (pc _ _ _ hle p2), k.nx _ _ _ _ _ s12 h2 e2 (pd _ _ p2)⟩
/-! ### list comprehensions -/
/-- a target that sets places of vs only -/
def KeepsW (g : TG) (vs : List Nat) : Prop := ∀ v σ H Q, g v σ H Q → g v σ H fun σ' H' => wipe σ' vs = wipe σ vs ∧ Q σ' H'
def KeepsWs (g : TGs) (vs : List Nat) : Prop := ∀ v σ H Q, g v σ H Q → g v σ H fun σ' H' => wipe σ' vs = wipe σ vs ∧ Q σ' H'
theorem wipe_set : ∀ (vs : List Nat) (σ : L2.St) (i : Nat) (x : Option V), i ∈ vs → wipe (σ.set i x) vs = wipe σ vs
  | v :: vs, σ, i, x, h => by
    unfold wipe
    by_cases hi : i ∈ vs
    · rw [wipe_set vs σ i x hi]
    · have : i = v := (List.mem_cons.mp h).resolve_right hi
      subst this
      have key : ∀ (us : List Nat) (τ : L2.St), i ∉ us → wipe (τ.set i x) us = (wipe τ us).set i x := by
        intro us
        induction us with
        | nil => intro τ _; rfl
        | cons u us ih =>
          intro τ hn
          unfold wipe
          rw [ih τ (fun z => hn (List.mem_cons_of_mem _ z)), List.set_comm _ _ (fun z => hn (by rw [z]; exact List.mem_cons_self ..))]
      rw [key vs σ hi, List.set_set]
theorem wipe_in (σ : L2.St) (vs : List Nat) : ∀ us : List Nat, (∀ i ∈ us, i ∈ vs) → wipe (wipe σ us) vs = wipe σ vs
  | [], _ => rfl
  | u :: us, h => by
    show wipe ((wipe σ us).set u none) vs = _
    rw [wipe_set vs _ u _ (h u (List.mem_cons_self ..))]
    exact wipe_in σ vs us fun i hi => h i (List.mem_cons_of_mem _ hi)
theorem kw_name {i : Nat} {vs : List Nat} (h : i ∈ vs) : KeepsW (gName i) vs := fun v σ H Q q => ⟨wipe_set vs σ i _ h, q⟩
theorem kws_nil {vs : List Nat} : KeepsWs gNil vs := fun v σ H Q q => ⟨q.1, rfl, q.2⟩
theorem kws_cons {g : TG} {gs : TGs} {vs : List Nat} (hg : KeepsW g vs) (hs : KeepsWs gs vs) (mono : ∀ v σ H Q Q', g v σ H Q → (∀ σ' H', Q σ' H' → Q' σ' H') → g v σ H Q') (monos : ∀ v σ H Q Q', gs v σ H Q → (∀ σ' H', Q σ' H' → Q' σ' H') → gs v σ H Q') : KeepsWs (gCons g gs) vs := by
  rintro v σ H Q ⟨x, r, rfl, q⟩
  refine ⟨x, r, rfl, mono _ _ _ _ _ (hg x σ H _ q) fun σ1 H1 z => ?_⟩
  exact monos _ _ _ _ _ (hs r σ1 H1 _ z.2) fun σ2 H2 y => ⟨y.1.trans z.1, y.2⟩
theorem kw_tup {K : PySem.W.Frag} {n : Nat} {gs : TGs} {vs : List Nat} (hs : KeepsWs gs vs) : KeepsW (gTup K n gs) vs := by
  rintro v σ H Q ⟨a, xs, rfl, h1, h2, q⟩
  exact ⟨a, xs, rfl, h1, h2, hs _ _ _ _ q⟩
theorem mono_name {i : Nat} : ∀ v σ H Q Q', gName i v σ H Q → (∀ σ' H', Q σ' H' → Q' σ' H') → gName i v σ H Q' := fun _ _ _ _ _ q k => k _ _ q
theorem monos_nil : ∀ v σ H Q Q', gNil v σ H Q → (∀ σ' H', Q σ' H' → Q' σ' H') → gNil v σ H Q' := fun _ _ _ _ _ q k => ⟨q.1, k _ _ q.2⟩
theorem monos_cons {g : TG} {gs : TGs} (mono : ∀ v σ H Q Q', g v σ H Q → (∀ σ' H', Q σ' H' → Q' σ' H') → g v σ H Q') (monos : ∀ v σ H Q Q', gs v σ H Q → (∀ σ' H', Q σ' H' → Q' σ' H') → gs v σ H Q') :
    ∀ v σ H Q Q', gCons g gs v σ H Q → (∀ σ' H', Q σ' H' → Q' σ' H') → gCons g gs v σ H Q' := by
  rintro v σ H Q Q' ⟨x, r, rfl, q⟩ k
  exact ⟨x, r, rfl, mono _ _ _ _ _ q fun σ1 H1 z => monos _ _ _ _ _ z k⟩
def xYes : XT := fun _ S q => q true S
theorem st_yes : ST C tYes xYes := fun _ _ _ _ _ _ _ _ h _ x k => k _ _ _ _ .rfl h x
def xLc (xi : XI) (g : XG) (tt : XT) (b : XE) (vs : List Nat) : XE := fun ρ S q => xi ρ S fun ds chk S1 => ∃ P : Nat → Sto → Prop, P 0 (S1 ++ [.lst []]) ∧ (∀ i S, i ≤ ds.length → P i S → chk S) ∧
  (∀ (i : Nat) x S, ds[i]? = some x → P i S → forceL (xwipe ρ vs) fun ρ0 => g x ρ0 S fun ρ' S' => tt ρ' S' fun c S2 => bIf c (b ρ' S2 fun y S3 => match look S3 S1.length with
      | some acc => acc.length < 1000000 ∧ P (i + 1) (S3.set S1.length (.lst (acc ++ [y])))
      | none => False) (P (i + 1) S2)) ∧ ∀ S, P ds.length S → q (.ref S1.length) S
theorem se_lc {wi : TI} {g : TG} {tt : TT} {te : TE} {vs : List Nat} {xi : XI} {x : XG} {xt : XT} {b : XE} (hi : SI C wi xi) (hg : SG C g x) (kg : KeepsW g vs) (ht : ST C tt xt) (hb : SE C te b) : SE C (tLc wi g tt te vs) (xLc xi x xt b vs) := by
  intro H0 w σ ρ S H Q q h e x1 k
  refine hi H0 w σ ρ S H _ _ h e x1 fun w1 S1 H1 J ds chk s1 h1 ok ⟨P, p0, pc, ps, pd⟩ => fun A hA => ?_
  have hz := h1.add hA (same_upd hA) (upd_same (o := .lst [])) (o := .lst []) .nil
  have rA : Rep C.K ⟨w1.ads ++ [A], w1.imm⟩ (.ref A) (.ref S1.length) := .ref (by rw [← h1.len]; exact List.getElem?_concat_length ..)
  have s01 : Ext w1 ⟨w1.ads ++ [A], w1.imm⟩ := ext_add
  generalize (⟨w1.ads ++ [A], w1.imm⟩ : Wl) = wz at hz rA s01
  refine ⟨fun i m H' => m = ds.length - i ∧ i ≤ ds.length ∧ ∃ w' S', Ext wz w' ∧ Holds C H0 w' S' H' ∧ P i S', ⟨_, rfl, Nat.zero_le _, wz, _, .rfl, hz, p0⟩, ?_⟩
  rintro i m H2 ⟨rfl, hle, w2, S2, s2, h2, p2⟩
  have s12 := s01.trans s2
  by_cases hlt : i < ds.length
  · have hd := List.getElem?_eq_getElem hlt
    obtain ⟨g1, g2⟩ := ok.go i _ w2 S2 H2 s12 h2 (pc i _ hle p2) hd
    refine .inr ⟨g1, fun H' => ∃ w' S', Ext wz w' ∧ Holds C H0 w' S' H' ∧ P (i + 1) S', fun H' z => ⟨_, by omega, rfl, hlt, z⟩, fun v H3 y => ?_⟩
    obtain ⟨w3, s3, h3, rv⟩ := g2 v H3 y
    have e3 : EnvR C.K w3 (wipe σ vs) (xwipe ρ vs) := ((e.mono s1).mono (s12.trans s3)).wiped vs
    have kk := kg v (wipe σ vs) H3
    rw [wipe_in σ vs vs fun _ z => z] at kk
    refine kk _ (hg H0 w3 _ _ S2 H3 v _ _ _ h3 e3 rv (by have z := ps i _ S2 hd p2; rw [forceL_eq] at z; exact z) fun w4 σ4 ρ4 S4 H4 s4 h4 e4 x4 => ?_)
    refine ht H0 w4 σ4 ρ4 S4 H4 _ _ h4 e4 x4 fun w5 S5 H5 c s5 h5 x5 => ?_
    cases c with
    | true =>
      rw [if_pos rfl]
      refine hb H0 w5 σ4 ρ4 S5 H5 _ _ h5 (e4.mono s5) x5 fun w6 S6 H6 u du s6 h6 ru x6 => ?_
      have sz6 := (((s2.trans s3).trans s4).trans s5).trans s6
      split at x6
      · rename_i acc hn
        obtain ⟨A2, xs, e2, ha, hl, pa⟩ := h6.lst (rA.mono sz6) hn
        cases e2
        exact ⟨xs, hl, by rw [pa.length]; exact big_lt x6.1, w6, _, sz6, h6.put ha (of_look hn) (v := .lst (xs ++ [u])) (o' := .lst (acc ++ [du])) (paired_app pa (.cons ru .nil)), x6.2⟩
      · exact x6.elim
    | false =>
      rw [if_neg Bool.false_ne_true]
      exact ⟨w5, S5, ((s2.trans s3).trans s4).trans s5, h5, x5⟩
  · have : i = ds.length := by omega
    subst this
    exact .inl ⟨ok.stop w2 S2 H2 s12 h2 (pc _ _ hle p2), k _ _ _ _ _ (s1.trans s12) h2 (rA.mono s2) (pd _ p2)⟩
/-! ### all(e for x in xs) -/
def xAll (xi : XI) (g : XG) (b : XE) (vs : List Nat) : XE := fun ρ S q => xi ρ S fun ds chk S1 => ∃ P : Nat → Sto → Prop, P 0 S1 ∧ (∀ i S, i ≤ ds.length → P i S → chk S) ∧
  (∀ (i : Nat) x S, ds[i]? = some x → P i S → forceL (xwipe ρ vs) fun ρ0 => g x ρ0 S fun ρ' S' => b ρ' S' fun y S2 => match y with
    | .bl b => bIf b (P (i + 1) S2) (q (.bl false) S2)
    | _ => False) ∧ ∀ S, P ds.length S → q (.bl true) S
theorem se_all {A : Addr} {wi : TI} {g : TG} {te : TE} {vs : List Nat} {xi : XI} {x : XG} {b : XE} (hA : A ∈ C.tb) (hi : SI C wi xi) (hg : SG C g x) (kg : KeepsW g vs) (hb : SE C te b) : SE C (GA.tAll A wi g te vs) (xAll xi x b vs) := by
  intro H0 w σ ρ S H Q q h e x1 k
  refine hi H0 w σ ρ S H _ _ h e x1 fun w1 S1 H1 J ds chk s1 h1 ok ⟨P, p0, pc, ps, pd⟩ => ⟨?_, fun Hz tz => ?_⟩
  · obtain ⟨_, t, e1, k1⟩ := h1.tab A hA
    exact ⟨t, e1, k1⟩
  have hz := h1.tabbed hA tz
  refine ⟨fun i m H' => m = ds.length - i ∧ i ≤ ds.length ∧ ∃ w' S', Ext w1 w' ∧ Holds C H0 w' S' H' ∧ P i S', ⟨_, rfl, Nat.zero_le _, w1, _, .rfl, hz, p0⟩, ?_⟩
  rintro i m H2 ⟨rfl, hle, w2, S2, s12, h2, p2⟩
  by_cases hlt : i < ds.length
  · have hd := List.getElem?_eq_getElem hlt
    obtain ⟨g1, g2⟩ := ok.go i _ w2 S2 H2 s12 h2 (pc i _ hle p2) hd
    refine .inr ⟨g1, fun H' => ∃ w' S', Ext w1 w' ∧ Holds C H0 w' S' H' ∧ P (i + 1) S', fun H' z => ⟨_, by omega, rfl, hlt, z⟩, fun v H3 y => ?_⟩
    obtain ⟨w3, s3, h3, rv⟩ := g2 v H3 y
    have e3 : EnvR C.K w3 (wipe σ vs) (xwipe ρ vs) := ((e.mono s1).mono (s12.trans s3)).wiped vs
    have kk := kg v (wipe σ vs) H3
    rw [wipe_in σ vs vs fun _ z => z] at kk
    refine kk _ (hg H0 w3 _ _ S2 H3 v _ _ _ h3 e3 rv (by have z := ps i _ S2 hd p2; rw [forceL_eq] at z; exact z) fun w4 σ4 ρ4 S4 H4 s4 h4 e4 x4 => ?_)
    refine hb H0 w4 σ4 ρ4 S4 H4 _ _ h4 e4 x4 fun w6 S6 H6 u du s6 h6 ru x6 => ?_
    have s16 := ((s12.trans s3).trans s4).trans s6
    split at x6
    · rename_i b
      cases b with
      | true =>
        refine ⟨true, ru.bl_at, ?_⟩
        rw [if_pos rfl]
        exact ⟨w6, S6, s16, h6, x6⟩
      | false =>
        refine ⟨false, ru.bl_at, ?_⟩
        rw [if_neg Bool.false_ne_true]
        exact k _ _ _ _ _ (s1.trans s16) h6 (.bl _) x6
    · exact x6.elim
  · have : i = ds.length := by omega
    subst this
    exact .inl ⟨ok.stop w2 S2 H2 s12 h2 (pc _ _ hle p2), k _ _ _ _ _ (s1.trans s12) h2 (.bl _) (pd _ p2)⟩
end
end DT

set_option Elab.async false
set_option linter.all false
set_option maxRecDepth 100000
set_option maxHeartbeats 1000000
namespace DT
open PySem PySem.Spec PyProof.Rows L2 Lw WD GxR
/-! ### one rule for all kinds that a construct may meet -/
def rAddA (K : PySem.W.Frag) : R2 := fun x y H Q => (∃ i j, x = .int i ∧ y = .int j ∧ Q (.int (i + j)) H) ∨ ((∃ i j, x = .str i ∧ y = .str j ∧ i.length + j.length ≤ sizeLine ∧ Q (.str (i ++ j)) H) ∨ (rCatA K x y H Q ∨ rCat x y H Q))
def rMulA (K : PySem.W.Frag) : R2 := fun x y H Q => (rI CMul (fun i j => .int (i * j)) x y H Q ∨ rI CMulX (fun i j => .int (i * j)) x y H Q) ∨ (rRep x y H Q ∨ TR.rRepA K x y H Q)
def rEqA (K : PySem.W.Frag) : R2 := fun x y H Q => rEq x y H Q ∨ rEqD K x y H Q
def rNeA (K : PySem.W.Frag) : R2 := fun x y H Q => rNe x y H Q ∨ rNeD K x y H Q
def rInA (K : PySem.W.Frag) (neg : Bool) : R2 := fun x y H Q => rIn K neg x y H Q ∨ IT.rInT K neg x y H Q
def rSlAny (K : PySem.W.Frag) : V → Option Int → Option Int → Hp → VK → Prop := fun x lo hi H Q => rSlL K x lo hi H Q ∨ (rSlA K x lo hi H Q ∨ rSlS x lo hi H Q)
section
variable {X : Cx}
theorem op_addA : OpR X (binaryOp .Add) (rAddA X.K) := op_add.or (op_add_str.or (op_catA.or op_cat))
theorem op_mulA : OpR X (binaryOp .Mult) (rMulA X.K) := (op_mul.or op_mulX).or (op_rep.or TR.op_repA)
theorem op_eqA (hu : X.A.units + 64 < cLine) : OpR X (compareOp .Eq) (rEqA X.K) := op_eq.or (op_eqD hu)
theorem op_neA (hu : X.A.units + 64 < cLine) : OpR X (compareOp .NotEq) (rNeA X.K) := op_ne.or (op_neD hu)
theorem op_inA (hu : X.A.units + 65 < cLine) : OpR X (compareOp .In) (rInA X.K false) := op_in_seq.or (IT.op_inT hu)
theorem op_notInA (hu : X.A.units + 65 < cLine) : OpR X (compareOp .NotIn) (rInA X.K true) := op_notIn_seq.or (IT.op_notInT hu)
theorem sl_any : SlR X (rSlAny X.K) := sl_list.or (sl_tupA.or sl_str)
/-- a list or a tuple is walked -/
def iSeqA (K : PySem.W.Frag) (t : TE) : TI := fun σ H R => t σ H fun x H1 => (∃ a, x = .ref a ∧ (∃ xs, SqL K H1 a xs) ∧ R (Itl K a) H1) ∨ (∃ a, x = .ref a ∧ (∃ xs, SqT K H1 a xs) ∧ R (Itt K a) H1)
theorem pi_seqA {tg l : Expr} {tl : TE} (hl : PE X l tl) : PI X tg l (iSeqA X.K tl) := by
  constructor
  intro pins s σ H R I h
  refine wpAny_mono (hl.run pins s σ H _ I h) (fun v s1 hv => ?_) fun _ _ z => z
  obtain ⟨x, H1, I1, r1, q1⟩ := hv
  have pushed : ∀ ob : Obj, Inv X pins σ H1 { s1 with heap := s1.heap.push ob } := fun ob => I1.kept (t' := s1.toks) fun b o e => Heap.get?_push_of_some _ e
  have one : ∀ b ∈ [s1.heap.objs.size], FpOk X pins H1 b := fun b hb => by
    rw [List.mem_singleton.mp hb]
    exact I1.fpOk (Nat.le_refl _) (I1.hok.fresh (Nat.le_refl _))
  rcases q1 with ⟨a, rfl, ⟨xs, hq⟩, q⟩ | ⟨a, rfl, ⟨xs, hq⟩, q⟩ <;> cases r1
  · obtain ⟨its, rv, p, hz⟩ := I1.list hq
    exact wpAny_pyIter_list p.isList ⟨_, [s1.heap.objs.size], _, _, H1, rfl, pushed _, turn_list a _, ⟨_, Heap.get?_push_size _ rfl, rfl, rfl⟩, one, q⟩
  · obtain ⟨its, rv, p, hz⟩ := I1.tuple hq
    exact wpAny_pyIter_tuple (show s1.heap.IsTuple a its.toArray from p) ⟨_, [s1.heap.objs.size], _, _, H1, rfl, pushed _, turn_tuple a _, ⟨_, Heap.get?_push_size _ rfl, rfl, rfl⟩, one, q⟩
end
section
variable {C : Ctx}
theorem s2_addA : S2 C (rAddA C.K) gAdd := s2_add
theorem s2_mulAA : S2 C (rMulA C.K) gMul := s2_mulA
theorem s2_eqA : S2 C (rEqA C.K) (gEq false) := s2_eq
theorem s2_neA : S2 C (rNeA C.K) (gEq true) := s2_ne
theorem s2_inA : S2 C (rInA C.K false) (gIn false) := s2_in
theorem s2_notinA : S2 C (rInA C.K true) (gIn true) := s2_notin
theorem ssl_A : SSl C (rSlAny C.K) gSl := ssl_any
theorem si_seqA {t : TE} {a : XE} (ha : SE C t a) : SI C (iSeqA C.K t) (xSeqIt a) := si_seq ha
/-! ### and, or, not by truth, as values -/
def xOrT (a b : XE) : XE := fun ρ S q => a ρ S fun d S1 => match truD S1 d with
  | some c => bIf c (q d S1) (b ρ S1 q)
  | none => False
def xAndT (a b : XE) : XE := fun ρ S q => a ρ S fun d S1 => match truD S1 d with
  | some c => bIf c (b ρ S1 q) (q d S1)
  | none => False
def xNotT (a : XE) : XE := fun ρ S q => a ρ S fun d S1 => match truD S1 d with
  | some c => q (.bl (!c)) S1
  | none => False
theorem se_orT {ta tb : TE} {a b : XE} (ha : SE C ta a) (hb : SE C tb b) : SE C (tOrT C.K ta tb) (xOrT a b) := by
  intro H0 w σ ρ S H Q q h e x1 k
  refine ha H0 w σ ρ S H _ _ h e x1 fun w1 S1 H1 v1 d1 s1 h1 r1 x2 => ?_
  split at x2
  · rename_i c hc
    cases c with
    | true => exact ⟨true, tru_of h1 r1 hc, k _ _ _ _ _ s1 h1 r1 x2⟩
    | false => exact ⟨false, tru_of h1 r1 hc, hb H0 w1 σ ρ S1 H1 Q q h1 (e.mono s1) x2 (k.mono s1)⟩
  · exact x2.elim
theorem se_andT {ta tb : TE} {a b : XE} (ha : SE C ta a) (hb : SE C tb b) : SE C (tAndT C.K ta tb) (xAndT a b) := by
  intro H0 w σ ρ S H Q q h e x1 k
  refine ha H0 w σ ρ S H _ _ h e x1 fun w1 S1 H1 v1 d1 s1 h1 r1 x2 => ?_
  split at x2
  · rename_i c hc
    cases c with
    | true => exact ⟨true, tru_of h1 r1 hc, hb H0 w1 σ ρ S1 H1 Q q h1 (e.mono s1) x2 (k.mono s1)⟩
    | false => exact ⟨false, tru_of h1 r1 hc, k _ _ _ _ _ s1 h1 r1 x2⟩
  · exact x2.elim
theorem se_notT {ta : TE} {a : XE} (ha : SE C ta a) : SE C (tNotT C.K ta) (xNotT a) := by
  intro H0 w σ ρ S H Q q h e x1 k
  refine ha H0 w σ ρ S H _ _ h e x1 fun w1 S1 H1 v1 d1 s1 h1 r1 x2 => ?_
  split at x2
  · exact ⟨_, tru_of h1 r1 (by assumption), k _ _ _ _ _ s1 h1 (.bl _) x2⟩
  · exact x2.elim
end
/-! ### constants of the program's top -/
def eachR (R : Value → D → Bool) : List Value → List D → Bool
  | [], [] => true
  | u :: us, d :: ds => R u d && eachR R us ds
  | _, _ => false
def flatR : Value → D → Bool
  | .int i _, .int j => decide (i = j)
  | .str x _, .str y => decide (x = y)
  | .bool a, .bl b => decide (a = b)
  | .none, .non => true
  | _, _ => false
def repB (K : PySem.W.Frag) : Nat → Value → D → Bool
  | n + 1, .ref a, .tup ds => match K.lookup a with
    | some ⟨.type "tuple", _, .seq its _, _⟩ => decide (its.size ≤ 100000) && eachR (repB K n) its.toList ds
    | _ => false
  | _, u, d => flatR u d
theorem flatR_ok {K : PySem.W.Frag} : ∀ {u : Value} {d : D}, flatR u d = true → ∃ v, RelV v u ∧ ∀ w, Rep K w v d
  | .int i t, .int j, h => ⟨.int i, ⟨t, rfl⟩, fun w => by cases (show i = j from of_decide_eq_true h); exact .int _⟩
  | .str x t, .str y, h => ⟨.str x, ⟨t, rfl⟩, fun w => by cases (show x = y from of_decide_eq_true h); exact .str _⟩
  | .bool a, .bl b, h => ⟨.bl a, rfl, fun w => by cases (show a = b from of_decide_eq_true h); exact .bl _⟩
  | .none, .non, _ => ⟨.non, rfl, fun w => .non⟩
theorem eachR_ok {K : PySem.W.Frag} {R : Value → D → Bool} (f : ∀ u d, R u d = true → ∃ v, RelV v u ∧ ∀ w, Rep K w v d) : ∀ {us : List Value} {ds : List D}, eachR R us ds = true → ∃ xs, Vals xs us ∧ ∀ w, Reps K w xs ds
  | [], [], _ => ⟨[], .nil, fun _ => .nil⟩
  | u :: us, d :: ds, h => by
    obtain ⟨h1, h2⟩ := Bool.and_eq_true_iff.mp (show (R u d && eachR R us ds) = true from h)
    obtain ⟨v, r, s⟩ := f u d h1
    obtain ⟨xs, rs, ss⟩ := eachR_ok f h2
    exact ⟨v :: xs, .cons r rs, fun w => .cons (s w) (ss w)⟩
theorem repB_ok {K : PySem.W.Frag} : ∀ (n : Nat) (u : Value) (d : D), repB K n u d = true → ∃ v, RelV v u ∧ ∀ w, Rep K w v d
  | 0, u, d, h => flatR_ok (by unfold repB at h; exact h)
  | n + 1, u, d, h => by
    by_cases hu : ∃ a ds, u = .ref a ∧ d = .tup ds
    · obtain ⟨a, ds, rfl, rfl⟩ := hu
      unfold repB at h
      split at h
      · rename_i dd its m sl hk
        obtain ⟨h1, h2⟩ := Bool.and_eq_true_iff.mp h
        obtain ⟨xs, rs, ss⟩ := eachR_ok (repB_ok n) h2
        exact ⟨.ref a, rfl, fun w => .tup_of (.inr ⟨_, its, m, hk, rfl, rfl, Nat.le_trans (of_decide_eq_true h1) (by rw [sizeLine_eq]; decide), rs⟩) (ss w)⟩
      · cases h
    · refine flatR_ok ?_
      unfold repB at h
      split at h <;> first
        | exact h
        | exact absurd ⟨_, _, rfl, rfl⟩ hu
        | (rename_i heq; cases heq)
        | (rename_i heq _; cases heq)
theorem rep_const {K : PySem.W.Frag} {n : Nat} {a : Addr} {d : D} (h : repB K n (.ref a) d = true) (w : Wl) : Rep K w (.ref a) d := by
  obtain ⟨v, r, s⟩ := repB_ok n _ d h
  have : v = .ref a := by
    cases v <;> first
      | (cases r; rfl)
      | (obtain ⟨_, z⟩ := r; cases z)
      | (cases (show _ = _ from r); rfl)
      | (cases (show _ = _ from r); done)
  rw [← this]
  exact s w
/-! ### the law's start -/
theorem holds_start {C : Ctx} {H : Hp} {a : Addr} {ns : List Int} (hT : ∀ p ∈ C.tb, H p = some (.tbl #[])) (hS : SqL C.K H a (ns.map V.int)) :
    ∃ H0 w, Holds C H0 w [] H ∧ Rep C.K w (.ref a) (.ro (ns.map D.int)) := by
  have t0 : TriplesOk (#[] : Array Value).toList := by trivial
  have hp : ∀ w, Reps C.K w (ns.map V.int) (ns.map D.int) := fun w => by
    clear hS
    induction ns with
    | nil => exact .nil
    | cons n ns ih => exact .cons (.int n) ih
  have old : Same (fun b => if b ∈ C.tb then none else H b) H := fun b o e => by
    dsimp only at e
    split at e
    · cases e
    · exact e
  have tab : ∀ p ∈ C.tb, (fun b => if b ∈ C.tb then none else H b) p = none ∧ ∃ t : Array Value, H p = some (.tbl t) ∧ TriplesOk t.toList := fun p hp => ⟨if_pos hp, #[], hT p hp, t0⟩
  have key : ∀ u, H a = some u → (u = .lst (ns.map V.int) ∨ ∃ o, u = .frz o (.lst (ns.map V.int))) → ∃ H0 w, Holds C H0 w [] H ∧ Rep C.K w (.ref a) (.ro (ns.map D.int)) := fun u hu e => by
    refine ⟨_, ⟨[], [(a, u)]⟩, ⟨fun q hq => ?_, old, rfl, List.nodup_nil, fun _ z => absurd z List.not_mem_nil, fun _ _ z => absurd z List.not_mem_nil, fun q hq t => ?_, fun n b o h1 h2 => by simp at h1, tab⟩, ?_⟩
    · rw [List.mem_singleton.mp hq]
      exact hu
    · rw [List.mem_singleton.mp hq]
      rcases e with rfl | ⟨o, rfl⟩ <;> exact fun z => by cases z
    · exact .ro (.inl ⟨u, List.mem_cons_self .., e⟩) (hp ⟨[], []⟩).length fun i x d h1 h2 => pr_get2 (hp _) h1 h2
  rcases hS with (h | ⟨o, h⟩) | h
  · exact key _ h (.inl rfl)
  · exact key _ h (.inr ⟨o, rfl⟩)
  · refine ⟨_, ⟨[], []⟩, ⟨fun q hq => absurd hq List.not_mem_nil, old, rfl, List.nodup_nil, fun _ z => absurd z List.not_mem_nil, fun _ _ z => absurd z List.not_mem_nil, fun q hq => absurd hq List.not_mem_nil, fun n b o h1 h2 => by simp at h1, tab⟩, ?_⟩
    exact .ro (.inr fun H => .inr h) (hp ⟨[], []⟩).length fun i x d h1 h2 => pr_get2 (hp _) h1 h2
end DT

set_option Elab.async false
set_option linter.all false
set_option maxRecDepth 100000
set_option maxHeartbeats 1000000
namespace DT
open PySem PySem.Spec PyProof.Rows L2 Lw WD GxR
/-! ### dicts of the module's top, text keys -/
def kdB (K : PySem.W.Frag) (a : Addr) (tab : List (Str × D)) : Bool := tab.all fun q => match PySem.W.nsIn K a q.1 with
  | some (some u) => repB K 6 u q.2
  | _ => false
def knB (K : PySem.W.Frag) (a : Addr) (no : List Str) : Bool := no.all fun x => match PySem.W.nsIn K a x with
  | some none => true
  | _ => false
def kFind : List (Str × D) → List Str → Str → Option (Option D)
  | [], no, s => if s ∈ no then some none else none
  | q :: t, no, s => if q.1 = s then some (some q.2) else kFind t no s
section
variable {C : Ctx}
theorem kFind_ok {K : PySem.W.Frag} {a : Addr} {no : List Str} (hn : knB K a no = true) : ∀ {tab : List (Str × D)}, kdB K a tab = true → ∀ {s : Str} {r : Option D}, kFind tab no s = some r →
    ∃ r', PySem.W.nsIn K a s = some r' ∧ (r = none → r' = none) ∧ ∀ d, r = some d → ∃ u v, r' = some u ∧ RelV v u ∧ ∀ w, Rep K w v d
  | [], _, s, r, h => by
    unfold kFind at h
    split at h
    · rename_i hs
      cases h
      have q := List.all_eq_true.mp hn _ hs
      split at q
      · rename_i e
        exact ⟨none, e, fun _ => rfl, fun d z => by cases z⟩
      · cases q
    · cases h
  | (k, v) :: t, ht, s, r, h => by
    unfold kFind at h
    have hh := List.all_eq_true.mp ht
    split at h
    · rename_i e
      cases h
      have e : k = s := e
      subst e
      have q := hh _ (List.mem_cons_self ..)
      dsimp only at q
      split at q
      · rename_i u e
        obtain ⟨x, rx, sx⟩ := repB_ok _ _ _ q
        exact ⟨some u, e, fun z => (by cases z), fun d z => by cases z; exact ⟨u, x, rfl, rx, sx⟩⟩
      · cases q
    · exact kFind_ok (tab := t) hn (List.all_eq_true.mpr fun q hq => hh q (List.mem_cons_of_mem _ hq)) h
/-- d[k] -/
def xKIx (tab : List (Str × D)) (x : XE) : XE := fun ρ S q => x ρ S fun d S1 => match d with
  | .str s => match kFind tab [] s with
    | some (some v) => q v S1
    | _ => False
  | _ => False
theorem se_kix {w0 : World} {a : Addr} {es : Array DictEntry} {n : Nat} {tab : List (Str × D)} {t : TE} {x : XE} (D : KDict C.K w0 a es n) (h : kdB C.K a tab = true) (hx : SE C t x) : SE C (tOp (rIxD C.K w0) (tC (.ref a)) t) (xKIx tab x) := by
  intro H0 w σ ρ S H Q q hh e x1 k
  refine hx H0 w σ ρ S H _ _ hh e x1 fun w1 S1 H1 v d s1 h1 r1 x2 => ?_
  split at x2
  · split at x2
    · rename_i s _ v e2
      obtain ⟨r', e3, _, e4⟩ := kFind_ok (a := a) (no := []) rfl h e2
      obtain ⟨u, y, rfl, ry, sy⟩ := e4 v rfl
      exact ⟨a, s, y, rfl, r1.str_at, ⟨es, n, u, D.at_, D.lit, e3, ry⟩, k _ _ _ _ _ s1 h1 (sy w1) x2⟩
    · exact x2.elim
  · exact x2.elim
/-- k in d -/
def xKIn (neg : Bool) (tab : List (Str × D)) (no : List Str) (x : XE) : XE := fun ρ S q => x ρ S fun d S1 => match d with
  | .str s => match kFind tab no s with
    | some (some _) => q (.bl (neg ^^ true)) S1
    | some none => q (.bl (neg ^^ false)) S1
    | none => False
  | _ => False
theorem se_kin {a : Addr} {tab : List (Str × D)} {no : List Str} {t : TE} {x : XE} (h : kdB C.K a tab = true) (hn : knB C.K a no = true) (hx : SE C t x) :
    SE C (tOp (fun x y H Q => ∃ (z : Str) (r : Option Value), x = .str z ∧ y = .ref a ∧ PySem.W.nsIn C.K a z = some r ∧ Q (.bl r.isSome) H) t (tC (.ref a))) (xKIn false tab no x) := by
  intro H0 w σ ρ S H Q q hh e x1 k
  refine hx H0 w σ ρ S H _ _ hh e x1 fun w1 S1 H1 v d s1 h1 r1 x2 => ?_
  split at x2
  · split at x2
    · rename_i s _ v e2
      obtain ⟨r', e3, _, e4⟩ := kFind_ok hn h e2
      obtain ⟨u, y, rfl, ry, sy⟩ := e4 v rfl
      exact ⟨s, _, r1.str_at, rfl, e3, k _ _ _ _ _ s1 h1 (.bl _) x2⟩
    · rename_i s _ e2
      obtain ⟨r', e3, e4, _⟩ := kFind_ok hn h e2
      obtain rfl := e4 rfl
      exact ⟨s, _, r1.str_at, rfl, e3, k _ _ _ _ _ s1 h1 (.bl _) x2⟩
    · exact x2.elim
  · exact x2.elim
theorem se_knotin {a : Addr} {tab : List (Str × D)} {no : List Str} {t : TE} {x : XE} (h : kdB C.K a tab = true) (hn : knB C.K a no = true) (hx : SE C t x) :
    SE C (tOp (fun x y H Q => ∃ (z : Str) (r : Option Value), x = .str z ∧ y = .ref a ∧ PySem.W.nsIn C.K a z = some r ∧ Q (.bl (!r.isSome)) H) t (tC (.ref a))) (xKIn true tab no x) := by
  intro H0 w σ ρ S H Q q hh e x1 k
  refine hx H0 w σ ρ S H _ _ hh e x1 fun w1 S1 H1 v d s1 h1 r1 x2 => ?_
  split at x2
  · split at x2
    · rename_i s _ v e2
      obtain ⟨r', e3, _, e4⟩ := kFind_ok hn h e2
      obtain ⟨u, y, rfl, ry, sy⟩ := e4 v rfl
      exact ⟨s, _, r1.str_at, rfl, e3, k _ _ _ _ _ s1 h1 (.bl _) x2⟩
    · rename_i s _ e2
      obtain ⟨r', e3, e4, _⟩ := kFind_ok hn h e2
      obtain rfl := e4 rfl
      exact ⟨s, _, r1.str_at, rfl, e3, k _ _ _ _ _ s1 h1 (.bl _) x2⟩
    · exact x2.elim
  · exact x2.elim
/-- d.get(k, z) -/
def xKGet (tab : List (Str × D)) (no : List Str) (x y : XE) : XE := fun ρ S q => x ρ S fun d S1 => y ρ S1 fun z S2 => match d with
  | .str s => match kFind tab no s with
    | some (some v) => q v S2
    | some none => q z S2
    | none => False
  | _ => False
theorem se_kget {w0 : World} {a : Addr} {es : Array DictEntry} {n : Nat} {tab : List (Str × D)} {no : List Str} {t u : TE} {x y : XE} (D : KDict C.K w0 a es n) (h : kdB C.K a tab = true) (hn : knB C.K a no = true) (hx : SE C t x) (hy : SE C u y) :
    SE C (KDx.tKGet2 C.K w0 (tC (.ref a)) t u) (xKGet tab no x y) := by
  intro H0 w σ ρ S H Q q hh e x1 k
  refine ⟨a, es, n, rfl, D, hx H0 w σ ρ S H _ _ hh e x1 fun w1 S1 H1 v d s1 h1 r1 x2 => hy H0 w1 σ ρ S1 H1 _ _ h1 (e.mono s1) x2 fun w2 S2 H2 z dz s2 h2 r2 x3 => ?_⟩
  split at x3
  · split at x3
    · rename_i s _ v e2
      obtain ⟨r', e3, _, e4⟩ := kFind_ok hn h e2
      obtain ⟨u, y, rfl, ry, sy⟩ := e4 v rfl
      exact ⟨s, _, r1.str_at, e3, fun z => (by cases z), fun u' z => by cases z; exact ⟨y, ry, k _ _ _ _ _ (s1.trans s2) h2 (sy w2) x3⟩⟩
    · rename_i s _ e2
      obtain ⟨r', e3, e4, _⟩ := kFind_ok hn h e2
      obtain rfl := e4 rfl
      exact ⟨s, _, r1.str_at, e3, fun _ => k _ _ _ _ _ (s1.trans s2) h2 r2 x3, fun u' z => by cases z⟩
    · exact x3.elim
  · exact x3.elim
/-! ### max, min, sum of one list -/
theorem reps_ints {K : PySem.W.Frag} {w : Wl} : ∀ {ns : List Int} {xs : List V}, Reps K w xs (ns.map D.int) → xs = ns.map V.int
  | [], xs, h => by cases h; rfl
  | n :: ns, xs, h => by
    cases h with
    | cons a b => rw [a.int_at, reps_ints b]; rfl
def fMax1 : XF := fun ds S q => match ds with
  | [.ref n] => ∃ ns : List Int, look S n = some (ns.map D.int) ∧ 0 < ns.length ∧ ∀ m, m ∈ ns → (∀ y ∈ ns, y ≤ m) → q (.int m) S
  | _ => False
theorem sc_max1 : SC C (rMax C.K) fMax1 := by
  intro H0 w S H xs dxs Q q h r x k
  unfold fMax1 at x
  split at x
  · obtain ⟨v, rfl, rv⟩ := reps1 r
    obtain ⟨ns, e, hn, x⟩ := x
    obtain ⟨a, ys, rfl, _, hl, ps⟩ := h.lst rv e
    have := reps_ints ps
    subst this
    exact ⟨a, ns, rfl, SqL.of hl, hn, fun m hm hle => k _ _ _ _ _ .rfl h (.int m) (x m hm hle)⟩
  · exact x.elim
def fMin1 : XF := fun ds S q => match ds with
  | [.ref n] => ∃ ns : List Int, look S n = some (ns.map D.int) ∧ 0 < ns.length ∧ ∀ m, m ∈ ns → (∀ y ∈ ns, m ≤ y) → q (.int m) S
  | _ => False
theorem sc_min1 : SC C (rMin C.K) fMin1 := by
  intro H0 w S H xs dxs Q q h r x k
  unfold fMin1 at x
  split at x
  · obtain ⟨v, rfl, rv⟩ := reps1 r
    obtain ⟨ns, e, hn, x⟩ := x
    obtain ⟨a, ys, rfl, _, hl, ps⟩ := h.lst rv e
    have := reps_ints ps
    subst this
    exact ⟨a, ns, rfl, SqL.of hl, hn, fun m hm hle => k _ _ _ _ _ .rfl h (.int m) (x m hm hle)⟩
  · exact x.elim
def fSum1 : XF := fun ds S q => match ds with
  | [.ref n] => ∃ ns : List Int, look S n = some (ns.map D.int) ∧ q (.int ns.sum) S
  | _ => False
theorem sc_sum1 : SC C (rSum C.K) fSum1 := by
  intro H0 w S H xs dxs Q q h r x k
  unfold fSum1 at x
  split at x
  · obtain ⟨v, rfl, rv⟩ := reps1 r
    obtain ⟨ns, e, x⟩ := x
    obtain ⟨a, ys, rfl, _, hl, ps⟩ := h.lst rv e
    have := reps_ints ps
    subst this
    exact ⟨a, ns, rfl, SqL.of hl, k _ _ _ _ _ .rfl h (.int _) x⟩
  · exact x.elim
/-! ### pop -/
def gPop : Nat → List D → XF := fun n ds es S q => match es with
  | [] => match ds.getLast? with
    | some d => q d (S.set n (.lst ds.dropLast))
    | none => False
  | _ => False
theorem paired_take' {R : V → D → Prop} {xs : List V} {ds : List D} (p : Paired R xs ds) : ∀ n : Nat, Paired R (xs.take n) (ds.take n) := by
  induction p with
  | nil => intro n; rw [List.take_nil, List.take_nil]; exact .nil
  | cons a _ ih =>
    intro n
    cases n with
    | zero => exact .nil
    | succ n => exact .cons a (ih n)
theorem paired_dropLast {R : V → D → Prop} {xs : List V} {ds : List D} (p : Paired R xs ds) : Paired R xs.dropLast ds.dropLast := by
  rw [List.dropLast_eq_take, List.dropLast_eq_take, p.length]
  exact paired_take' p _
theorem sl_pop : SL (C := C) rPop gPop := by
  intro H0 w S H n a xs ds vs es Q q h ha hH hS ps pv x k
  unfold gPop at x
  split at x
  · cases pv
    split at x
    · rename_i d e
      rw [List.getLast?_eq_getElem?] at e
      obtain ⟨v, hv, rv⟩ := paired_at ps e
      rw [← ps.length] at hv
      exact ⟨a, xs, v, rfl, rfl, hH, hv, k _ _ _ _ _ .rfl (h.put ha (of_look hS) (v := .lst xs.dropLast) (o' := .lst ds.dropLast) (paired_dropLast ps)) rv x⟩
    · exact x.elim
  · exact x.elim
/-- no argument -/
theorem se_bl0 {r : V → List V → Hp → VK → Prop} {g : Nat → List D → XF} {t : TE} {o : XE} (hr : SL (C := C) r g) (ho : SE C t o) : SE C (tBM0 C.K "list" r t) (xBL g o xNil) := by
  intro H0 w σ ρ S H Q q h e x1 k
  refine ho H0 w σ ρ S H _ _ h e x1 fun w1 S1 H1 v1 d1 s1 h1 r1 x2 => ?_
  split at x2
  · rename_i n
    split at x2
    · rename_i ds hn
      obtain ⟨p, xs, rfl, hp, hH, ps⟩ := h1.lst r1 hn
      refine ⟨.inl ⟨rfl, xs, SqL.of hH⟩, ?_⟩
      have x2 : (match look S1 n with | some es => g n es [] S1 q | none => False) := x2
      rw [hn] at x2
      exact hr H0 w1 S1 H1 n p xs ds [] [] Q q h1 hp hH hn ps .nil x2 (k.mono s1)
    · exact x2.elim
  · exact x2.elim
/-! ### zip -/
def itD (S : Sto) : D → Option (List D)
  | .tup ds => some ds
  | .ro ds => some ds
  | .ref n => look S n
  | .str x => some (x.cps.toList.map fun c => .str ⟨#[c]⟩)
  | _ => none
def zipD : List D → List D → List D
  | a :: as, b :: bs => .tup [a, b] :: zipD as bs
  | _, _ => []
theorem zipD_len : ∀ xs ys : List D, (zipD xs ys).length = min xs.length ys.length
  | [], ys => by simp [zipD]
  | _ :: _, [] => by simp [zipD]
  | a :: as, b :: bs => by
    show (zipD as bs).length + 1 = _
    rw [zipD_len as bs, List.length_cons, List.length_cons]
    omega
theorem zipD_at : ∀ {xs ys : List D} {i : Nat} {d : D}, (zipD xs ys)[i]? = some d → ∃ a b, d = .tup [a, b] ∧ xs[i]? = some a ∧ ys[i]? = some b
  | [], ys, i, d, h => by simp [zipD] at h
  | _ :: _, [], i, d, h => by simp [zipD] at h
  | a :: as, b :: bs, 0, d, h => by
    cases h
    exact ⟨a, b, rfl, rfl, rfl⟩
  | a :: as, b :: bs, i + 1, d, h => zipD_at (xs := as) (ys := bs) (by simpa [zipD] using h)
def xZip (a : XA) : XI := fun ρ S r => a ρ S fun ds S1 => match ds with
  | [x, y] => match itD S1 x with
    | some xs => match itD S1 y with
      | some ys => r (zipD xs ys) (fun S => itD S x = some xs ∧ itD S y = some ys) S1
      | none => False
    | none => False
  | _ => False
theorem strs_reps {K : PySem.W.Frag} {w : Wl} : ∀ l : List Nat, Reps K w (l.map fun c => V.str ⟨#[c]⟩) (l.map fun c => D.str ⟨#[c]⟩)
  | [] => .nil
  | _ :: l => .cons (.str _) (strs_reps l)
theorem src_of {w : Wl} {S : Sto} {H : Hp} {H0 : Hp} {d : D} {ds : List D} {v : V} (h : Holds C H0 w S H) (r : Rep C.K w v d) (e : itD S d = some ds) :
    ∃ Z : ZG.Src, v = Z.v ∧ ∀ w' S' H', Ext w w' → Holds C H0 w' S' H' → itD S' d = some ds → ∃ xs, Z.has C.K H' xs ∧ Reps C.K w' xs ds := by
  cases d with
  | str x =>
    cases e
    rw [r.str_at]
    exact ⟨.txt x, rfl, fun w' S' H' _ _ _ => ⟨_, rfl, strs_reps _⟩⟩
  | tup es =>
    cases e
    obtain ⟨a, xs, rfl, t, ps⟩ := r.tup_at
    exact ⟨.tup a, rfl, fun w' S' H' s hh _ => ⟨xs, (t.mono s.sub).sq hh.imm, ps.mono s⟩⟩
  | ro es =>
    cases e
    obtain ⟨a, xs, rfl, t, ps⟩ := r.ro_at
    exact ⟨.lst a, rfl, fun w' S' H' s hh _ => ⟨xs, (t.mono s.sub).sq hh.imm, ps.mono s⟩⟩
  | ref n =>
    obtain ⟨a, xs, rfl, ha, hl, ps⟩ := h.lst r e
    refine ⟨.lst a, rfl, fun w' S' H' s hh e' => ?_⟩
    obtain ⟨b, ys, e2, hb, hl2, p2⟩ := hh.lst (r.mono s) e'
    cases e2
    exact ⟨ys, SqL.of hl2, p2⟩
  | _ => cases e
theorem si_zip {n : Option Nat} {t : TA} {a : XA} (ha : SA C n t a) : SI C (ZG.iZipG C.K t) (xZip a) := by
  intro H0 w σ ρ S H R r h e x k
  refine ha H0 w σ ρ S H _ _ h e x fun w1 S1 H1 vs ds s1 h1 r1 _ x1 => ?_
  split at x1
  · rename_i dx dy
    split at x1
    · rename_i xs ex
      split at x1
      · rename_i ys ey
        obtain ⟨v, u, rfl, rv, ru⟩ := reps2 r1
        obtain ⟨Z1, rfl, g1⟩ := src_of h1 rv ex
        obtain ⟨Z2, rfl, g2⟩ := src_of h1 ru ey
        obtain ⟨as, z1, _⟩ := g1 w1 S1 H1 .rfl h1 ex
        obtain ⟨bs, z2, _⟩ := g2 w1 S1 H1 .rfl h1 ey
        refine ⟨Z1, Z2, as, bs, rfl, z1, z2, k _ _ _ _ _ _ s1 h1 ⟨fun w' S H s hh hc => ?_, fun i d w' S H s hh hc hd => ?_⟩ x1⟩
        · obtain ⟨as, z1, p1⟩ := g1 w' S H s hh hc.1
          obtain ⟨bs, z2, p2⟩ := g2 w' S H s hh hc.2
          exact ⟨as, bs, z1, z2, by rw [zipD_len, p1.length, p2.length]⟩
        · obtain ⟨as, z1, p1⟩ := g1 w' S H s hh hc.1
          obtain ⟨bs, z2, p2⟩ := g2 w' S H s hh hc.2
          obtain ⟨da, db, rfl, ea, eb⟩ := zipD_at hd
          obtain ⟨va, hva, rva⟩ := paired_at p1 ea
          obtain ⟨vb, hvb, rvb⟩ := paired_at p2 eb
          refine ⟨⟨as, bs, z1, z2, (List.getElem?_eq_some_iff.mp hva).1, (List.getElem?_eq_some_iff.mp hvb).1⟩, fun x H' y => ?_⟩
          obtain ⟨T, x', y', rfl, hT, rfl, q1, q2⟩ := y
          have q1 := q1 as z1
          have q2 := q2 bs z2
          rw [hva] at q1
          rw [hvb] at q2
          cases q1
          cases q2
          refine ⟨_, ext_lay, hh.lay hT (same_upd hT) upd_same (by intro t z; cases z), ?_⟩
          exact Rep.tup_of (.inl (List.mem_cons_self ..)) (.cons (rva.mono ext_lay) (.cons (rvb.mono ext_lay) .nil))
      · exact x1.elim
    · exact x1.elim
  · exact x1.elim
end
end DT

set_option Elab.async false
set_option linter.all false
set_option maxRecDepth 100000
set_option maxHeartbeats 4000000
namespace K27
open PySem PySem.Spec PyProof.Rows L2 DT
abbrev d_FLOWS : D := .tup [.str "public", .str "secret"]
abbrev kd_NUMBERS : List (Str × D) := [("set", .str "rn"), ("move", .str "rr"), ("add", .str "rrr"), ("addc", .str "rrr"), ("sub", .str "rrr"), ("subc", .str "rrr"), ("mul", .str "rrr"), ("high", .str "rrr"), ("div", .str "rrr"), ("and", .str "rrr"), ("or", .str "rrr"), ("xor", .str "rrr"), ("less", .str "rrr"), ("downby", .str "rrr"), ("down", .str "rrk"), ("up", .str "rrk"), ("carry", .str "r"), ("clear", .str ""), ("load", .str "rrd"), ("store", .str "rrd"), ("jump", .str "p"), ("below", .str "rnp"), ("call", .str "p"), ("ret", .str ""), ("halt", .str "")]
abbrev kn_NUMBERS : List Str := []
abbrev kd_GREATEST : List (Str × D) := [("r", .int (15)), ("n", .int (65535)), ("k", .int (15)), ("d", .int (4095)), ("p", .int (19999))]
abbrev kn_GREATEST : List Str := []
/-- is_integer: names value, least, greatest -/
noncomputable def b_is_integer : XS :=
  (xSeq (xIfS (xOr (xNot (xTru (xCall fIsi (xCons (xVar 0) (xCons (xC (.con (.ty "int"))) xNil))))) (xTru (xCall fIsi (xCons (xVar 0) (xCons (xC (.con (.ty "bool"))) xNil)))))
(xRet (xC (.bl false)))
xNext)
(xRet (xChain (gI0 fun i j => .bl (decide (i ≤ j))) (gI0 fun i j => .bl (decide (i ≤ j))) (xVar 1) (xVar 0) (xVar 2))))
@[irreducible] noncomputable def wp_is_integer : XF := lock (xFn 0 b_is_integer)
theorem eq_is_integer : wp_is_integer = xFn 0 b_is_integer := by
  unfold wp_is_integer
  exact lock_eq _
/-- region_end: names region -/
noncomputable def b_region_end : XS :=
  (xRet (xOp gAdd (xOp gIx (xVar 0) (xC (.int 0))) (xOp gIx (xVar 0) (xC (.int 1)))))
@[irreducible] noncomputable def wp_region_end : XF := lock (xFn 0 b_region_end)
theorem eq_region_end : wp_region_end = xFn 0 b_region_end := by
  unfold wp_region_end
  exact lock_eq _
/-- _law_source, from: state = int(cell * 7919 + k * 104729 + 12345) % 2147483647 -/
@[irreducible] noncomputable def c_law_source_1 : XS := lock
  (xSeq (xAsg (xOp (gI (fun _ j => 0 < j) fun i j => .int (i % j)) (xCall fInt (xCons (xOp gAdd (xOp gAdd (xOp gMul (xVar 2) (xC (.int 7919))) (xOp gMul (xVar 1) (xC (.int 104729)))) (xC (.int 12345))) xNil)) (xC (.int 2147483647))) (xName 3))
(xSeq (xIfS (xTest (xOp (gI0 fun i j => .bl (decide (i < j))) (xVar 2) (xOp (gI CPow fun i j => .int (i ^ j.toNat)) (xC (.int 10)) (xC (.int 18)))))
(xRet (xLst (xCons (xC (.int 0)) (xCons (xVar 3) xNil))))
xNext)
(xRet (xLst (xCons (xVar 2) (xCons (xVar 3) xNil))))))
theorem eqc_law_source_1 : c_law_source_1 =
  (xSeq (xAsg (xOp (gI (fun _ j => 0 < j) fun i j => .int (i % j)) (xCall fInt (xCons (xOp gAdd (xOp gAdd (xOp gMul (xVar 2) (xC (.int 7919))) (xOp gMul (xVar 1) (xC (.int 104729)))) (xC (.int 12345))) xNil)) (xC (.int 2147483647))) (xName 3))
(xSeq (xIfS (xTest (xOp (gI0 fun i j => .bl (decide (i < j))) (xVar 2) (xOp (gI CPow fun i j => .int (i ^ j.toNat)) (xC (.int 10)) (xC (.int 18)))))
(xRet (xLst (xCons (xC (.int 0)) (xCons (xVar 3) xNil))))
xNext)
(xRet (xLst (xCons (xVar 2) (xCons (xVar 3) xNil)))))) := by
  unfold c_law_source_1
  exact lock_eq _
/-- _law_source: names script, k, cell, state -/
noncomputable def b_law_source : XS :=
  (xSeq (xAsg (xC (.int 0)) (xName 2))
(xSeq (xIfS (xTest (xOp (gI0 fun i j => .bl (decide (j < i))) (xCall fLen (xCons (xVar 0) xNil)) (xC (.int 0))))
(xAsg (xCall fAbs (xCons (xOp gIx (xVar 0) (xOp (gI (fun _ j => 0 < j) fun i j => .int (i % j)) (xVar 1) (xCall fLen (xCons (xVar 0) xNil)))) xNil)) (xName 2))
xNext)
c_law_source_1))
@[irreducible] noncomputable def wp_law_source : XF := lock (xFn 2 b_law_source)
theorem eq_law_source : wp_law_source = xFn 2 b_law_source := by
  unfold wp_law_source
  exact lock_eq _
/-- _law_draw: names source, many, worth -/
noncomputable def b_law_draw : XS :=
  (xSeq (xIfS (xTest (xOp (gI0 fun i j => .bl (decide (j < i))) (xOp gIx (xVar 0) (xC (.int 0))) (xC (.int 0))))
(xSeq (xAsg (xOp (gI (fun _ j => 0 < j) fun i j => .int (i % j)) (xCall fInt (xCons (xOp gIx (xVar 0) (xC (.int 0))) xNil)) (xVar 1)) (xName 2))
(xSeq (xAsg (xOp (gI CDivW fun i j => .int (i / j)) (xOp gIx (xVar 0) (xC (.int 0))) (xVar 1)) (xSub (xVar 0) (xC (.int 0))))
(xRet (xVar 2))))
xNext)
(xSeq (xAsg (xOp (gI (fun _ j => 0 < j) fun i j => .int (i % j)) (xCall fInt (xCons (xOp gAdd (xOp gMul (xOp gIx (xVar 0) (xC (.int 1))) (xC (.int 48271))) (xC (.int 11))) xNil)) (xC (.int 2147483647))) (xSub (xVar 0) (xC (.int 1))))
(xRet (xOp (gI (fun _ j => 0 < j) fun i j => .int (i % j)) (xOp (gI (fun _ j => 0 < j) fun i j => .int (i % j)) (xCall fInt (xCons (xOp gAdd (xOp gMul (xOp (gI CDivW fun i j => .int (i / j)) (xOp gIx (xVar 0) (xC (.int 1))) (xC (.int 11))) (xC (.int 69621))) (xOp gMul (xOp (gI (fun _ j => 0 < j) fun i j => .int (i % j)) (xOp gIx (xVar 0) (xC (.int 1))) (xC (.int 509))) (xC (.int 40692)))) xNil)) (xC (.int 2147483399))) (xVar 1)))))
@[irreducible] noncomputable def wp_law_draw : XF := lock (xFn 1 b_law_draw)
theorem eq_law_draw : wp_law_draw = xFn 1 b_law_draw := by
  unfold wp_law_draw
  exact lock_eq _
/-- _law_is_number: names value, least, greatest -/
noncomputable def b_law_is_number : XS :=
  (xRet (xAndT (xCall fIsi (xCons (xVar 0) (xCons (xC (.con (.ty "int"))) xNil))) (xAndT (xNotT (xCall fIsi (xCons (xVar 0) (xCons (xC (.con (.ty "bool"))) xNil)))) (xChain (gI0 fun i j => .bl (decide (i ≤ j))) (gI0 fun i j => .bl (decide (i ≤ j))) (xVar 1) (xVar 0) (xVar 2)))))
@[irreducible] noncomputable def wp_law_is_number : XF := lock (xFn 0 b_law_is_number)
theorem eq_law_is_number : wp_law_is_number = xFn 0 b_law_is_number := by
  unfold wp_law_is_number
  exact lock_eq _
/-- _law_answers: names value, due -/
noncomputable def b_law_answers : XS :=
  (xRet (xAndT (xCall fIsi (xCons (xVar 0) (xCons (xC (.con (.ty "bool"))) xNil))) (xOp (gEq false) (xVar 0) (xVar 1))))
@[irreducible] noncomputable def wp_law_answers : XF := lock (xFn 0 b_law_answers)
theorem eq_law_answers : wp_law_answers = xFn 0 b_law_answers := by
  unfold wp_law_answers
  exact lock_eq _
/-- is_region: names value, start, size, flow, most -/
noncomputable def b_is_region : XS :=
  (xSeq (xIfS (xOr (xNot (xTru (xCall fIsi (xCons (xVar 0) (xCons (xC (.con (.ty "tuple"))) xNil))))) (xTest (xOp (gEq true) (xCall fLen (xCons (xVar 0) xNil)) (xC (.int 4)))))
(xRet (xC (.bl false)))
xNext)
(xSeq (xAsg (xVar 0) (xGTup 4 (xGCons (xName 1) (xGCons (xName 2) (xGCons (xName 3) (xGCons (xName 4) xGNil))))))
(xSeq (xIfS (xOr (xNot (xTru (xCall wp_is_integer (xCons (xVar 1) (xCons (xC (.int 0)) (xCons (xOp (gI0 fun i j => .int (i - j)) (xC (.int (4096))) (xC (.int 1))) xNil)))))) (xNot (xTru (xCall wp_is_integer (xCons (xVar 2) (xCons (xC (.int 1)) (xCons (xOp (gI0 fun i j => .int (i - j)) (xC (.int (4096))) (xVar 1)) xNil)))))))
(xRet (xC (.bl false)))
xNext)
(xRet (xAndT (xOp (gIn false) (xVar 3) (xC d_FLOWS)) (xCall wp_is_integer (xCons (xVar 4) (xCons (xC (.int 0)) (xCons (xC (.int (65535))) xNil)))))))))
@[irreducible] noncomputable def wp_is_region : XF := lock (xFn 4 b_is_region)
theorem eq_is_region : wp_is_region = xFn 4 b_is_region := by
  unfold wp_is_region
  exact lock_eq _
/-- layout_end: names layout -/
noncomputable def b_layout_end : XS :=
  (xSeq (xIfS (xTest (xOp (gEq false) (xCall fLen (xCons (xVar 0) xNil)) (xC (.int 0))))
(xRet (xC (.int 0)))
xNext)
(xRet (xCall wp_region_end (xCons (xOp gIx (xVar 0) (xUn gNeg (xC (.int 1)))) xNil))))
@[irreducible] noncomputable def wp_layout_end : XF := lock (xFn 0 b_layout_end)
theorem eq_layout_end : wp_layout_end = xFn 0 b_layout_end := by
  unfold wp_layout_end
  exact lock_eq _
/-- region_at: names layout, address, low, high, middle -/
noncomputable def b_region_at : XS :=
  (xSeq (xAsg (xC (.int 0)) (xName 2))
(xSeq (xAsg (xCall fLen (xCons (xVar 0) xNil)) (xName 3))
(xSeq (xWhile (xTest (xOp (gI0 fun i j => .bl (decide (i < j))) (xVar 2) (xVar 3)))
(xSeq (xAsg (xOp (gI CDivW fun i j => .int (i / j)) (xOp gAdd (xVar 2) (xVar 3)) (xC (.int 2))) (xName 4))
(xIfS (xTest (xOp (gI0 fun i j => .bl (decide (i ≤ j))) (xOp gIx (xOp gIx (xVar 0) (xVar 4)) (xC (.int 0))) (xVar 1)))
(xAsg (xOp gAdd (xVar 4) (xC (.int 1))) (xName 2))
(xAsg (xVar 4) (xName 3)))))
(xSeq (xIfS (xOr (xTest (xOp (gEq false) (xVar 2) (xC (.int 0)))) (xTest (xOp (gI0 fun i j => .bl (decide (j ≤ i))) (xVar 1) (xCall wp_region_end (xCons (xOp gIx (xVar 0) (xOp (gI0 fun i j => .int (i - j)) (xVar 2) (xC (.int 1)))) xNil)))))
(xRet (xUn gNeg (xC (.int 1))))
xNext)
(xRet (xOp (gI0 fun i j => .int (i - j)) (xVar 2) (xC (.int 1))))))))
@[irreducible] noncomputable def wp_region_at : XF := lock (xFn 3 b_region_at)
theorem eq_region_at : wp_region_at = xFn 3 b_region_at := by
  unfold wp_region_at
  exact lock_eq _
/-- _law_layout, from: return layout -/
@[irreducible] noncomputable def c_law_layout_1 : XS := lock
  (xRet (xVar 1))
theorem eqc_law_layout_1 : c_law_layout_1 =
  (xRet (xVar 1)) := by
  unfold c_law_layout_1
  exact lock_eq _
/-- _law_layout, from: size = min(size, 4096 - start) -/
@[irreducible] noncomputable def c_law_layout_2 : XS := lock
  (xSeq (xAsg (xCall fMin (xCons (xVar 5) (xCons (xOp (gI0 fun i j => .int (i - j)) (xC (.int 4096)) (xVar 4)) xNil))) (xName 5))
(xSeq (xAsg (xOp gIx (xRo (xCons (xC (.int 65535)) (xCons (xCall wp_law_draw (xCons (xVar 0) (xCons (xC (.int 10)) xNil))) (xCons (xCall wp_law_draw (xCons (xVar 0) (xCons (xC (.int 65536)) xNil))) xNil)))) (xCall wp_law_draw (xCons (xVar 0) (xCons (xC (.int 3)) xNil)))) (xName 6))
(xSeq (xDrop (xBL gAppend (xVar 1) (xCons (xTup (xCons (xVar 4) (xCons (xVar 5) (xCons (xOp gIx (xRo (xCons (xC (.str "public")) (xCons (xC (.str "secret")) xNil))) (xCall wp_law_draw (xCons (xVar 0) (xCons (xC (.int 2)) xNil)))) (xCons (xVar 6) xNil))))) xNil)))
(xAsg (xOp gAdd (xVar 4) (xVar 5)) (xName 2)))))
theorem eqc_law_layout_2 : c_law_layout_2 =
  (xSeq (xAsg (xCall fMin (xCons (xVar 5) (xCons (xOp (gI0 fun i j => .int (i - j)) (xC (.int 4096)) (xVar 4)) xNil))) (xName 5))
(xSeq (xAsg (xOp gIx (xRo (xCons (xC (.int 65535)) (xCons (xCall wp_law_draw (xCons (xVar 0) (xCons (xC (.int 10)) xNil))) (xCons (xCall wp_law_draw (xCons (xVar 0) (xCons (xC (.int 65536)) xNil))) xNil)))) (xCall wp_law_draw (xCons (xVar 0) (xCons (xC (.int 3)) xNil)))) (xName 6))
(xSeq (xDrop (xBL gAppend (xVar 1) (xCons (xTup (xCons (xVar 4) (xCons (xVar 5) (xCons (xOp gIx (xRo (xCons (xC (.str "public")) (xCons (xC (.str "secret")) xNil))) (xCall wp_law_draw (xCons (xVar 0) (xCons (xC (.int 2)) xNil)))) (xCons (xVar 6) xNil))))) xNil)))
(xAsg (xOp gAdd (xVar 4) (xVar 5)) (xName 2))))) := by
  unfold c_law_layout_2
  exact lock_eq _
/-- _law_layout, from: if _law_draw(source, 40) == 5: -/
@[irreducible] noncomputable def c_law_layout_3 : XS := lock
  (xSeq (xIfS (xTest (xOp (gEq false) (xCall wp_law_draw (xCons (xVar 0) (xCons (xC (.int 40)) xNil))) (xC (.int 5))))
(xAsg (xOp (gI0 fun i j => .int (i - j)) (xC (.int 4096)) (xVar 4)) (xName 5))
xNext)
c_law_layout_2)
theorem eqc_law_layout_3 : c_law_layout_3 =
  (xSeq (xIfS (xTest (xOp (gEq false) (xCall wp_law_draw (xCons (xVar 0) (xCons (xC (.int 40)) xNil))) (xC (.int 5))))
(xAsg (xOp (gI0 fun i j => .int (i - j)) (xC (.int 4096)) (xVar 4)) (xName 5))
xNext)
c_law_layout_2) := by
  unfold c_law_layout_3
  exact lock_eq _
/-- _law_layout, from: if _law_draw(source, 6) == 4: -/
@[irreducible] noncomputable def c_law_layout_4 : XS := lock
  (xSeq (xIfS (xTest (xOp (gEq false) (xCall wp_law_draw (xCons (xVar 0) (xCons (xC (.int 6)) xNil))) (xC (.int 4))))
(xSeq (xAsg (xOp gIx (xRo (xCons (xC (.int 255)) (xCons (xC (.int 256)) (xCons (xC (.int 257)) (xCons (xC (.int 257)) (xCons (xC (.int 299)) xNil)))))) (xCall wp_law_draw (xCons (xVar 0) (xCons (xC (.int 5)) xNil)))) (xName 7))
(xSeq (xAsg (xOp gAdd (xC (.int 1)) (xCall wp_law_draw (xCons (xVar 0) (xCons (xOp (gI CDivW fun i j => .int (i / j)) (xC (.int 4096)) (xVar 7)) xNil)))) (xName 8))
(xAsg (xLc (xRng1 (xCons (xVar 7) xNil)) (xName 3) xYes (xTup (xCons (xOp gMul (xVar 3) (xVar 8)) (xCons (xOp gAdd (xC (.int 1)) (xCall wp_law_draw (xCons (xVar 0) (xCons (xVar 8) xNil)))) (xCons (xC (.str "secret")) (xCons (xC (.int 65535)) xNil))))) [3]) (xName 1))))
xNext)
c_law_layout_1)
theorem eqc_law_layout_4 : c_law_layout_4 =
  (xSeq (xIfS (xTest (xOp (gEq false) (xCall wp_law_draw (xCons (xVar 0) (xCons (xC (.int 6)) xNil))) (xC (.int 4))))
(xSeq (xAsg (xOp gIx (xRo (xCons (xC (.int 255)) (xCons (xC (.int 256)) (xCons (xC (.int 257)) (xCons (xC (.int 257)) (xCons (xC (.int 299)) xNil)))))) (xCall wp_law_draw (xCons (xVar 0) (xCons (xC (.int 5)) xNil)))) (xName 7))
(xSeq (xAsg (xOp gAdd (xC (.int 1)) (xCall wp_law_draw (xCons (xVar 0) (xCons (xOp (gI CDivW fun i j => .int (i / j)) (xC (.int 4096)) (xVar 7)) xNil)))) (xName 8))
(xAsg (xLc (xRng1 (xCons (xVar 7) xNil)) (xName 3) xYes (xTup (xCons (xOp gMul (xVar 3) (xVar 8)) (xCons (xOp gAdd (xC (.int 1)) (xCall wp_law_draw (xCons (xVar 0) (xCons (xVar 8) xNil)))) (xCons (xC (.str "secret")) (xCons (xC (.int 65535)) xNil))))) [3]) (xName 1))))
xNext)
c_law_layout_1) := by
  unfold c_law_layout_4
  exact lock_eq _
/-- _law_layout: names source, layout, end, k, start, size, most, many, step -/
noncomputable def b_law_layout : XS :=
  (xSeq (xAsg (xLst xNil) (xName 1))
(xSeq (xAsg (xC (.int 0)) (xName 2))
(xSeq (xFor (xRng1 (xCons (xCall wp_law_draw (xCons (xVar 0) (xCons (xC (.int 7)) xNil))) xNil)) (xName 3)
(xSeq (xAsg (xOp gAdd (xVar 2) (xOp gIx (xRo (xCons (xC (.int 0)) (xCons (xC (.int 0)) (xCons (xCall wp_law_draw (xCons (xVar 0) (xCons (xC (.int 4)) xNil))) (xCons (xCall wp_law_draw (xCons (xVar 0) (xCons (xC (.int 4096)) xNil))) xNil))))) (xCall wp_law_draw (xCons (xVar 0) (xCons (xC (.int 4)) xNil))))) (xName 4))
(xSeq (xIfS (xTest (xOp (gI0 fun i j => .bl (decide (j ≤ i))) (xVar 4) (xC (.int 4096))))
xBreak
xNext)
(xSeq (xAsg (xOp gAdd (xC (.int 1)) (xCall wp_law_draw (xCons (xVar 0) (xCons (xC (.int 4)) xNil)))) (xName 5))
(xSeq (xIfS (xTest (xOp (gEq false) (xCall wp_law_draw (xCons (xVar 0) (xCons (xC (.int 12)) xNil))) (xC (.int 5))))
(xAsg (xOp gAdd (xC (.int 1)) (xCall wp_law_draw (xCons (xVar 0) (xCons (xOp (gI0 fun i j => .int (i - j)) (xC (.int 4096)) (xVar 4)) xNil)))) (xName 5))
xNext)
c_law_layout_3)))))
c_law_layout_4)))
@[irreducible] noncomputable def wp_law_layout : XF := lock (xFn 8 b_law_layout)
theorem eq_law_layout : wp_law_layout = xFn 8 b_law_layout := by
  unfold wp_law_layout
  exact lock_eq _
/-- _law_is_region: names region -/
noncomputable def b_law_is_region : XS :=
  (xSeq (xIfS (xOr (xNot (xTru (xCall fIsi (xCons (xVar 0) (xCons (xC (.con (.ty "tuple"))) xNil))))) (xTest (xOp (gEq true) (xCall fLen (xCons (xVar 0) xNil)) (xC (.int 4)))))
(xRet (xC (.bl false)))
xNext)
(xSeq (xIfS (xOr (xNot (xTru (xCall wp_law_is_number (xCons (xOp gIx (xVar 0) (xC (.int 0))) (xCons (xC (.int 0)) (xCons (xC (.int 4095)) xNil)))))) (xNot (xTru (xCall wp_law_is_number (xCons (xOp gIx (xVar 0) (xC (.int 1))) (xCons (xC (.int 1)) (xCons (xOp (gI0 fun i j => .int (i - j)) (xC (.int 4096)) (xOp gIx (xVar 0) (xC (.int 0)))) xNil)))))))
(xRet (xC (.bl false)))
xNext)
(xSeq (xIfS (xOr (xNot (xTru (xCall fIsi (xCons (xOp gIx (xVar 0) (xC (.int 2))) (xCons (xC (.con (.ty "str"))) xNil))))) (xAnd (xTest (xOp (gEq true) (xOp gIx (xVar 0) (xC (.int 2))) (xC (.str "public")))) (xTest (xOp (gEq true) (xOp gIx (xVar 0) (xC (.int 2))) (xC (.str "secret"))))))
(xRet (xC (.bl false)))
xNext)
(xRet (xCall wp_law_is_number (xCons (xOp gIx (xVar 0) (xC (.int 3))) (xCons (xC (.int 0)) (xCons (xC (.int 65535)) xNil))))))))
@[irreducible] noncomputable def wp_law_is_region : XF := lock (xFn 0 b_law_is_region)
theorem eq_law_is_region : wp_law_is_region = xFn 0 b_law_is_region := by
  unfold wp_law_is_region
  exact lock_eq _
/-- _law_other: names source, shape -/
noncomputable def b_law_other : XS :=
  (xSeq (xAsg (xCall wp_law_draw (xCons (xVar 0) (xCons (xC (.int 12)) xNil))) (xName 1))
(xSeq (xIfS (xTest (xOp (gI0 fun i j => .bl (decide (i < j))) (xVar 1) (xC (.int 6))))
(xRet (xOp gIx (xRo (xCons (xUn gNeg (xC (.int 1))) (xCons (xC (.int 0)) (xCons (xC (.int 4096)) (xCons (xC (.int 65536)) (xCons (xC (.bl true)) (xCons (xC .non) xNil))))))) (xVar 1)))
xNext)
(xSeq (xIfS (xTest (xOp (gEq false) (xVar 1) (xC (.int 6))))
(xRet (xOp gIx (xRo (xCons (xC (.str "public")) (xCons (xC (.str "secret")) (xCons (xC (.str "Public")) (xCons (xC (.str "secret ")) (xCons (xC (.str "")) xNil)))))) (xCall wp_law_draw (xCons (xVar 0) (xCons (xC (.int 5)) xNil)))))
xNext)
(xSeq (xIfS (xTest (xOp (gEq false) (xVar 1) (xC (.int 7))))
(xRet (xOp gIx (xRo (xCons (xTup xNil) (xCons (xLst xNil) (xCons (xC (.str "0")) (xCons (xC (.bl false)) xNil))))) (xCall wp_law_draw (xCons (xVar 0) (xCons (xC (.int 4)) xNil)))))
xNext)
(xRet (xCall wp_law_draw (xCons (xVar 0) (xCons (xC (.int 70000)) xNil))))))))
@[irreducible] noncomputable def wp_law_other : XF := lock (xFn 1 b_law_other)
theorem eq_law_other : wp_law_other = xFn 1 b_law_other := by
  unfold wp_law_other
  exact lock_eq _
/-- _law_memory: names source, layout, end, memory, start, size, flow, most, edge, k -/
noncomputable def b_law_memory : XS :=
  (xSeq (xAsg (xC (.int 0)) (xName 2))
(xSeq (xAsg (xLst xNil) (xName 3))
(xSeq (xFor (xSeqIt (xVar 1)) (xGTup 4 (xGCons (xName 4) (xGCons (xName 5) (xGCons (xName 6) (xGCons (xName 7) xGNil)))))
(xSeq (xAsg (xOp gAdd (xVar 3) (xOp gMul (xLst (xCons (xCall wp_law_draw (xCons (xVar 0) (xCons (xC (.int 65536)) xNil))) xNil)) (xOp (gI0 fun i j => .int (i - j)) (xVar 4) (xVar 2)))) (xName 3))
(xSeq (xAsg (xCall wp_law_draw (xCons (xVar 0) (xCons (xC (.int 3)) xNil))) (xName 8))
(xSeq (xAsg (xOp gAdd (xVar 3) (xLc (xRng1 (xCons (xVar 5) xNil)) (xName 9) xYes (xOp gIx (xRo (xCons (xVar 7) (xCons (xC (.int 0)) (xCons (xCall wp_law_draw (xCons (xVar 0) (xCons (xOp gAdd (xVar 7) (xC (.int 1))) xNil))) xNil)))) (xVar 8)) [9])) (xName 3))
(xAsg (xOp gAdd (xVar 4) (xVar 5)) (xName 2))))))
(xRet (xVar 3)))))
@[irreducible] noncomputable def wp_law_memory : XF := lock (xFn 8 b_law_memory)
theorem eq_law_memory : wp_law_memory = xFn 8 b_law_memory := by
  unfold wp_law_memory
  exact lock_eq _
/-- _law_is_memory, from: if not isinstance(value, list) or len(value) != end: -/
@[irreducible] noncomputable def c_law_is_memory_1 : XS := lock
  (xSeq (xIfS (xOr (xNot (xTru (xCall fIsi (xCons (xVar 1) (xCons (xC (.con (.ty "list"))) xNil))))) (xTest (xOp (gEq true) (xCall fLen (xCons (xVar 1) xNil)) (xVar 2))))
(xRet (xC (.bl false)))
xNext)
(xSeq (xFor (xSeqIt (xVar 1)) (xName 3)
(xIfS (xNot (xTru (xCall wp_law_is_number (xCons (xVar 3) (xCons (xC (.int 0)) (xCons (xC (.int 65535)) xNil))))))
(xRet (xC (.bl false)))
xNext))
(xSeq (xFor (xSeqIt (xVar 0)) (xGTup 4 (xGCons (xName 4) (xGCons (xName 5) (xGCons (xName 6) (xGCons (xName 7) xGNil)))))
(xIfS (xTest (xOp (gI0 fun i j => .bl (decide (j < i))) (xCall fMax1 (xCons (xSl gSl (xVar 1) (xPart (xVar 4)) (xPart (xOp gAdd (xVar 4) (xVar 5)))) xNil)) (xVar 7)))
(xRet (xC (.bl false)))
xNext))
(xRet (xC (.bl true))))))
theorem eqc_law_is_memory_1 : c_law_is_memory_1 =
  (xSeq (xIfS (xOr (xNot (xTru (xCall fIsi (xCons (xVar 1) (xCons (xC (.con (.ty "list"))) xNil))))) (xTest (xOp (gEq true) (xCall fLen (xCons (xVar 1) xNil)) (xVar 2))))
(xRet (xC (.bl false)))
xNext)
(xSeq (xFor (xSeqIt (xVar 1)) (xName 3)
(xIfS (xNot (xTru (xCall wp_law_is_number (xCons (xVar 3) (xCons (xC (.int 0)) (xCons (xC (.int 65535)) xNil))))))
(xRet (xC (.bl false)))
xNext))
(xSeq (xFor (xSeqIt (xVar 0)) (xGTup 4 (xGCons (xName 4) (xGCons (xName 5) (xGCons (xName 6) (xGCons (xName 7) xGNil)))))
(xIfS (xTest (xOp (gI0 fun i j => .bl (decide (j < i))) (xCall fMax1 (xCons (xSl gSl (xVar 1) (xPart (xVar 4)) (xPart (xOp gAdd (xVar 4) (xVar 5)))) xNil)) (xVar 7)))
(xRet (xC (.bl false)))
xNext))
(xRet (xC (.bl true)))))) := by
  unfold c_law_is_memory_1
  exact lock_eq _
/-- _law_is_memory: names layout, value, end, word, start, size, flow, most -/
noncomputable def b_law_is_memory : XS :=
  (xSeq (xAsg (xC (.int 0)) (xName 2))
(xSeq (xIfS (xTest (xOp (gI0 fun i j => .bl (decide (j < i))) (xCall fLen (xCons (xVar 0) xNil)) (xC (.int 0))))
(xAsg (xOp gAdd (xOp gIx (xOp gIx (xVar 0) (xUn gNeg (xC (.int 1)))) (xC (.int 0))) (xOp gIx (xOp gIx (xVar 0) (xUn gNeg (xC (.int 1)))) (xC (.int 1)))) (xName 2))
xNext)
c_law_is_memory_1))
@[irreducible] noncomputable def wp_law_is_memory : XF := lock (xFn 6 b_law_is_memory)
theorem eq_law_is_memory : wp_law_is_memory = xFn 6 b_law_is_memory := by
  unfold wp_law_is_memory
  exact lock_eq _
/-- is_instruction: names value, kinds, kind, number -/
noncomputable def b_is_instruction : XS :=
  (xSeq (xIfS (xOr (xNot (xTru (xCall fIsi (xCons (xVar 0) (xCons (xC (.con (.ty "tuple"))) xNil))))) (xOr (xTest (xOp (gEq false) (xCall fLen (xCons (xVar 0) xNil)) (xC (.int 0)))) (xNot (xTru (xCall fIsi (xCons (xOp gIx (xVar 0) (xC (.int 0))) (xCons (xC (.con (.ty "str"))) xNil)))))))
(xRet (xC (.bl false)))
xNext)
(xSeq (xIfS (xTest (xKIn true kd_NUMBERS kn_NUMBERS (xOp gIx (xVar 0) (xC (.int 0)))))
(xRet (xC (.bl false)))
xNext)
(xSeq (xAsg (xKIx kd_NUMBERS (xOp gIx (xVar 0) (xC (.int 0)))) (xName 1))
(xSeq (xIfS (xTest (xOp (gEq true) (xCall fLen (xCons (xVar 0) xNil)) (xOp gAdd (xCall fLen (xCons (xVar 1) xNil)) (xC (.int 1)))))
(xRet (xC (.bl false)))
xNext)
(xRet (xAll (xZip (xCons (xVar 1) (xCons (xSl gSl (xVar 0) (xPart (xC (.int 1))) xNoPart) xNil))) (xGTup 2 (xGCons (xName 2) (xGCons (xName 3) xGNil))) (xCall wp_is_integer (xCons (xVar 3) (xCons (xC (.int 0)) (xCons (xKIx kd_GREATEST (xVar 2)) xNil)))) [2, 3]))))))
@[irreducible] noncomputable def wp_is_instruction : XF := lock (xFn 3 b_is_instruction)
theorem eq_is_instruction : wp_is_instruction = xFn 3 b_is_instruction := by
  unfold wp_is_instruction
  exact lock_eq _
/-- is_layout: names value, end, region -/
noncomputable def b_is_layout : XS :=
  (xSeq (xIfS (xOr (xNot (xTru (xCall fIsi (xCons (xVar 0) (xCons (xC (.con (.ty "tuple"))) xNil))))) (xTest (xOp (gI0 fun i j => .bl (decide (j < i))) (xCall fLen (xCons (xVar 0) xNil)) (xC (.int (256))))))
(xRet (xC (.bl false)))
xNext)
(xSeq (xAsg (xC (.int 0)) (xName 1))
(xSeq (xFor (xSeqIt (xVar 0)) (xName 2)
(xSeq (xIfS (xOr (xNot (xTru (xCall wp_is_region (xCons (xVar 2) xNil)))) (xTest (xOp (gI0 fun i j => .bl (decide (i < j))) (xOp gIx (xVar 2) (xC (.int 0))) (xVar 1))))
(xRet (xC (.bl false)))
xNext)
(xAsg (xCall wp_region_end (xCons (xVar 2) xNil)) (xName 1))))
(xRet (xC (.bl true))))))
@[irreducible] noncomputable def wp_is_layout : XF := lock (xFn 2 b_is_layout)
theorem eq_is_layout : wp_is_layout = xFn 2 b_is_layout := by
  unfold wp_is_layout
  exact lock_eq _
/-- _law_is_layout: names value, region, k -/
noncomputable def b_law_is_layout : XS :=
  (xSeq (xIfS (xOr (xNot (xTru (xCall fIsi (xCons (xVar 0) (xCons (xC (.con (.ty "tuple"))) xNil))))) (xTest (xOp (gI0 fun i j => .bl (decide (j < i))) (xCall fLen (xCons (xVar 0) xNil)) (xC (.int 256)))))
(xRet (xC (.bl false)))
xNext)
(xSeq (xFor (xSeqIt (xVar 0)) (xName 1)
(xIfS (xNot (xTru (xCall wp_law_is_region (xCons (xVar 1) xNil))))
(xRet (xC (.bl false)))
xNext))
(xSeq (xFor (xRng1 (xCons (xCall fLen (xCons (xVar 0) xNil)) xNil)) (xName 2)
(xIfS (xAnd (xTest (xOp (gI0 fun i j => .bl (decide (j < i))) (xVar 2) (xC (.int 0)))) (xTest (xOp (gI0 fun i j => .bl (decide (i < j))) (xOp gIx (xOp gIx (xVar 0) (xVar 2)) (xC (.int 0))) (xOp gAdd (xOp gIx (xOp gIx (xVar 0) (xOp (gI0 fun i j => .int (i - j)) (xVar 2) (xC (.int 1)))) (xC (.int 0))) (xOp gIx (xOp gIx (xVar 0) (xOp (gI0 fun i j => .int (i - j)) (xVar 2) (xC (.int 1)))) (xC (.int 1)))))))
(xRet (xC (.bl false)))
xNext))
(xRet (xC (.bl true))))))
@[irreducible] noncomputable def wp_law_is_layout : XF := lock (xFn 2 b_law_is_layout)
theorem eq_law_is_layout : wp_law_is_layout = xFn 2 b_law_is_layout := by
  unfold wp_law_is_layout
  exact lock_eq _
/-- _law_changed, from: return rows -/
@[irreducible] noncomputable def c_law_changed_1 : XS := lock
  (xRet (xVar 2))
theorem eqc_law_changed_1 : c_law_changed_1 =
  (xRet (xVar 2)) := by
  unfold c_law_changed_1
  exact lock_eq _
/-- _law_changed: names source, layout, rows, at, region, change, field, other -/
noncomputable def b_law_changed : XS :=
  (xSeq (xIfS (xTest (xOp (gEq false) (xCall fLen (xCons (xVar 1) xNil)) (xC (.int 0))))
(xRet (xLst (xCons (xCall wp_law_other (xCons (xVar 0) xNil)) xNil)))
xNext)
(xSeq (xAsg (xCall fList (xCons (xVar 1) xNil)) (xName 2))
(xSeq (xAsg (xCall wp_law_draw (xCons (xVar 0) (xCons (xCall fLen (xCons (xVar 2) xNil)) xNil))) (xName 3))
(xSeq (xAsg (xOp gIx (xVar 2) (xVar 3)) (xName 4))
(xSeq (xAsg (xCall wp_law_draw (xCons (xVar 0) (xCons (xC (.int 8)) xNil))) (xName 5))
(xSeq (xAsg (xCall wp_law_draw (xCons (xVar 0) (xCons (xC (.int 4)) xNil))) (xName 6))
(xSeq (xIfS (xTest (xOp (gEq false) (xVar 5) (xC (.int 0))))
(xAsg (xOp gAdd (xSl gSl (xVar 4) xNoPart (xPart (xVar 6))) (xSl gSl (xVar 4) (xPart (xOp gAdd (xVar 6) (xC (.int 1)))) xNoPart)) (xSub (xVar 2) (xVar 3)))
(xIfS (xTest (xOp (gEq false) (xVar 5) (xC (.int 1))))
(xAsg (xCall fList (xCons (xVar 4) xNil)) (xSub (xVar 2) (xVar 3)))
(xIfS (xTest (xOp (gEq false) (xVar 5) (xC (.int 2))))
(xSeq (xAsg (xCall wp_law_draw (xCons (xVar 0) (xCons (xCall fLen (xCons (xVar 2) xNil)) xNil))) (xName 7))
(xSeq (xAsg (xOp gIx (xVar 2) (xVar 7)) (xSub (xVar 2) (xVar 3)))
(xAsg (xVar 4) (xSub (xVar 2) (xVar 7)))))
(xIfS (xTest (xOp (gEq false) (xVar 5) (xC (.int 3))))
(xAsg (xTup (xCons (xOp gIx (xVar 4) (xC (.int 0))) (xCons (xOp gAdd (xOp gIx (xVar 4) (xC (.int 1))) (xC (.int 1))) (xCons (xOp gIx (xVar 4) (xC (.int 2))) (xCons (xOp gIx (xVar 4) (xC (.int 3))) xNil))))) (xSub (xVar 2) (xVar 3)))
(xIfS (xTest (xOp (gEq false) (xVar 5) (xC (.int 4))))
(xAsg (xTup (xCons (xOp (gI0 fun i j => .int (i - j)) (xOp gIx (xVar 4) (xC (.int 0))) (xC (.int 1))) (xCons (xOp gIx (xVar 4) (xC (.int 1))) (xCons (xOp gIx (xVar 4) (xC (.int 2))) (xCons (xOp gIx (xVar 4) (xC (.int 3))) xNil))))) (xSub (xVar 2) (xVar 3)))
(xAsg (xOp gAdd (xOp gAdd (xSl gSl (xVar 4) xNoPart (xPart (xVar 6))) (xTup (xCons (xCall wp_law_other (xCons (xVar 0) xNil)) xNil))) (xSl gSl (xVar 4) (xPart (xOp gAdd (xVar 6) (xC (.int 1)))) xNoPart)) (xSub (xVar 2) (xVar 3))))))))
c_law_changed_1)))))))
@[irreducible] noncomputable def wp_law_changed : XF := lock (xFn 6 b_law_changed)
theorem eq_law_changed : wp_law_changed = xFn 6 b_law_changed := by
  unfold wp_law_changed
  exact lock_eq _
/-- _law_regions_hold, from: if not _law_is_number(region_at(layout, address), due, due): -/
@[irreducible] noncomputable def c_law_regions_hold_1 : XS := lock
  (xIfS (xNot (xTru (xCall wp_law_is_number (xCons (xCall wp_region_at (xCons (xVar 1) (xCons (xVar 7) xNil))) (xCons (xVar 3) (xCons (xVar 3) xNil))))))
(xRet (xC (.bl false)))
xNext)
theorem eqc_law_regions_hold_1 : c_law_regions_hold_1 =
  (xIfS (xNot (xTru (xCall wp_law_is_number (xCons (xCall wp_region_at (xCons (xVar 1) (xCons (xVar 7) xNil))) (xCons (xVar 3) (xCons (xVar 3) xNil))))))
(xRet (xC (.bl false)))
xNext) := by
  unfold c_law_regions_hold_1
  exact lock_eq _
/-- _law_regions_hold, from: if not _law_is_number(end, due, due): -/
@[irreducible] noncomputable def c_law_regions_hold_2 : XS := lock
  (xSeq (xIfS (xNot (xTru (xCall wp_law_is_number (xCons (xVar 2) (xCons (xVar 3) (xCons (xVar 3) xNil))))))
(xRet (xC (.bl false)))
xNext)
(xSeq (xAsg (xLst (xCons (xUn gNeg (xC (.int 1))) (xCons (xC (.int 0)) (xCons (xOp (gI0 fun i j => .int (i - j)) (xVar 3) (xC (.int 1))) (xCons (xVar 3) (xCons (xOp gAdd (xVar 3) (xC (.int 1))) (xCons (xCall wp_law_draw (xCons (xVar 0) (xCons (xC (.int 4100)) xNil))) (xCons (xOp (gI CPow fun i j => .int (i ^ j.toNat)) (xC (.int 10)) (xC (.int 20))) (xCons (xOp (gI0 fun i j => .int (i - j)) (xC (.int 0)) (xCall wp_law_draw (xCons (xVar 0) (xCons (xC (.int 5000)) xNil)))) xNil))))))))) (xName 4))
(xSeq (xFor (xRng1 (xCons (xC (.int 2)) xNil)) (xName 5)
(xIfS (xTest (xOp (gI0 fun i j => .bl (decide (j < i))) (xCall fLen (xCons (xVar 1) xNil)) (xC (.int 0))))
(xSeq (xAsg (xOp gIx (xVar 1) (xCall wp_law_draw (xCons (xVar 0) (xCons (xCall fLen (xCons (xVar 1) xNil)) xNil)))) (xName 6))
(xAsg (xOp gAdd (xVar 4) (xLst (xCons (xOp (gI0 fun i j => .int (i - j)) (xOp gIx (xVar 6) (xC (.int 0))) (xC (.int 1))) (xCons (xOp gIx (xVar 6) (xC (.int 0))) (xCons (xOp (gI0 fun i j => .int (i - j)) (xOp gAdd (xOp gIx (xVar 6) (xC (.int 0))) (xOp gIx (xVar 6) (xC (.int 1)))) (xC (.int 1))) (xCons (xOp gAdd (xOp gIx (xVar 6) (xC (.int 0))) (xOp gIx (xVar 6) (xC (.int 1)))) xNil)))))) (xName 4)))
xNext))
(xSeq (xFor (xSeqIt (xVar 4)) (xName 7)
(xSeq (xAsg (xLc (xRng1 (xCons (xCall fLen (xCons (xVar 1) xNil)) xNil)) (xName 5) (xTest (xChain (gI0 fun i j => .bl (decide (i ≤ j))) (gI0 fun i j => .bl (decide (i < j))) (xOp gIx (xOp gIx (xVar 1) (xVar 5)) (xC (.int 0))) (xVar 7) (xOp gAdd (xOp gIx (xOp gIx (xVar 1) (xVar 5)) (xC (.int 0))) (xOp gIx (xOp gIx (xVar 1) (xVar 5)) (xC (.int 1)))))) (xVar 5) [5]) (xName 8))
(xSeq (xAsg (xUn gNeg (xC (.int 1))) (xName 3))
(xSeq (xIfS (xTest (xOp (gI0 fun i j => .bl (decide (j < i))) (xCall fLen (xCons (xVar 8) xNil)) (xC (.int 0))))
(xAsg (xOp gIx (xVar 8) (xC (.int 0))) (xName 3))
xNext)
c_law_regions_hold_1))))
(xRet (xC (.bl true)))))))
theorem eqc_law_regions_hold_2 : c_law_regions_hold_2 =
  (xSeq (xIfS (xNot (xTru (xCall wp_law_is_number (xCons (xVar 2) (xCons (xVar 3) (xCons (xVar 3) xNil))))))
(xRet (xC (.bl false)))
xNext)
(xSeq (xAsg (xLst (xCons (xUn gNeg (xC (.int 1))) (xCons (xC (.int 0)) (xCons (xOp (gI0 fun i j => .int (i - j)) (xVar 3) (xC (.int 1))) (xCons (xVar 3) (xCons (xOp gAdd (xVar 3) (xC (.int 1))) (xCons (xCall wp_law_draw (xCons (xVar 0) (xCons (xC (.int 4100)) xNil))) (xCons (xOp (gI CPow fun i j => .int (i ^ j.toNat)) (xC (.int 10)) (xC (.int 20))) (xCons (xOp (gI0 fun i j => .int (i - j)) (xC (.int 0)) (xCall wp_law_draw (xCons (xVar 0) (xCons (xC (.int 5000)) xNil)))) xNil))))))))) (xName 4))
(xSeq (xFor (xRng1 (xCons (xC (.int 2)) xNil)) (xName 5)
(xIfS (xTest (xOp (gI0 fun i j => .bl (decide (j < i))) (xCall fLen (xCons (xVar 1) xNil)) (xC (.int 0))))
(xSeq (xAsg (xOp gIx (xVar 1) (xCall wp_law_draw (xCons (xVar 0) (xCons (xCall fLen (xCons (xVar 1) xNil)) xNil)))) (xName 6))
(xAsg (xOp gAdd (xVar 4) (xLst (xCons (xOp (gI0 fun i j => .int (i - j)) (xOp gIx (xVar 6) (xC (.int 0))) (xC (.int 1))) (xCons (xOp gIx (xVar 6) (xC (.int 0))) (xCons (xOp (gI0 fun i j => .int (i - j)) (xOp gAdd (xOp gIx (xVar 6) (xC (.int 0))) (xOp gIx (xVar 6) (xC (.int 1)))) (xC (.int 1))) (xCons (xOp gAdd (xOp gIx (xVar 6) (xC (.int 0))) (xOp gIx (xVar 6) (xC (.int 1)))) xNil)))))) (xName 4)))
xNext))
(xSeq (xFor (xSeqIt (xVar 4)) (xName 7)
(xSeq (xAsg (xLc (xRng1 (xCons (xCall fLen (xCons (xVar 1) xNil)) xNil)) (xName 5) (xTest (xChain (gI0 fun i j => .bl (decide (i ≤ j))) (gI0 fun i j => .bl (decide (i < j))) (xOp gIx (xOp gIx (xVar 1) (xVar 5)) (xC (.int 0))) (xVar 7) (xOp gAdd (xOp gIx (xOp gIx (xVar 1) (xVar 5)) (xC (.int 0))) (xOp gIx (xOp gIx (xVar 1) (xVar 5)) (xC (.int 1)))))) (xVar 5) [5]) (xName 8))
(xSeq (xAsg (xUn gNeg (xC (.int 1))) (xName 3))
(xSeq (xIfS (xTest (xOp (gI0 fun i j => .bl (decide (j < i))) (xCall fLen (xCons (xVar 8) xNil)) (xC (.int 0))))
(xAsg (xOp gIx (xVar 8) (xC (.int 0))) (xName 3))
xNext)
c_law_regions_hold_1))))
(xRet (xC (.bl true))))))) := by
  unfold c_law_regions_hold_2
  exact lock_eq _
/-- _law_regions_hold: names source, layout, end, due, asked, k, region, address, found -/
noncomputable def b_law_regions_hold : XS :=
  (xSeq (xAsg (xCall wp_layout_end (xCons (xVar 1) xNil)) (xName 2))
(xSeq (xAsg (xC (.int 0)) (xName 3))
(xSeq (xIfS (xTest (xOp (gI0 fun i j => .bl (decide (j < i))) (xCall fLen (xCons (xVar 1) xNil)) (xC (.int 0))))
(xAsg (xOp gAdd (xOp gIx (xOp gIx (xVar 1) (xUn gNeg (xC (.int 1)))) (xC (.int 0))) (xOp gIx (xOp gIx (xVar 1) (xUn gNeg (xC (.int 1)))) (xC (.int 1)))) (xName 3))
xNext)
c_law_regions_hold_2)))
@[irreducible] noncomputable def wp_law_regions_hold : XF := lock (xFn 7 b_law_regions_hold)
theorem eq_law_regions_hold : wp_law_regions_hold = xFn 7 b_law_regions_hold := by
  unfold wp_law_regions_hold
  exact lock_eq _
/-- is_memory: names layout, value, region, word -/
noncomputable def b_is_memory : XS :=
  (xSeq (xIfS (xOr (xNot (xTru (xCall fIsi (xCons (xVar 1) (xCons (xC (.con (.ty "list"))) xNil))))) (xTest (xOp (gEq true) (xCall fLen (xCons (xVar 1) xNil)) (xCall wp_layout_end (xCons (xVar 0) xNil)))))
(xRet (xC (.bl false)))
xNext)
(xSeq (xIfS (xNot (xTru (xAll (xSeqIt (xVar 1)) (xName 3) (xCall wp_is_integer (xCons (xVar 3) (xCons (xC (.int 0)) (xCons (xC (.int (65535))) xNil)))) [3])))
(xRet (xC (.bl false)))
xNext)
(xRet (xAll (xSeqIt (xVar 0)) (xName 2) (xOp (gI0 fun i j => .bl (decide (i ≤ j))) (xCall fMax1 (xCons (xSl gSl (xVar 1) (xPart (xOp gIx (xVar 2) (xC (.int 0)))) (xPart (xCall wp_region_end (xCons (xVar 2) xNil)))) xNil)) (xOp gIx (xVar 2) (xC (.int 3)))) [2]))))
@[irreducible] noncomputable def wp_is_memory : XF := lock (xFn 2 b_is_memory)
theorem eq_is_memory : wp_is_memory = xFn 2 b_is_memory := by
  unfold wp_is_memory
  exact lock_eq _
/-- is_code: names value, item -/
noncomputable def b_is_code : XS :=
  (xSeq (xIfS (xOr (xNot (xTru (xCall fIsi (xCons (xVar 0) (xCons (xC (.con (.ty "tuple"))) xNil))))) (xNot (xTest (xChain (gI0 fun i j => .bl (decide (i ≤ j))) (gI0 fun i j => .bl (decide (i ≤ j))) (xC (.int 1)) (xCall fLen (xCons (xVar 0) xNil)) (xC (.int (20000)))))))
(xRet (xC (.bl false)))
xNext)
(xRet (xAll (xSeqIt (xVar 0)) (xName 1) (xCall wp_is_instruction (xCons (xVar 1) xNil)) [1])))
@[irreducible] noncomputable def wp_is_code : XF := lock (xFn 1 b_is_code)
theorem eq_is_code : wp_is_code = xFn 1 b_is_code := by
  unfold wp_is_code
  exact lock_eq _
/-- _law_memories_hold, from: for value in [good, changed, good]: -/
@[irreducible] noncomputable def c_law_memories_hold_1 : XS := lock
  (xSeq (xFor (xSeqIt (xRo (xCons (xVar 2) (xCons (xVar 3) (xCons (xVar 2) xNil))))) (xName 6)
(xSeq (xAsg (xCall fList (xCons (xVar 6) xNil)) (xName 7))
(xSeq (xIfS (xNot (xTru (xCall wp_law_answers (xCons (xCall wp_is_memory (xCons (xVar 1) (xCons (xVar 6) xNil))) (xCons (xCall wp_law_is_memory (xCons (xVar 1) (xCons (xVar 7) xNil))) xNil)))))
(xRet (xC (.bl false)))
xNext)
(xIfS (xOr (xTest (xOp (gEq true) (xVar 6) (xVar 7))) (xTest (xOp (gEq true) (xCall fLen (xCons (xVar 6) xNil)) (xCall fLen (xCons (xVar 7) xNil)))))
(xRet (xC (.bl false)))
xNext))))
(xRet (xCall wp_law_answers (xCons (xCall wp_is_memory (xCons (xVar 1) (xCons (xCall fTuple (xCons (xVar 2) xNil)) xNil))) (xCons (xC (.bl false)) xNil)))))
theorem eqc_law_memories_hold_1 : c_law_memories_hold_1 =
  (xSeq (xFor (xSeqIt (xRo (xCons (xVar 2) (xCons (xVar 3) (xCons (xVar 2) xNil))))) (xName 6)
(xSeq (xAsg (xCall fList (xCons (xVar 6) xNil)) (xName 7))
(xSeq (xIfS (xNot (xTru (xCall wp_law_answers (xCons (xCall wp_is_memory (xCons (xVar 1) (xCons (xVar 6) xNil))) (xCons (xCall wp_law_is_memory (xCons (xVar 1) (xCons (xVar 7) xNil))) xNil)))))
(xRet (xC (.bl false)))
xNext)
(xIfS (xOr (xTest (xOp (gEq true) (xVar 6) (xVar 7))) (xTest (xOp (gEq true) (xCall fLen (xCons (xVar 6) xNil)) (xCall fLen (xCons (xVar 7) xNil)))))
(xRet (xC (.bl false)))
xNext))))
(xRet (xCall wp_law_answers (xCons (xCall wp_is_memory (xCons (xVar 1) (xCons (xCall fTuple (xCons (xVar 2) xNil)) xNil))) (xCons (xC (.bl false)) xNil))))) := by
  unfold c_law_memories_hold_1
  exact lock_eq _
/-- _law_memories_hold: names source, layout, good, changed, change, at, value, kept -/
noncomputable def b_law_memories_hold : XS :=
  (xSeq (xAsg (xCall wp_law_memory (xCons (xVar 0) (xCons (xVar 1) xNil))) (xName 2))
(xSeq (xAsg (xCall fList (xCons (xVar 2) xNil)) (xName 3))
(xSeq (xAsg (xCall wp_law_draw (xCons (xVar 0) (xCons (xC (.int 6)) xNil))) (xName 4))
(xSeq (xIfS (xTest (xOp (gEq false) (xVar 4) (xC (.int 0))))
(xAsg (xOp gAdd (xVar 3) (xLst (xCons (xC (.int 0)) xNil))) (xName 3))
(xIfS (xTest (xOp (gEq false) (xVar 4) (xC (.int 1))))
(xAsg (xSl gSl (xVar 3) (xPart (xC (.int 1))) xNoPart) (xName 3))
(xIfS (xTest (xOp (gI0 fun i j => .bl (decide (j < i))) (xCall fLen (xCons (xVar 3) xNil)) (xC (.int 0))))
(xSeq (xAsg (xCall wp_law_draw (xCons (xVar 0) (xCons (xCall fLen (xCons (xVar 3) xNil)) xNil))) (xName 5))
(xAsg (xOp gIx (xRo (xCons (xOp gAdd (xOp gIx (xVar 3) (xVar 5)) (xC (.int 1))) (xCons (xCall wp_law_draw (xCons (xVar 0) (xCons (xC (.int 65536)) xNil))) (xCons (xCall wp_law_other (xCons (xVar 0) xNil)) xNil)))) (xCall wp_law_draw (xCons (xVar 0) (xCons (xC (.int 3)) xNil)))) (xSub (xVar 3) (xVar 5))))
xNext)))
c_law_memories_hold_1))))
@[irreducible] noncomputable def wp_law_memories_hold : XF := lock (xFn 6 b_law_memories_hold)
theorem eq_law_memories_hold : wp_law_memories_hold = xFn 6 b_law_memories_hold := by
  unfold wp_law_memories_hold
  exact lock_eq _
/-- is_code_file: names value -/
noncomputable def b_is_code_file : XS :=
  (xRet (xAndT (xCall fIsi (xCons (xVar 0) (xCons (xC (.con (.ty "tuple"))) xNil))) (xAndT (xOp (gEq false) (xCall fLen (xCons (xVar 0) xNil)) (xC (.int 2))) (xAndT (xCall wp_is_layout (xCons (xOp gIx (xVar 0) (xC (.int 0))) xNil)) (xCall wp_is_code (xCons (xOp gIx (xVar 0) (xC (.int 1))) xNil))))))
@[irreducible] noncomputable def wp_is_code_file : XF := lock (xFn 0 b_is_code_file)
theorem eq_is_code_file : wp_is_code_file = xFn 0 b_is_code_file := by
  unfold wp_is_code_file
  exact lock_eq _
/-- law: names script, source, rows, changed, code, value, due, layout, k -/
noncomputable def b_law : XS :=
  (xSeq (xAsg (xCall wp_law_source (xCons (xVar 0) (xCons (xC (.int 0)) xNil))) (xName 1))
(xSeq (xAsg (xCall wp_law_layout (xCons (xVar 1) xNil)) (xName 2))
(xSeq (xAsg (xLc (xRng1 (xCons (xC (.int 6)) xNil)) (xName 8) xYes (xCall fTuple (xCons (xCall wp_law_changed (xCons (xCall wp_law_source (xCons (xVar 0) (xCons (xOp gAdd (xC (.int 10)) (xVar 8)) xNil))) (xCons (xVar 2) xNil))) xNil)) [8]) (xName 3))
(xSeq (xAsg (xTup (xCons (xTup (xCons (xC (.str "halt")) xNil)) xNil)) (xName 4))
(xSeq (xFor (xSeqIt (xOp gAdd (xOp gAdd (xLst (xCons (xCall fTuple (xCons (xVar 2) xNil)) xNil)) (xVar 3)) (xLst (xCons (xCall fList (xCons (xVar 2) xNil)) (xCons (xCall fTuple (xCons (xVar 2) xNil)) xNil))))) (xName 5)
(xSeq (xAsg (xCall wp_law_is_layout (xCons (xVar 5) xNil)) (xName 6))
(xIfS (xOr (xNot (xTru (xCall wp_law_answers (xCons (xCall wp_is_layout (xCons (xVar 5) xNil)) (xCons (xVar 6) xNil))))) (xNot (xTru (xCall wp_law_answers (xCons (xCall wp_is_code_file (xCons (xTup (xCons (xVar 5) (xCons (xVar 4) xNil))) xNil)) (xCons (xVar 6) xNil))))))
(xRet (xC (.bl false)))
xNext)))
(xSeq (xIfS (xNot (xTru (xCall wp_law_is_layout (xCons (xCall fTuple (xCons (xVar 2) xNil)) xNil))))
(xRet (xC (.bl true)))
xNext)
(xSeq (xAsg (xCall fTuple (xCons (xVar 2) xNil)) (xName 7))
(xSeq (xFor (xSeqIt (xRo (xCons (xTup (xCons (xVar 7) xNil)) (xCons (xLst (xCons (xVar 7) (xCons (xVar 4) xNil))) (xCons (xTup (xCons (xVar 7) (xCons (xTup xNil) xNil))) (xCons (xTup (xCons (xVar 7) (xCons (xVar 4) (xCons (xVar 4) xNil)))) (xCons (xTup (xCons (xVar 4) (xCons (xVar 7) xNil))) (xCons (xVar 7) (xCons (xC .non) xNil))))))))) (xName 5)
(xIfS (xNot (xTru (xCall wp_law_answers (xCons (xCall wp_is_code_file (xCons (xVar 5) xNil)) (xCons (xC (.bl false)) xNil)))))
(xRet (xC (.bl false)))
xNext))
(xSeq (xAsg (xCall wp_law_source (xCons (xVar 0) (xCons (xC (.int 2)) xNil))) (xName 1))
(xRet (xAndT (xCall wp_law_regions_hold (xCons (xVar 1) (xCons (xVar 7) xNil))) (xCall wp_law_memories_hold (xCons (xVar 1) (xCons (xVar 7) xNil))))))))))))))
@[irreducible] noncomputable def wp_law : XF := lock (xFn 8 b_law)
theorem eq_law : wp_law = xFn 8 b_law := by
  unfold wp_law
  exact lock_eq _
end K27

set_option Elab.async false
set_option linter.all false
set_option maxRecDepth 100000
set_option maxHeartbeats 1000000
/-! What proofs over data use again and again. -/
namespace DT
open PySem PySem.Spec PyProof.Rows L2
theorem bcase {p : Prop} {dec : Decidable p} {A B : Prop} (h1 : p → A) (h2 : ¬ p → B) : @Bool.rec (fun _ => Prop) B A (decide p) := by
  by_cases h : p
  · rw [decide_eq_true h]
    exact h1 h
  · rw [decide_eq_false h]
    exact h2 h
theorem bcase' {b : Bool} {A B : Prop} (h1 : b = true → A) (h2 : b = false → B) : @Bool.rec (fun _ => Prop) B A b := by
  cases b
  · exact h2 rfl
  · exact h1 rfl
theorem btrue {b : Bool} {A B : Prop} (h : b = true) (x : A) : @Bool.rec (fun _ => Prop) B A b := by
  rw [h]
  exact x
theorem bfalse {b : Bool} {A B : Prop} (h : b = false) (x : B) : @Bool.rec (fun _ => Prop) B A b := by
  rw [h]
  exact x
/-! ### objects that stay -/
structure Kp (X : Nat → Prop) (S S' : Sto) : Prop where
  len : S.length ≤ S'.length
  at_ : ∀ n, ¬ X n → n < S.length → S'[n]? = S[n]?
theorem Kp.rfl {X : Nat → Prop} {S : Sto} : Kp X S S := ⟨Nat.le_refl _, fun _ _ _ => Eq.refl _⟩
theorem Kp.trans {X : Nat → Prop} {S S1 S2 : Sto} (a : Kp X S S1) (b : Kp X S1 S2) : Kp X S S2 :=
  ⟨Nat.le_trans a.len b.len, fun n hx hn => (b.at_ n hx (Nat.lt_of_lt_of_le hn a.len)).trans (a.at_ n hx hn)⟩
theorem Kp.mono {X Y : Nat → Prop} {S S' : Sto} (a : Kp X S S') (h : ∀ n, X n → Y n) : Kp Y S S' := ⟨a.len, fun n hy => a.at_ n fun z => hy (h n z)⟩
theorem Kp.app {X : Nat → Prop} {S J : Sto} : Kp X S (S ++ J) := ⟨by rw [List.length_append]; exact Nat.le_add_right _ _, fun n _ hn => List.getElem?_append_left hn⟩
theorem Kp.set {X : Nat → Prop} {S : Sto} {n : Nat} {o : Ob} (h : X n) : Kp X S (S.set n o) := ⟨by rw [List.length_set]; exact Nat.le_refl _, fun m hm _ => List.getElem?_set_ne (fun z : n = m => hm (by rw [← z]; exact h))⟩
theorem Kp.get {X : Nat → Prop} {S S' : Sto} (a : Kp X S S') {n : Nat} {o : Ob} (hx : ¬ X n) (h : S[n]? = some o) : S'[n]? = some o := (a.at_ n hx (List.getElem?_eq_some_iff.mp h).1).trans h
/-- only objects from m on, or in X, have changed -/
theorem Kp.old {X Y : Nat → Prop} {S S' : Sto} (a : Kp X S S') (h : ∀ n, X n → n < S.length → Y n) : Kp Y S S' :=
  ⟨a.len, fun n hy hn => a.at_ n (fun z => hy (h n z hn)) hn⟩
theorem get_new (S : Sto) (o : Ob) : (S ++ [o])[S.length]? = some o := List.getElem?_concat_length ..
theorem lt_of_get {S : Sto} {n : Nat} {o : Ob} (h : S[n]? = some o) : n < S.length := (List.getElem?_eq_some_iff.mp h).1
theorem get_set {S : Sto} {n : Nat} {o o' : Ob} (h : S[n]? = some o) : (S.set n o')[n]? = some o' := List.getElem?_set_self (lt_of_get h)
/-! ### reading and writing lists -/
theorem seqD_ref {S : Sto} {n : Nat} {ds : List D} (h : S[n]? = some (.lst ds)) : seqD S (.ref n) = some ds := look_of h
theorem ix_ref {S : Sto} {n : Nat} {i : Int} {ds : List D} {d : D} {q : DK} (h : S[n]? = some (.lst ds)) (hd : atI ds i = some d) (k : q d S) : gIx (.ref n) (.int i) S q := gIx_seq (seqD_ref h) hd k
theorem set_ref {S : Sto} {n : Nat} {i : Int} {ds : List D} {v : D} {j : Nat} {q : Sto → Prop} (h : S[n]? = some (.lst ds)) (hj : ixN ds.length i = some j) (k : q (S.set n (.lst (ds.set j v)))) : gSetL n i v S q := by
  unfold gSetL
  simp only [look_of h, hj]
  exact k
theorem atI_cast {α : Type} {xs : List α} {j : Nat} {x : α} (h : xs[j]? = some x) : atI xs (j : Int) = some x := by
  have hj := (List.getElem?_eq_some_iff.mp h).1
  unfold atI ixN
  rw [if_pos (by omega), if_pos (by omega), Int.toNat_natCast]
  exact h
theorem atI_pos {α : Type} {xs : List α} {i : Int} {x : α} (h0 : 0 ≤ i) (h : xs[i.toNat]? = some x) : atI xs i = some x := by
  obtain ⟨j, rfl⟩ := Int.eq_ofNat_of_zero_le h0
  rw [Int.toNat_natCast] at h
  exact atI_cast h
theorem cmul_r {i j : Int} (a : -(2 ^ 64) < j) (b : j < 2 ^ 64) : CMulA i j := .inl (.inr ⟨a, b⟩)
theorem cmul_l {i j : Int} (a : -(2 ^ 64) < i) (b : i < 2 ^ 64) : CMulA i j := .inl (.inl ⟨a, b⟩)
/-! ### draws -/
/-- the list of a source -/
def Src (S : Sto) (p : Nat) : Prop := ∃ x y : Int, 0 ≤ x ∧ S[p]? = some (.lst [.int x, .int y])
theorem Src.keep {X : Nat → Prop} {S S' : Sto} {p : Nat} (h : Src S p) (k : Kp X S S') (hx : ¬ X p) : Src S' p := by
  obtain ⟨x, y, h0, e⟩ := h
  exact ⟨x, y, h0, k.get hx e⟩
theorem Src.lt {S : Sto} {p : Nat} (h : Src S p) : p < S.length := by
  obtain ⟨x, y, h0, e⟩ := h
  exact lt_of_get e
end DT
namespace DT
open PySem L2
theorem cdiv_c {i j : Int} (h : 0 < j) (hb : j.natAbs < 2 ^ 40) : CDivW i j := wide_div (b := 40) h hb (by decide) (by decide)
theorem cdiv_v {i j : Int} (h : 0 < j) (hb : j ≤ 1000000000) : CDivW i j := wide_div (b := 40) h (by omega) (by decide) (by decide)
end DT
namespace DT
open PySem L2
theorem bcase0 {p : Prop} {dec : Decidable p} {A B : Prop} (h1 : p → A) (h2 : ¬ p → B) : @Bool.rec (fun _ => Prop) B A (false ^^ decide p) := by
  rw [Bool.false_xor]
  exact bcase h1 h2
theorem bcase1 {p : Prop} {dec : Decidable p} {A B : Prop} (h1 : ¬ p → A) (h2 : p → B) : @Bool.rec (fun _ => Prop) B A (true ^^ decide p) := by
  by_cases h : p
  · rw [decide_eq_true h]
    exact h2 h
  · rw [decide_eq_false h]
    exact h1 h
theorem eqV_str (x y : Str) : eqV (V.str x) (V.str y) = decide (x = y) := rfl
theorem inV_str (n : Str) (l : List Str) : inV (V.str n) (l.map V.str) = decide (n ∈ l) := by
  induction l with
  | nil => rfl
  | cons x xs ih =>
    have h : inV (V.str n) ((x :: xs).map V.str) = (eqV (V.str x) (V.str n) || inV (V.str n) (xs.map V.str)) := rfl
    rw [h, ih, eqV_str]
    by_cases e : x = n
    · rw [decide_eq_true e, decide_eq_true (show n ∈ x :: xs from e ▸ List.mem_cons_self ..), Bool.true_or]
    · rw [decide_eq_false e, Bool.false_or]
      exact decide_eq_decide.mpr ⟨fun z => List.mem_cons_of_mem _ z, fun z => (List.mem_cons.mp z).elim (fun y => absurd y.symm e) id⟩
end DT
namespace DT
open PySem L2
theorem set_new (S : Sto) (o o' : Ob) : (S ++ [o]).set S.length o' = S ++ [o'] := by
  rw [List.set_append_right _ _ (Nat.le_refl _), Nat.sub_self]
  rfl
end DT
namespace DT
open PySem L2
theorem at_0 {α : Type} (x : α) (xs : List α) : atI (x :: xs) 0 = some x := atI_cast (j := 0) rfl
theorem at_1 {α : Type} (x y : α) (xs : List α) : atI (x :: y :: xs) 1 = some y := atI_cast (j := 1) rfl
end DT
namespace DT
open PySem L2
theorem at_all {P : D → Prop} {L : List D} {j : Int} (h : ∀ d ∈ L, P d) (h0 : 0 ≤ j) (h1 : j < L.length) : ∃ d, atI L j = some d ∧ P d := by
  have hj : j.toNat < L.length := by omega
  exact ⟨_, atI_pos h0 (List.getElem?_eq_getElem hj), h _ (List.getElem_mem hj)⟩
/-- an item of which only P is known -/
theorem ix_all (P : D → Prop) {L : List D} {j : Int} {A : D → Prop} (h : ∀ d ∈ L, P d) (h0 : 0 ≤ j) (h1 : j < L.length) (k : ∀ d, P d → A d) : @Option.rec D (fun _ => Prop) False A (atI L j) := by
  obtain ⟨d, e, p⟩ := at_all h h0 h1
  exact oEl_of e (k d p)
end DT
namespace DT
open PySem L2
/-- an object that came later is written -/
theorem Kp.put {X : Nat → Prop} {S S1 : Sto} {n : Nat} {o : Ob} (k : Kp X S S1) (h : S.length ≤ n) : Kp X S (S1.set n o) :=
  ⟨by rw [List.length_set]; exact k.len, fun m hm hl => by rw [List.getElem?_set_ne (by omega)]; exact k.at_ m hm hl⟩
theorem Kp.add {X : Nat → Prop} {S S1 J : Sto} (k : Kp X S S1) : Kp X S (S1 ++ J) := k.trans .app
end DT
namespace DT
open PySem L2
theorem get_old (S : Sto) (o : Ob) (J : Sto) : (S ++ [o] ++ J)[S.length]? = some o := (Kp.app (X := fun _ => False)).get id (get_new S o)
end DT
namespace DT
open PySem L2
theorem Kp.look {X : Nat → Prop} {S S' : Sto} (a : Kp X S S') {n : Nat} {o : Ob} (h : S[n]? = some o) (hx : ¬ X n) : S'[n]? = some o := a.get hx h
/-- nothing of S has changed -/
abbrev Kn (S S' : Sto) : Prop := Kp (fun _ => False) S S'
theorem Kn.get {S S' : Sto} (a : Kn S S') {n : Nat} {o : Ob} (h : S[n]? = some o) : S'[n]? = some o := Kp.get a id h
theorem mix_at {α : Type} {A B : List α} {i : Nat} {x : α} (l : A.length = B.length) (h : B[i]? = some x) : (A.take i ++ B.drop i)[i]? = some x := by
  have hi := (List.getElem?_eq_some_iff.mp h).1
  rw [List.getElem?_append_right (by rw [List.length_take]; omega), List.length_take, show i - min i A.length = 0 by omega, List.getElem?_drop]
  exact h
theorem mix_set {α : Type} {A B : List α} {i : Nat} {x : α} (l : A.length = B.length) (h : A[i]? = some x) : (A.take i ++ B.drop i).set i x = A.take (i + 1) ++ B.drop (i + 1) := by
  have hi := (List.getElem?_eq_some_iff.mp h).1
  rw [List.set_append_right _ _ (by rw [List.length_take]; omega), List.length_take, show i - min i A.length = 0 by omega, List.take_add_one, h, List.drop_eq_getElem_cons (by omega), List.append_assoc]
  rfl
theorem mix_same {α : Type} {A B : List α} {i : Nat} {x : α} (l : A.length = B.length) (h : A[i]? = some x) (h2 : B[i]? = some x) : A.take i ++ B.drop i = A.take (i + 1) ++ B.drop (i + 1) := by
  obtain ⟨hi, e⟩ := List.getElem?_eq_some_iff.mp h2
  rw [List.take_add_one, h, List.drop_eq_getElem_cons hi, List.append_assoc, e]
  rfl
theorem mix_len {α : Type} {A B : List α} {i : Nat} (l : A.length = B.length) : (A.take i ++ B.drop i).length = B.length := by
  rw [List.length_append, List.length_take, List.length_drop]
  omega
end DT
namespace DT
open PySem L2
theorem get_old2 (S : Sto) (o : Ob) (J J' : Sto) : (S ++ [o] ++ J ++ J')[S.length]? = some o := (Kp.app (X := fun _ => False)).get id (get_old S o J)
theorem set_old2 (S : Sto) (o o' : Ob) (J J' : Sto) : (S ++ [o] ++ J ++ J').set S.length o' = S ++ [o'] ++ J ++ J' := by
  rw [List.append_assoc, List.append_assoc, List.set_append_right _ _ (Nat.le_refl _), Nat.sub_self, List.append_assoc, List.append_assoc]
  rfl
end DT

set_option Elab.async false
set_option linter.all false
set_option maxRecDepth 100000
set_option maxHeartbeats 4000000
namespace K27
open PySem PySem.Spec PyProof.Rows L2 DT
theorem min_eq (i j : Int) : (if j < i then j else i) = min i j := by
  rw [Int.min_def]; split <;> split <;> omega
theorem max_eq (i j : Int) : (if j > i then j else i) = max i j := by
  rw [Int.max_def]; split <;> split <;> omega
/-! ### source, draw -/
theorem p_draw {S : Sto} {p : Nat} {m : Int} {q : DK} (h : Src S p) (m0 : 0 < m) (m1 : m ≤ 100000) (k : ∀ v S', 0 ≤ v → v < m → Src S' p → Kp (· = p) S S' → q (.int v) S') : wp_law_draw [.ref p, .int m] S q := by
  obtain ⟨x, y, x0, e⟩ := h
  rw [eq_law_draw]
  ((conv => whnf); (repeat ((first | refine ⟨(by show (0 : Int) < _; first | decide | omega), ?_⟩ | refine ⟨cmul_r (by decide) (by decide), ?_⟩ | refine ⟨cmul_l (by decide) (by decide), ?_⟩ | refine ⟨cmul_l (by omega) (by omega), ?_⟩ | refine ⟨cdiv_v (by omega) (by omega), ?_⟩ | refine ⟨cdiv_c (by decide) (by decide), ?_⟩ | refine ⟨(by decide), ?_⟩ | refine ⟨Nat.le_of_ble_eq_true rfl, ?_⟩ | refine ⟨⟨by decide, by decide, by decide⟩, ?_⟩); (conv => whnf))))
  first | rw [look_of e] | rw [seqD_ref e]
  ((conv => whnf); (repeat ((first | refine ⟨(by show (0 : Int) < _; first | decide | omega), ?_⟩ | refine ⟨cmul_r (by decide) (by decide), ?_⟩ | refine ⟨cmul_l (by decide) (by decide), ?_⟩ | refine ⟨cmul_l (by omega) (by omega), ?_⟩ | refine ⟨cdiv_v (by omega) (by omega), ?_⟩ | refine ⟨cdiv_c (by decide) (by decide), ?_⟩ | refine ⟨(by decide), ?_⟩ | refine ⟨Nat.le_of_ble_eq_true rfl, ?_⟩ | refine ⟨⟨by decide, by decide, by decide⟩, ?_⟩); (conv => whnf))))
  first | refine bcase (fun c => ?_) (fun c => ?_) | refine bcase0 (fun c => ?_) (fun c => ?_) | refine bcase1 (fun c => ?_) (fun c => ?_)
  · ((conv => whnf); (repeat ((first | refine ⟨(by show (0 : Int) < _; first | decide | omega), ?_⟩ | refine ⟨cmul_r (by decide) (by decide), ?_⟩ | refine ⟨cmul_l (by decide) (by decide), ?_⟩ | refine ⟨cmul_l (by omega) (by omega), ?_⟩ | refine ⟨cdiv_v (by omega) (by omega), ?_⟩ | refine ⟨cdiv_c (by decide) (by decide), ?_⟩ | refine ⟨(by decide), ?_⟩ | refine ⟨Nat.le_of_ble_eq_true rfl, ?_⟩ | refine ⟨⟨by decide, by decide, by decide⟩, ?_⟩); (conv => whnf))))
    first | rw [look_of e] | rw [seqD_ref e]
    ((conv => whnf); (repeat ((first | refine ⟨(by show (0 : Int) < _; first | decide | omega), ?_⟩ | refine ⟨cmul_r (by decide) (by decide), ?_⟩ | refine ⟨cmul_l (by decide) (by decide), ?_⟩ | refine ⟨cmul_l (by omega) (by omega), ?_⟩ | refine ⟨cdiv_v (by omega) (by omega), ?_⟩ | refine ⟨cdiv_c (by decide) (by decide), ?_⟩ | refine ⟨(by decide), ?_⟩ | refine ⟨Nat.le_of_ble_eq_true rfl, ?_⟩ | refine ⟨⟨by decide, by decide, by decide⟩, ?_⟩); (conv => whnf))))
    first | rw [look_of e] | rw [seqD_ref e]
    conv => whnf
    refine ⟨cdiv_v m0 (by omega), ?_⟩
    ((conv => whnf); (repeat ((first | refine ⟨(by show (0 : Int) < _; first | decide | omega), ?_⟩ | refine ⟨cmul_r (by decide) (by decide), ?_⟩ | refine ⟨cmul_l (by decide) (by decide), ?_⟩ | refine ⟨cmul_l (by omega) (by omega), ?_⟩ | refine ⟨cdiv_v (by omega) (by omega), ?_⟩ | refine ⟨cdiv_c (by decide) (by decide), ?_⟩ | refine ⟨(by decide), ?_⟩ | refine ⟨Nat.le_of_ble_eq_true rfl, ?_⟩ | refine ⟨⟨by decide, by decide, by decide⟩, ?_⟩); (conv => whnf))))
    first | rw [look_of e] | rw [seqD_ref e]
    conv => whnf
    generalize hS1 : List.set S p _ = S1
    have e1 : S1[p]? = some _ := (congrArg (fun s : Sto => s[p]?) hS1.symm).trans (get_set e)
    have k1 : Kp (· = p) S S1 := by rw [← hS1]; exact .set rfl
    exact k _ _ (Int.emod_nonneg _ (by omega)) (Int.emod_lt_of_pos _ m0) ⟨x / m, y, Int.ediv_nonneg x0 (by omega), e1⟩ k1
  · ((conv => whnf); (repeat ((first | refine ⟨(by show (0 : Int) < _; first | decide | omega), ?_⟩ | refine ⟨cmul_r (by decide) (by decide), ?_⟩ | refine ⟨cmul_l (by decide) (by decide), ?_⟩ | refine ⟨cmul_l (by omega) (by omega), ?_⟩ | refine ⟨cdiv_v (by omega) (by omega), ?_⟩ | refine ⟨cdiv_c (by decide) (by decide), ?_⟩ | refine ⟨(by decide), ?_⟩ | refine ⟨Nat.le_of_ble_eq_true rfl, ?_⟩ | refine ⟨⟨by decide, by decide, by decide⟩, ?_⟩); (conv => whnf))))
    first | rw [look_of e] | rw [seqD_ref e]
    ((conv => whnf); (repeat ((first | refine ⟨(by show (0 : Int) < _; first | decide | omega), ?_⟩ | refine ⟨cmul_r (by decide) (by decide), ?_⟩ | refine ⟨cmul_l (by decide) (by decide), ?_⟩ | refine ⟨cmul_l (by omega) (by omega), ?_⟩ | refine ⟨cdiv_v (by omega) (by omega), ?_⟩ | refine ⟨cdiv_c (by decide) (by decide), ?_⟩ | refine ⟨(by decide), ?_⟩ | refine ⟨Nat.le_of_ble_eq_true rfl, ?_⟩ | refine ⟨⟨by decide, by decide, by decide⟩, ?_⟩); (conv => whnf))))
    first | rw [look_of e] | rw [seqD_ref e]
    conv => whnf
    generalize hS1 : List.set S p _ = S1
    have e1 : S1[p]? = some _ := (congrArg (fun s : Sto => s[p]?) hS1.symm).trans (get_set e)
    have k1 : Kp (· = p) S S1 := by rw [← hS1]; exact .set rfl
    ((conv => whnf); (repeat ((first | refine ⟨(by show (0 : Int) < _; first | decide | omega), ?_⟩ | refine ⟨cmul_r (by decide) (by decide), ?_⟩ | refine ⟨cmul_l (by decide) (by decide), ?_⟩ | refine ⟨cmul_l (by omega) (by omega), ?_⟩ | refine ⟨cdiv_v (by omega) (by omega), ?_⟩ | refine ⟨cdiv_c (by decide) (by decide), ?_⟩ | refine ⟨(by decide), ?_⟩ | refine ⟨Nat.le_of_ble_eq_true rfl, ?_⟩ | refine ⟨⟨by decide, by decide, by decide⟩, ?_⟩); (conv => whnf))))
    first | rw [look_of e1] | rw [seqD_ref e1]
    ((conv => whnf); (repeat ((first | refine ⟨(by show (0 : Int) < _; first | decide | omega), ?_⟩ | refine ⟨cmul_r (by decide) (by decide), ?_⟩ | refine ⟨cmul_l (by decide) (by decide), ?_⟩ | refine ⟨cmul_l (by omega) (by omega), ?_⟩ | refine ⟨cdiv_v (by omega) (by omega), ?_⟩ | refine ⟨cdiv_c (by decide) (by decide), ?_⟩ | refine ⟨(by decide), ?_⟩ | refine ⟨Nat.le_of_ble_eq_true rfl, ?_⟩ | refine ⟨⟨by decide, by decide, by decide⟩, ?_⟩); (conv => whnf))))
    first | rw [look_of e1] | rw [seqD_ref e1]
    ((conv => whnf); (repeat ((first | refine ⟨(by show (0 : Int) < _; first | decide | omega), ?_⟩ | refine ⟨cmul_r (by decide) (by decide), ?_⟩ | refine ⟨cmul_l (by decide) (by decide), ?_⟩ | refine ⟨cmul_l (by omega) (by omega), ?_⟩ | refine ⟨cdiv_v (by omega) (by omega), ?_⟩ | refine ⟨cdiv_c (by decide) (by decide), ?_⟩ | refine ⟨(by decide), ?_⟩ | refine ⟨Nat.le_of_ble_eq_true rfl, ?_⟩ | refine ⟨⟨by decide, by decide, by decide⟩, ?_⟩); (conv => whnf))))
    exact k _ _ (Int.emod_nonneg _ (by omega)) (Int.emod_lt_of_pos _ m0) ⟨x, _, x0, e1⟩ k1
theorem p_source {ns : List Int} {i : Int} {S : Sto} {q : DK} (i0 : 0 ≤ i) (k : ∀ x y : Int, 0 ≤ x → q (.ref S.length) (S ++ [.lst [.int x, .int y]])) : wp_law_source [.ro (ns.map D.int), .int i] S q := by
  have lenE : ((ns.map D.int).length : Int) = ns.length := by rw [List.length_map]
  rw [eq_law_source]
  ((conv => whnf); (repeat ((first | refine ⟨(by show (0 : Int) < _; first | decide | omega), ?_⟩ | refine ⟨cmul_r (by decide) (by decide), ?_⟩ | refine ⟨cmul_l (by decide) (by decide), ?_⟩ | refine ⟨cmul_l (by omega) (by omega), ?_⟩ | refine ⟨cdiv_v (by omega) (by omega), ?_⟩ | refine ⟨cdiv_c (by decide) (by decide), ?_⟩ | refine ⟨(by decide), ?_⟩ | refine ⟨Nat.le_of_ble_eq_true rfl, ?_⟩ | refine ⟨⟨by decide, by decide, by decide⟩, ?_⟩); (conv => whnf))))
  rw [lenE]
  first | refine bcase (fun c => ?_) (fun c => ?_) | refine bcase0 (fun c => ?_) (fun c => ?_) | refine bcase1 (fun c => ?_) (fun c => ?_)
  · conv => whnf
    rw [lenE]
    refine ⟨c, ?_⟩
    conv => whnf
    have r0 := Int.emod_nonneg i (show (ns.length : Int) ≠ 0 by omega)
    have r1 := Int.emod_lt_of_pos i c
    have hr : (ns.map D.int)[(i % (ns.length : Int)).toNat]? = some (.int (ns[(i % (ns.length : Int)).toNat]'(by omega))) := by
      rw [List.getElem?_map, List.getElem?_eq_getElem (by omega)]
      rfl
    rw [atI_pos r0 hr]
    generalize ns[(i % (ns.length : Int)).toNat]'(by omega) = z
    have hz : 0 ≤ (if z < 0 then -z else z) := by split <;> omega
    conv => whnf
    generalize (if z < 0 then -z else z) = z at hz
    rw [eqc_law_source_1]
    ((conv => whnf); (repeat ((first | refine ⟨(by show (0 : Int) < _; first | decide | omega), ?_⟩ | refine ⟨cmul_r (by decide) (by decide), ?_⟩ | refine ⟨cmul_l (by decide) (by decide), ?_⟩ | refine ⟨cmul_l (by omega) (by omega), ?_⟩ | refine ⟨cdiv_v (by omega) (by omega), ?_⟩ | refine ⟨cdiv_c (by decide) (by decide), ?_⟩ | refine ⟨(by decide), ?_⟩ | refine ⟨Nat.le_of_ble_eq_true rfl, ?_⟩ | refine ⟨⟨by decide, by decide, by decide⟩, ?_⟩); (conv => whnf))))
    first | refine bcase (fun c2 => ?_) (fun c2 => ?_) | refine bcase0 (fun c2 => ?_) (fun c2 => ?_) | refine bcase1 (fun c2 => ?_) (fun c2 => ?_)
    · exact k _ _ (Int.le_refl _)
    · exact k _ _ hz
  · ((conv => whnf); (repeat ((first | refine ⟨(by show (0 : Int) < _; first | decide | omega), ?_⟩ | refine ⟨cmul_r (by decide) (by decide), ?_⟩ | refine ⟨cmul_l (by decide) (by decide), ?_⟩ | refine ⟨cmul_l (by omega) (by omega), ?_⟩ | refine ⟨cdiv_v (by omega) (by omega), ?_⟩ | refine ⟨cdiv_c (by decide) (by decide), ?_⟩ | refine ⟨(by decide), ?_⟩ | refine ⟨Nat.le_of_ble_eq_true rfl, ?_⟩ | refine ⟨⟨by decide, by decide, by decide⟩, ?_⟩); (conv => whnf))))
    rw [eqc_law_source_1]
    ((conv => whnf); (repeat ((first | refine ⟨(by show (0 : Int) < _; first | decide | omega), ?_⟩ | refine ⟨cmul_r (by decide) (by decide), ?_⟩ | refine ⟨cmul_l (by decide) (by decide), ?_⟩ | refine ⟨cmul_l (by omega) (by omega), ?_⟩ | refine ⟨cdiv_v (by omega) (by omega), ?_⟩ | refine ⟨cdiv_c (by decide) (by decide), ?_⟩ | refine ⟨(by decide), ?_⟩ | refine ⟨Nat.le_of_ble_eq_true rfl, ?_⟩ | refine ⟨⟨by decide, by decide, by decide⟩, ?_⟩); (conv => whnf))))
    exact k _ _ (Int.le_refl _)

/-! ### facts, states, regions, instructions as data -/
def fl (b : Bool) : Str := if b then "secret" else "public"
structure Fa where
  sec : Bool
  lo : Int
  hi : Int
  cell : Int
  plus : Int
def dFa (f : Fa) : D := .tup [.str (fl f.sec), .int f.lo, .int f.hi, .int f.cell, .int f.plus]
def dSt (fs : List Fa) (c : Bool) : D := .tup (fs.map dFa ++ [.str (fl c)])
structure Rg where
  start : Int
  size : Int
  sec : Bool
  most : Int
def dRg (g : Rg) : D := .tup [.int g.start, .int g.size, .str (fl g.sec), .int g.most]
def dLay (gs : List Rg) : D := .tup (gs.map dRg)
def Rg.has (g : Rg) (x : Int) : Prop := g.start ≤ x ∧ x < g.start + g.size
structure LayOk (gs : List Rg) : Prop where
  sorted : ∀ (i j : Nat) (g h : Rg), i < j → gs[i]? = some g → gs[j]? = some h → g.start + g.size ≤ h.start
  sized : ∀ g ∈ gs, 1 ≤ g.size ∧ 0 ≤ g.start
  most : ∀ g ∈ gs, 0 ≤ g.most ∧ g.most ≤ 65535
  few : gs.length ≤ 1000
def okR (f : Fa) : Prop := 0 ≤ f.lo ∧ f.lo ≤ f.hi ∧ f.hi ≤ 65535 ∧ -1 ≤ f.cell
def ar12 : List Str := ["add", "addc", "sub", "subc", "mul", "high", "div", "and", "or", "xor", "less", "downby"]
inductive Ins
  | set (r w : Int)
  | move (r s : Int)
  | carry (r : Int)
  | load (r s d : Int)
  | store (r s d : Int)
  | clear
  | sh (n : Str) (r s k : Int)
  | ar (n : Str) (r s t : Int)
  | other (n : Str) (xs : List D)
def Ins.row : Ins → List D
  | .set r w => [.str "set", .int r, .int w]
  | .move r s => [.str "move", .int r, .int s]
  | .carry r => [.str "carry", .int r]
  | .load r s d => [.str "load", .int r, .int s, .int d]
  | .store r s d => [.str "store", .int r, .int s, .int d]
  | .clear => [.str "clear"]
  | .sh n r s k => [.str n, .int r, .int s, .int k]
  | .ar n r s t => [.str n, .int r, .int s, .int t]
  | .other n xs => .str n :: xs
def Ins.d (i : Ins) : D := .tup i.row
def rg (r : Int) : Prop := 0 ≤ r ∧ r < 16
def Ins.ok : Ins → Prop
  | .set r w => rg r ∧ 0 ≤ w ∧ w ≤ 65535
  | .move r s => rg r ∧ rg s
  | .carry r => rg r
  | .load r s d => rg r ∧ rg s ∧ 0 ≤ d
  | .store r s d => rg r ∧ rg s ∧ 0 ≤ d
  | .clear => True
  | .sh n r s k => (n = "down" ∨ n = "up") ∧ rg r ∧ rg s ∧ rg k
  | .ar n r s t => n ∈ ar12 ∧ rg r ∧ rg s ∧ rg t
  | .other n _ => n ∈ (["jump", "below", "call", "ret", "halt"] : List Str)
/-! ### the results, as the document has them -/
def asW (l h : Int) : Int × Int := if l < 0 ∨ 65535 < h then (0, 65535) else (l, h)
def shM (n : Str) (l h k : Int) : Int × Int := if n = "down" then (l / 2 ^ k.toNat, h / 2 ^ k.toNat) else asW (l * 2 ^ k.toNat) (h * 2 ^ k.toNat)
def maskM (k : Int) : Int := 1 * 2 ^ k.toNat - 1
def topM (n : Str) (h g : Int) : Int := if n = "and" then min h g else if n = "or" ∨ n = "xor" then maskM ((Builtin.Int.intBits (max h g) : Nat) : Int) else if n = "less" then 1 else h
def moreM (n : Str) : Int := if n = "addc" ∨ n = "subc" then 1 else 0
def opM (n : Str) (f g : Fa) : Int × Int :=
  if n = "add" ∨ n = "addc" then asW (f.lo + g.lo) (f.hi + g.hi + moreM n)
  else if n = "sub" ∨ n = "subc" then asW (f.lo - g.hi - moreM n) (f.hi - g.lo)
  else if n = "mul" then asW (f.lo * g.lo) (f.hi * g.hi)
  else if n = "high" then (f.lo * g.lo / 65536, f.hi * g.hi / 65536)
  else if n = "div" then (if 1 ≤ g.lo then (f.lo / g.hi, f.hi / g.lo) else (0, 65535))
  else (0, topM n f.hi g.hi)
def cellM (f g : Fa) : Int × Int := if f.cell = -1 ∨ g.lo ≠ g.hi ∨ 65535 < f.hi + g.hi ∨ 65535 < f.plus + g.lo then (-1, 0) else (f.cell, f.plus + g.lo)
def safeM (gs : List Rg) (lo hi : Int) : Option Rg := gs.find? fun g => decide (g.start ≤ lo) && decide (hi < g.start + g.size)
def loadM (gs : List Rg) (lo hi : Int) : Fa := match safeM gs lo hi with
  | none => ⟨true, 0, 65535, -1, 0⟩
  | some g => if lo = hi then ⟨g.sec, 0, g.most, lo, 0⟩ else ⟨g.sec, 0, g.most, -1, 0⟩
def chB (n : Str) : Bool := decide (n = "addc" ∨ n = "subc")
def caB (n : Str) : Bool := decide (n ∈ (["add", "addc", "sub", "subc"] : List Str))
def arM (n : Str) (g h : Fa) (c : Bool) : Fa := ⟨g.sec || h.sec || (chB n && c), (opM n g h).1, (opM n g h).2, if n = "add" then (cellM g h).1 else -1, if n = "add" then (cellM g h).2 else 0⟩
def cutF (lo hi : Int) (f : Fa) : Fa := if lo ≤ f.cell ∧ f.cell ≤ hi then ⟨f.sec, f.lo, f.hi, -1, 0⟩ else f
def atF (fs : List Fa) (r : Int) : Fa := fs.getD r.toNat ⟨true, 0, 0, -1, 0⟩
def resM (gs : List Rg) (fs : List Fa) (c : Bool) : Ins → Fa
  | .set _ w => ⟨false, w, w, -1, 0⟩
  | .move _ s => atF fs s
  | .carry _ => ⟨c, 0, 1, -1, 0⟩
  | .load _ s d => loadM gs ((atF fs s).lo + d) ((atF fs s).hi + d)
  | .sh n _ s k => ⟨(atF fs s).sec, (shM n (atF fs s).lo (atF fs s).hi k).1, (shM n (atF fs s).lo (atF fs s).hi k).2, -1, 0⟩
  | .ar n _ s t => arM n (atF fs s) (atF fs t) c
  | _ => ⟨true, 0, 0, -1, 0⟩
def Ins.given : Ins → Int
  | .set r _ => r
  | .move r _ => r
  | .carry r => r
  | .load r _ _ => r
  | .sh _ r _ _ => r
  | .ar _ r _ _ => r
  | _ => -1
def nextF (gs : List Rg) (fs : List Fa) (c : Bool) (i : Ins) : List Fa := match i with
  | .clear => fs
  | .store _ s d => fs.map (cutF ((atF fs s).lo + d) ((atF fs s).hi + d))
  | .other _ _ => fs
  | i => fs.set i.given.toNat (resM gs fs c i)
def nextC (gs : List Rg) (fs : List Fa) (c : Bool) (i : Ins) : Bool := match i with
  | .clear => false
  | .ar n r s t => if caB n = true then (arM n (atF fs s) (atF fs t) c).sec else c
  | _ => c
theorem at_fact {fs : List Fa} {c : Bool} {r : Int} (l : fs.length = 16) (h : rg r) : atI (fs.map dFa ++ [.str (fl c)]) r = some (dFa (atF fs r)) := by
  obtain ⟨h0, h1⟩ := h
  refine atI_pos h0 ?_
  rw [List.getElem?_append_left (by rw [List.length_map]; omega), List.getElem?_map, List.getElem?_eq_getElem (by omega)]
  unfold atF
  rw [List.getD_eq_getElem?_getD, List.getElem?_eq_getElem (by omega)]
  rfl
theorem at_carry {fs : List Fa} {c : Bool} (l : fs.length = 16) : atI (fs.map dFa ++ [.str (fl c)]) 16 = some (.str (fl c)) := by
  refine atI_pos (by decide) ?_
  rw [List.getElem?_append_right (by rw [List.length_map]; exact Nat.le_of_eq l), List.length_map, l]
  rfl
theorem atF_mem {fs : List Fa} {r : Int} (l : fs.length = 16) (h : rg r) : atF fs r ∈ fs := by
  obtain ⟨h0, h1⟩ := h
  unfold atF
  rw [List.getD_eq_getElem?_getD, List.getElem?_eq_getElem (by omega)]
  exact List.getElem_mem _

theorem p_region_end {g : Rg} {S : Sto} {q : DK} (k : q (.int (g.start + g.size)) S) : wp_region_end [dRg g] S q := by
  rw [eq_region_end]
  exact k
/-- which region holds an address -/
def regZ (gs : List Rg) (x z : Int) : Prop := (z = -1 ∧ ∀ g ∈ gs, ¬ g.has x) ∨ ∃ (j : Nat) (g : Rg), z = j ∧ gs[j]? = some g ∧ g.has x
theorem has_uni {gs : List Rg} (ok : LayOk gs) {i j : Nat} {g h : Rg} {x : Int} (hi : gs[i]? = some g) (hj : gs[j]? = some h) (a : g.has x) (b : h.has x) : i = j := by
  obtain ⟨a1, a2⟩ := a
  obtain ⟨b1, b2⟩ := b
  rcases Nat.lt_trichotomy i j with z | z | z
  · have := ok.sorted _ _ _ _ z hi hj
    omega
  · exact z
  · have := ok.sorted _ _ _ _ z hj hi
    omega
theorem lay_at {gs : List Rg} {j : Nat} {g : Rg} (h : gs[j]? = some g) : atI (gs.map dRg) (j : Int) = some (dRg g) := atI_cast (by rw [List.getElem?_map, h]; rfl)
theorem p_region_at {gs : List Rg} {x : Int} {S : Sto} {q : DK} (ok : LayOk gs) (k : ∀ z, regZ gs x z → q (.int z) S) : wp_region_at [dLay gs, .int x] S q := by
  rw [eq_region_at]
  conv => whnf
  refine ⟨fun m ρ S' => ∃ (lo hi : Nat) (v4 : Option D), ρ = [some (dLay gs), some (.int x), some (.int lo), some (.int hi), v4] ∧ S' = S ∧ m = hi - lo ∧ lo ≤ hi ∧ hi ≤ gs.length ∧
    (∀ (i : Nat) (g : Rg), i < lo → gs[i]? = some g → g.start ≤ x) ∧ (∀ (i : Nat) (g : Rg), hi ≤ i → gs[i]? = some g → x < g.start),
    ⟨_, 0, gs.length, none, ?_, rfl, rfl, Nat.zero_le _, Nat.le_refl _, fun i g h => absurd h (Nat.not_lt_zero _), fun i g h e => by rw [List.getElem?_eq_none h] at e; cases e⟩, ?_⟩
  · show [_, _, _, some (D.int ((gs.map dRg).length : Nat)), _] = _
    rw [List.length_map]
    rfl
  rintro m ρ S' ⟨lo, hi, v4, rfl, rfl, rfl, h1, h2, h3, h4⟩
  conv => whnf
  first | refine bcase (fun e => ?_) (fun e => ?_) | refine bcase0 (fun e => ?_) (fun e => ?_) | refine bcase1 (fun e => ?_) (fun e => ?_)
  · have em : ((lo : Int) + (hi : Int)) / 2 = (((lo + hi) / 2 : Nat) : Int) := by omega
    have hm : (lo + hi) / 2 < gs.length := by omega
    have hg := List.getElem?_eq_getElem hm
    generalize gs[(lo + hi) / 2]'hm = g at hg
    ((conv => whnf); (repeat ((first | refine ⟨(by show (0 : Int) < _; first | decide | omega), ?_⟩ | refine ⟨cmul_r (by decide) (by decide), ?_⟩ | refine ⟨cmul_l (by decide) (by decide), ?_⟩ | refine ⟨cmul_l (by omega) (by omega), ?_⟩ | refine ⟨cdiv_v (by omega) (by omega), ?_⟩ | refine ⟨cdiv_c (by decide) (by decide), ?_⟩ | refine ⟨(by decide), ?_⟩ | refine ⟨Nat.le_of_ble_eq_true rfl, ?_⟩ | refine ⟨⟨by decide, by decide, by decide⟩, ?_⟩); (conv => whnf))))
    rw [em, lay_at hg]
    ((conv => whnf); (repeat ((first | refine ⟨(by show (0 : Int) < _; first | decide | omega), ?_⟩ | refine ⟨cmul_r (by decide) (by decide), ?_⟩ | refine ⟨cmul_l (by decide) (by decide), ?_⟩ | refine ⟨cmul_l (by omega) (by omega), ?_⟩ | refine ⟨cdiv_v (by omega) (by omega), ?_⟩ | refine ⟨cdiv_c (by decide) (by decide), ?_⟩ | refine ⟨(by decide), ?_⟩ | refine ⟨Nat.le_of_ble_eq_true rfl, ?_⟩ | refine ⟨⟨by decide, by decide, by decide⟩, ?_⟩); (conv => whnf))))
    first | refine bcase (fun e2 => ?_) (fun e2 => ?_) | refine bcase0 (fun e2 => ?_) (fun e2 => ?_) | refine bcase1 (fun e2 => ?_) (fun e2 => ?_)
    · refine ⟨hi - ((lo + hi) / 2 + 1), by omega, (lo + hi) / 2 + 1, hi, some (.int (((lo + hi) / 2 : Nat) : Int)), ?_, rfl, rfl, by omega, h2, fun i g' hi2 hg' => ?_, h4⟩
      · rfl
      · rcases Nat.lt_or_ge i ((lo + hi) / 2) with z | z
        · have := ok.sorted i _ _ _ z hg' hg
          have := (ok.sized g' (List.mem_of_getElem? hg')).1
          omega
        · have : i = (lo + hi) / 2 := by omega
          subst this
          rw [hg] at hg'
          cases hg'
          exact e2
    · refine ⟨(lo + hi) / 2 - lo, by omega, lo, (lo + hi) / 2, some (.int (((lo + hi) / 2 : Nat) : Int)), ?_, rfl, rfl, by omega, by omega, h3, fun i g' hi2 hg' => ?_⟩
      · rfl
      · rcases Nat.lt_or_ge ((lo + hi) / 2) i with z | z
        · have := ok.sorted _ i _ _ z hg hg'
          have := (ok.sized g (List.mem_of_getElem? hg)).1
          omega
        · have : i = (lo + hi) / 2 := by omega
          subst this
          rw [hg] at hg'
          cases hg'
          omega
  · have elh : lo = hi := by omega
    subst elh
    have qn : (∀ g ∈ gs, ¬ g.has x) → q (.int (-1)) S' := fun z => k _ (.inl ⟨rfl, z⟩)
    ((conv => whnf); (repeat ((first | refine ⟨(by show (0 : Int) < _; first | decide | omega), ?_⟩ | refine ⟨cmul_r (by decide) (by decide), ?_⟩ | refine ⟨cmul_l (by decide) (by decide), ?_⟩ | refine ⟨cmul_l (by omega) (by omega), ?_⟩ | refine ⟨cdiv_v (by omega) (by omega), ?_⟩ | refine ⟨cdiv_c (by decide) (by decide), ?_⟩ | refine ⟨(by decide), ?_⟩ | refine ⟨Nat.le_of_ble_eq_true rfl, ?_⟩ | refine ⟨⟨by decide, by decide, by decide⟩, ?_⟩); (conv => whnf))))
    first | refine bcase (fun e2 => ?_) (fun e2 => ?_) | refine bcase0 (fun e2 => ?_) (fun e2 => ?_) | refine bcase1 (fun e2 => ?_) (fun e2 => ?_)
    · refine qn fun g hg hs => ?_
      obtain ⟨i, hi⟩ := List.mem_iff_getElem?.mp hg
      have := h4 i g (by omega) hi
      have := hs.1
      omega
    · have hm : lo - 1 < gs.length := by omega
      have hg := List.getElem?_eq_getElem hm
      generalize gs[lo - 1]'hm = g at hg
      have em : (lo : Int) - 1 = ((lo - 1 : Nat) : Int) := by omega
      have hst := h3 _ _ (show lo - 1 < lo by omega) hg
      ((conv => whnf); (repeat ((first | refine ⟨(by show (0 : Int) < _; first | decide | omega), ?_⟩ | refine ⟨cmul_r (by decide) (by decide), ?_⟩ | refine ⟨cmul_l (by decide) (by decide), ?_⟩ | refine ⟨cmul_l (by omega) (by omega), ?_⟩ | refine ⟨cdiv_v (by omega) (by omega), ?_⟩ | refine ⟨cdiv_c (by decide) (by decide), ?_⟩ | refine ⟨(by decide), ?_⟩ | refine ⟨Nat.le_of_ble_eq_true rfl, ?_⟩ | refine ⟨⟨by decide, by decide, by decide⟩, ?_⟩); (conv => whnf))))
      rw [em, lay_at hg]
      refine p_region_end ?_
      conv => whnf
      first | refine bcase (fun e3 => ?_) (fun e3 => ?_) | refine bcase0 (fun e3 => ?_) (fun e3 => ?_) | refine bcase1 (fun e3 => ?_) (fun e3 => ?_)
      · refine qn fun g' hgm hs => ?_
        obtain ⟨i, hi⟩ := List.mem_iff_getElem?.mp hgm
        obtain ⟨hs1, hs2⟩ := hs
        rcases Nat.lt_trichotomy i (lo - 1) with z | z | z
        · have := ok.sorted _ _ _ _ z hi hg
          omega
        · subst z
          rw [hg] at hi
          cases hi
          omega
        · have := h4 i g' (by omega) hi
          omega
      · exact k _ (.inr ⟨lo - 1, g, em, hg, hst, by omega⟩)

/-! ### what may be a field, an item -/
def Fl (S : Sto) (d : D) : Prop := d = .non ∨ (∃ b, d = .bl b) ∨ (∃ i, d = .int i) ∨ (∃ s, d = .str s) ∨ d = .tup [] ∨ ∃ n, d = .ref n ∧ S[n]? = some (.lst [])
def It (S : Sto) (d : D) : Prop := (∃ ds, d = .tup ds ∧ ∀ x ∈ ds, Fl S x) ∨ (∃ n es, d = .ref n ∧ S[n]? = some (.lst es)) ∨ Fl S d
theorem Fl.keep {S S' : Sto} {d : D} (h : Fl S d) (k : Kn S S') : Fl S' d := by
  rcases h with h | h | h | h | h | ⟨n, h, e⟩
  · exact .inl h
  · exact .inr (.inl h)
  · exact .inr (.inr (.inl h))
  · exact .inr (.inr (.inr (.inl h)))
  · exact .inr (.inr (.inr (.inr (.inl h))))
  · exact .inr (.inr (.inr (.inr (.inr ⟨n, h, k.get e⟩))))
theorem It.keep {S S' : Sto} {d : D} (h : It S d) (k : Kn S S') : It S' d := by
  rcases h with ⟨ds, h, hx⟩ | ⟨n, es, h, e⟩ | h
  · exact .inl ⟨ds, h, fun x hx' => (hx x hx').keep k⟩
  · exact .inr (.inl ⟨n, es, h, k.get e⟩)
  · exact .inr (.inr (h.keep k))
def numB (l h : Int) : D → Bool
  | .int i => decide (l ≤ i ∧ i ≤ h)
  | _ => false
def flowB : D → Bool
  | .str s => decide (s = "public" ∨ s = "secret")
  | _ => false
def szB (b : D) : D → Bool
  | .int s => numB 1 (4096 - s) b
  | _ => false
theorem kind_ref {S : Sto} {n : Nat} {es : List D} (e : S[n]? = some (.lst es)) : kindD S (.ref n) = some "list" := by
  unfold kindD
  dsimp only
  rw [look_of e]
def regB : D → Bool
  | .tup [a, b, c, e] => numB 0 4095 a && (szB b a && (flowB c && numB 0 65535 e))
  | _ => false
theorem and_dec {l i h : Int} {q : D → Prop} (k : q (.bl (decide (l ≤ i ∧ i ≤ h)))) : @Bool.rec (fun _ => Prop) (q (.bl false)) (q (.bl (decide (i ≤ h)))) (decide (l ≤ i)) := by
  by_cases z : l ≤ i
  · rw [decide_eq_true z]
    rw [show decide (l ≤ i ∧ i ≤ h) = decide (i ≤ h) from decide_eq_decide.mpr ⟨fun y => y.2, fun y => ⟨z, y⟩⟩] at k
    exact k
  · rw [decide_eq_false z]
    rw [decide_eq_false fun y => z y.1] at k
    exact k
theorem p_int {S : Sto} {d : D} {l h : Int} {q : DK} (hd : It S d) (k : q (.bl (numB l h d)) S) : wp_is_integer [d, .int l, .int h] S q := by
  rw [eq_is_integer]
  rcases hd with ⟨ds, rfl, _⟩ | ⟨n, es, rfl, e⟩ | rfl | ⟨b, rfl⟩ | ⟨i, rfl⟩ | ⟨s, rfl⟩ | rfl | ⟨n, rfl, e⟩
  · exact k
  · ((conv => whnf); (repeat ((first | refine ⟨(by show (0 : Int) < _; first | decide | omega), ?_⟩ | refine ⟨cmul_r (by decide) (by decide), ?_⟩ | refine ⟨cmul_l (by decide) (by decide), ?_⟩ | refine ⟨cmul_l (by omega) (by omega), ?_⟩ | refine ⟨cdiv_v (by omega) (by omega), ?_⟩ | refine ⟨cdiv_c (by decide) (by decide), ?_⟩ | refine ⟨(by decide), ?_⟩ | refine ⟨Nat.le_of_ble_eq_true rfl, ?_⟩ | refine ⟨⟨by decide, by decide, by decide⟩, ?_⟩); (conv => whnf))))
    rw [kind_ref e]
    exact k
  · exact k
  · exact k
  · ((conv => whnf); (repeat ((first | refine ⟨(by show (0 : Int) < _; first | decide | omega), ?_⟩ | refine ⟨cmul_r (by decide) (by decide), ?_⟩ | refine ⟨cmul_l (by decide) (by decide), ?_⟩ | refine ⟨cmul_l (by omega) (by omega), ?_⟩ | refine ⟨cdiv_v (by omega) (by omega), ?_⟩ | refine ⟨cdiv_c (by decide) (by decide), ?_⟩ | refine ⟨(by decide), ?_⟩ | refine ⟨Nat.le_of_ble_eq_true rfl, ?_⟩ | refine ⟨⟨by decide, by decide, by decide⟩, ?_⟩); (conv => whnf))))
    exact and_dec (q := fun d => q d S) k
  · exact k
  · exact k
  · ((conv => whnf); (repeat ((first | refine ⟨(by show (0 : Int) < _; first | decide | omega), ?_⟩ | refine ⟨cmul_r (by decide) (by decide), ?_⟩ | refine ⟨cmul_l (by decide) (by decide), ?_⟩ | refine ⟨cmul_l (by omega) (by omega), ?_⟩ | refine ⟨cdiv_v (by omega) (by omega), ?_⟩ | refine ⟨cdiv_c (by decide) (by decide), ?_⟩ | refine ⟨(by decide), ?_⟩ | refine ⟨Nat.le_of_ble_eq_true rfl, ?_⟩ | refine ⟨⟨by decide, by decide, by decide⟩, ?_⟩); (conv => whnf))))
    rw [kind_ref e]
    exact k
theorem p_num {S : Sto} {d : D} {l h : Int} {q : DK} (hd : It S d) (k : q (.bl (numB l h d)) S) : wp_law_is_number [d, .int l, .int h] S q := by
  rw [eq_law_is_number]
  rcases hd with ⟨ds, rfl, _⟩ | ⟨n, es, rfl, e⟩ | rfl | ⟨b, rfl⟩ | ⟨i, rfl⟩ | ⟨s, rfl⟩ | rfl | ⟨n, rfl, e⟩
  · exact k
  · ((conv => whnf); (repeat ((first | refine ⟨(by show (0 : Int) < _; first | decide | omega), ?_⟩ | refine ⟨cmul_r (by decide) (by decide), ?_⟩ | refine ⟨cmul_l (by decide) (by decide), ?_⟩ | refine ⟨cmul_l (by omega) (by omega), ?_⟩ | refine ⟨cdiv_v (by omega) (by omega), ?_⟩ | refine ⟨cdiv_c (by decide) (by decide), ?_⟩ | refine ⟨(by decide), ?_⟩ | refine ⟨Nat.le_of_ble_eq_true rfl, ?_⟩ | refine ⟨⟨by decide, by decide, by decide⟩, ?_⟩); (conv => whnf))))
    rw [kind_ref e]
    exact k
  · exact k
  · exact k
  · ((conv => whnf); (repeat ((first | refine ⟨(by show (0 : Int) < _; first | decide | omega), ?_⟩ | refine ⟨cmul_r (by decide) (by decide), ?_⟩ | refine ⟨cmul_l (by decide) (by decide), ?_⟩ | refine ⟨cmul_l (by omega) (by omega), ?_⟩ | refine ⟨cdiv_v (by omega) (by omega), ?_⟩ | refine ⟨cdiv_c (by decide) (by decide), ?_⟩ | refine ⟨(by decide), ?_⟩ | refine ⟨Nat.le_of_ble_eq_true rfl, ?_⟩ | refine ⟨⟨by decide, by decide, by decide⟩, ?_⟩); (conv => whnf))))
    exact and_dec (q := fun d => q d S) k
  · exact k
  · exact k
  · ((conv => whnf); (repeat ((first | refine ⟨(by show (0 : Int) < _; first | decide | omega), ?_⟩ | refine ⟨cmul_r (by decide) (by decide), ?_⟩ | refine ⟨cmul_l (by decide) (by decide), ?_⟩ | refine ⟨cmul_l (by omega) (by omega), ?_⟩ | refine ⟨cdiv_v (by omega) (by omega), ?_⟩ | refine ⟨cdiv_c (by decide) (by decide), ?_⟩ | refine ⟨(by decide), ?_⟩ | refine ⟨Nat.le_of_ble_eq_true rfl, ?_⟩ | refine ⟨⟨by decide, by decide, by decide⟩, ?_⟩); (conv => whnf))))
    rw [kind_ref e]
    exact k
theorem regB_len {ds : List D} (h : ds.length ≠ 4) : regB (.tup ds) = false := by
  unfold regB
  split
  · rename_i e
    cases e
    exact absurd rfl h
  · rfl
theorem four {ds : List D} (h : ds.length = 4) : ∃ a b c e, ds = [a, b, c, e] := by
  match ds, h with
  | [a, b, c, e], _ => exact ⟨a, b, c, e, rfl⟩
theorem numB_false {l h : Int} {d : D} (n : ∀ i, d ≠ .int i) : numB l h d = false := by
  unfold numB
  split
  · exact absurd rfl (n _)
  · rfl
theorem numB_int {l h : Int} {d : D} (e : numB l h d = true) : ∃ i, d = .int i ∧ l ≤ i ∧ i ≤ h := by
  unfold numB at e
  split at e
  · exact ⟨_, rfl, of_decide_eq_true e⟩
  · cases e
theorem p_is_region {S : Sto} {d : D} {q : DK} (hd : It S d) (k : q (.bl (regB d)) S) : wp_is_region [d] S q := by
  rw [eq_is_region]
  rcases hd with ⟨ds, rfl, hf⟩ | ⟨n, es, rfl, e⟩ | rfl | ⟨b, rfl⟩ | ⟨i, rfl⟩ | ⟨s, rfl⟩ | rfl | ⟨n, rfl, e⟩
  · by_cases hl : ds.length = 4
    · obtain ⟨a, b, c, e, rfl⟩ := four hl
      have fa := hf a (by simp)
      have fb := hf b (by simp)
      have fc := hf c (by simp)
      have fe := hf e (by simp)
      have kk : q (.bl (numB 0 4095 a && (szB b a && (flowB c && numB 0 65535 e)))) S := k
      ((conv => whnf); (repeat ((first | refine ⟨(by show (0 : Int) < _; first | decide | omega), ?_⟩ | refine ⟨cmul_r (by decide) (by decide), ?_⟩ | refine ⟨cmul_l (by decide) (by decide), ?_⟩ | refine ⟨cmul_l (by omega) (by omega), ?_⟩ | refine ⟨cdiv_v (by omega) (by omega), ?_⟩ | refine ⟨cdiv_c (by decide) (by decide), ?_⟩ | refine ⟨(by decide), ?_⟩ | refine ⟨Nat.le_of_ble_eq_true rfl, ?_⟩ | refine ⟨⟨by decide, by decide, by decide⟩, ?_⟩); (conv => whnf))))
      refine p_int (h := 4095) (.inr (.inr fa)) ?_
      cases ha : numB 0 4095 a with
      | false =>
        rw [ha] at kk
        exact kk
      | true =>
        obtain ⟨s, rfl, _, _⟩ := numB_int ha
        rw [ha] at kk
        ((conv => whnf); (repeat ((first | refine ⟨(by show (0 : Int) < _; first | decide | omega), ?_⟩ | refine ⟨cmul_r (by decide) (by decide), ?_⟩ | refine ⟨cmul_l (by decide) (by decide), ?_⟩ | refine ⟨cmul_l (by omega) (by omega), ?_⟩ | refine ⟨cdiv_v (by omega) (by omega), ?_⟩ | refine ⟨cdiv_c (by decide) (by decide), ?_⟩ | refine ⟨(by decide), ?_⟩ | refine ⟨Nat.le_of_ble_eq_true rfl, ?_⟩ | refine ⟨⟨by decide, by decide, by decide⟩, ?_⟩); (conv => whnf))))
        refine p_int (.inr (.inr fb)) ?_
        cases hb : numB 1 (4096 - s) b with
        | false =>
          have kk : q (.bl (numB 1 (4096 - s) b && (flowB c && numB 0 65535 e))) S := kk
          rw [hb] at kk
          exact kk
        | true =>
          have kk : q (.bl (numB 1 (4096 - s) b && (flowB c && numB 0 65535 e))) S := kk
          rw [hb] at kk
          have kk : q (.bl (flowB c && numB 0 65535 e)) S := kk
          have no : flowB c = false → q (.bl false) S := fun h => by
            rw [h] at kk
            exact kk
          ((conv => whnf); (repeat ((first | refine ⟨(by show (0 : Int) < _; first | decide | omega), ?_⟩ | refine ⟨cmul_r (by decide) (by decide), ?_⟩ | refine ⟨cmul_l (by decide) (by decide), ?_⟩ | refine ⟨cmul_l (by omega) (by omega), ?_⟩ | refine ⟨cdiv_v (by omega) (by omega), ?_⟩ | refine ⟨cdiv_c (by decide) (by decide), ?_⟩ | refine ⟨(by decide), ?_⟩ | refine ⟨Nat.le_of_ble_eq_true rfl, ?_⟩ | refine ⟨⟨by decide, by decide, by decide⟩, ?_⟩); (conv => whnf))))
          rcases fc with rfl | ⟨b, rfl⟩ | ⟨i, rfl⟩ | ⟨s, rfl⟩ | rfl | ⟨n, rfl, e⟩
          · exact no rfl
          · exact no rfl
          · exact no rfl
          · ((conv => whnf); (repeat ((first | refine ⟨(by show (0 : Int) < _; first | decide | omega), ?_⟩ | refine ⟨cmul_r (by decide) (by decide), ?_⟩ | refine ⟨cmul_l (by decide) (by decide), ?_⟩ | refine ⟨cmul_l (by omega) (by omega), ?_⟩ | refine ⟨cdiv_v (by omega) (by omega), ?_⟩ | refine ⟨cdiv_c (by decide) (by decide), ?_⟩ | refine ⟨(by decide), ?_⟩ | refine ⟨Nat.le_of_ble_eq_true rfl, ?_⟩ | refine ⟨⟨by decide, by decide, by decide⟩, ?_⟩); (conv => whnf))))
            rw [show inV (V.str s) [V.str "public", V.str "secret"] = decide (s ∈ (["public", "secret"] : List Str)) from inV_str s ["public", "secret"]]
            have hm : s ∈ (["public", "secret"] : List Str) ↔ s = "public" ∨ s = "secret" := by simp
            first | refine bcase (fun z => ?_) (fun z => ?_) | refine bcase0 (fun z => ?_) (fun z => ?_) | refine bcase1 (fun z => ?_) (fun z => ?_)
            · have kk : q (.bl (decide (s = "public" ∨ s = "secret") && numB 0 65535 e)) S := kk
              rw [decide_eq_true (hm.mp z)] at kk
              have kk : q (.bl (numB 0 65535 e)) S := kk
              ((conv => whnf); (repeat ((first | refine ⟨(by show (0 : Int) < _; first | decide | omega), ?_⟩ | refine ⟨cmul_r (by decide) (by decide), ?_⟩ | refine ⟨cmul_l (by decide) (by decide), ?_⟩ | refine ⟨cmul_l (by omega) (by omega), ?_⟩ | refine ⟨cdiv_v (by omega) (by omega), ?_⟩ | refine ⟨cdiv_c (by decide) (by decide), ?_⟩ | refine ⟨(by decide), ?_⟩ | refine ⟨Nat.le_of_ble_eq_true rfl, ?_⟩ | refine ⟨⟨by decide, by decide, by decide⟩, ?_⟩); (conv => whnf))))
              exact p_int (.inr (.inr fe)) kk
            · rw [decide_eq_false z]
              exact no (decide_eq_false fun y => z (hm.mpr y))
          · ((conv => whnf); (repeat ((first | refine ⟨(by show (0 : Int) < _; first | decide | omega), ?_⟩ | refine ⟨cmul_r (by decide) (by decide), ?_⟩ | refine ⟨cmul_l (by decide) (by decide), ?_⟩ | refine ⟨cmul_l (by omega) (by omega), ?_⟩ | refine ⟨cdiv_v (by omega) (by omega), ?_⟩ | refine ⟨cdiv_c (by decide) (by decide), ?_⟩ | refine ⟨(by decide), ?_⟩ | refine ⟨Nat.le_of_ble_eq_true rfl, ?_⟩ | refine ⟨⟨by decide, by decide, by decide⟩, ?_⟩); (conv => whnf))))
            exact ⟨by decide +kernel, no rfl⟩
          · ((conv => whnf); (repeat ((first | refine ⟨(by show (0 : Int) < _; first | decide | omega), ?_⟩ | refine ⟨cmul_r (by decide) (by decide), ?_⟩ | refine ⟨cmul_l (by decide) (by decide), ?_⟩ | refine ⟨cmul_l (by omega) (by omega), ?_⟩ | refine ⟨cdiv_v (by omega) (by omega), ?_⟩ | refine ⟨cdiv_c (by decide) (by decide), ?_⟩ | refine ⟨(by decide), ?_⟩ | refine ⟨Nat.le_of_ble_eq_true rfl, ?_⟩ | refine ⟨⟨by decide, by decide, by decide⟩, ?_⟩); (conv => whnf))))
            rw [show pdt S (.ref n) = some (.list []) by unfold pdt; dsimp only; rw [look_of e]; rfl]
            ((conv => whnf); (repeat ((first | refine ⟨(by show (0 : Int) < _; first | decide | omega), ?_⟩ | refine ⟨cmul_r (by decide) (by decide), ?_⟩ | refine ⟨cmul_l (by decide) (by decide), ?_⟩ | refine ⟨cmul_l (by omega) (by omega), ?_⟩ | refine ⟨cdiv_v (by omega) (by omega), ?_⟩ | refine ⟨cdiv_c (by decide) (by decide), ?_⟩ | refine ⟨(by decide), ?_⟩ | refine ⟨Nat.le_of_ble_eq_true rfl, ?_⟩ | refine ⟨⟨by decide, by decide, by decide⟩, ?_⟩); (conv => whnf))))
            exact ⟨by decide +kernel, no rfl⟩
    · rw [regB_len hl] at k
      ((conv => whnf); (repeat ((first | refine ⟨(by show (0 : Int) < _; first | decide | omega), ?_⟩ | refine ⟨cmul_r (by decide) (by decide), ?_⟩ | refine ⟨cmul_l (by decide) (by decide), ?_⟩ | refine ⟨cmul_l (by omega) (by omega), ?_⟩ | refine ⟨cdiv_v (by omega) (by omega), ?_⟩ | refine ⟨cdiv_c (by decide) (by decide), ?_⟩ | refine ⟨(by decide), ?_⟩ | refine ⟨Nat.le_of_ble_eq_true rfl, ?_⟩ | refine ⟨⟨by decide, by decide, by decide⟩, ?_⟩); (conv => whnf))))
      refine bcase1 (fun _ => k) fun z => absurd z (by omega)
  · ((conv => whnf); (repeat ((first | refine ⟨(by show (0 : Int) < _; first | decide | omega), ?_⟩ | refine ⟨cmul_r (by decide) (by decide), ?_⟩ | refine ⟨cmul_l (by decide) (by decide), ?_⟩ | refine ⟨cmul_l (by omega) (by omega), ?_⟩ | refine ⟨cdiv_v (by omega) (by omega), ?_⟩ | refine ⟨cdiv_c (by decide) (by decide), ?_⟩ | refine ⟨(by decide), ?_⟩ | refine ⟨Nat.le_of_ble_eq_true rfl, ?_⟩ | refine ⟨⟨by decide, by decide, by decide⟩, ?_⟩); (conv => whnf))))
    rw [kind_ref e]
    exact k
  · exact k
  · exact k
  · exact k
  · exact k
  · exact k
  · ((conv => whnf); (repeat ((first | refine ⟨(by show (0 : Int) < _; first | decide | omega), ?_⟩ | refine ⟨cmul_r (by decide) (by decide), ?_⟩ | refine ⟨cmul_l (by decide) (by decide), ?_⟩ | refine ⟨cmul_l (by omega) (by omega), ?_⟩ | refine ⟨cdiv_v (by omega) (by omega), ?_⟩ | refine ⟨cdiv_c (by decide) (by decide), ?_⟩ | refine ⟨(by decide), ?_⟩ | refine ⟨Nat.le_of_ble_eq_true rfl, ?_⟩ | refine ⟨⟨by decide, by decide, by decide⟩, ?_⟩); (conv => whnf))))
    rw [kind_ref e]
    exact k
end K27

set_option Elab.async false
set_option linter.all false
set_option maxRecDepth 100000
set_option maxHeartbeats 4000000
namespace K27
open PySem PySem.Spec PyProof.Rows L2 DT
theorem str_of_flow {d : D} (h : flowB d = true) : d = .str "public" ∨ d = .str "secret" := by
  unfold flowB at h
  split at h
  · rcases of_decide_eq_true h with rfl | rfl
    · exact .inl rfl
    · exact .inr rfl
  · cases h
theorem p_lreg {S : Sto} {d : D} {q : DK} (hd : It S d) (k : q (.bl (regB d)) S) : wp_law_is_region [d] S q := by
  rw [eq_law_is_region]
  rcases hd with ⟨ds, rfl, hf⟩ | ⟨n, es, rfl, e⟩ | rfl | ⟨b, rfl⟩ | ⟨i, rfl⟩ | ⟨s, rfl⟩ | rfl | ⟨n, rfl, e⟩
  · by_cases hl : ds.length = 4
    · obtain ⟨a, b, c, e, rfl⟩ := four hl
      have fa := hf a (by simp)
      have fb := hf b (by simp)
      have fc := hf c (by simp)
      have fe := hf e (by simp)
      have kk : q (.bl (numB 0 4095 a && (szB b a && (flowB c && numB 0 65535 e)))) S := k
      ((conv => whnf); (repeat ((first | refine ⟨(by show (0 : Int) < _; first | decide | omega), ?_⟩ | refine ⟨cmul_r (by decide) (by decide), ?_⟩ | refine ⟨cmul_l (by decide) (by decide), ?_⟩ | refine ⟨cmul_l (by omega) (by omega), ?_⟩ | refine ⟨cdiv_v (by omega) (by omega), ?_⟩ | refine ⟨cdiv_c (by decide) (by decide), ?_⟩ | refine ⟨(by decide), ?_⟩ | refine ⟨Nat.le_of_ble_eq_true rfl, ?_⟩ | refine ⟨⟨by decide, by decide, by decide⟩, ?_⟩); (conv => whnf))))
      refine p_num (h := 4095) (.inr (.inr fa)) ?_
      cases ha : numB 0 4095 a with
      | false =>
        rw [ha] at kk
        exact kk
      | true =>
        obtain ⟨s, rfl, _, _⟩ := numB_int ha
        rw [ha] at kk
        ((conv => whnf); (repeat ((first | refine ⟨(by show (0 : Int) < _; first | decide | omega), ?_⟩ | refine ⟨cmul_r (by decide) (by decide), ?_⟩ | refine ⟨cmul_l (by decide) (by decide), ?_⟩ | refine ⟨cmul_l (by omega) (by omega), ?_⟩ | refine ⟨cdiv_v (by omega) (by omega), ?_⟩ | refine ⟨cdiv_c (by decide) (by decide), ?_⟩ | refine ⟨(by decide), ?_⟩ | refine ⟨Nat.le_of_ble_eq_true rfl, ?_⟩ | refine ⟨⟨by decide, by decide, by decide⟩, ?_⟩); (conv => whnf))))
        refine p_num (.inr (.inr fb)) ?_
        cases hb : numB 1 (4096 - s) b with
        | false =>
          have kk : q (.bl (numB 1 (4096 - s) b && (flowB c && numB 0 65535 e))) S := kk
          rw [hb] at kk
          exact kk
        | true =>
          have kk : q (.bl (numB 1 (4096 - s) b && (flowB c && numB 0 65535 e))) S := kk
          rw [hb] at kk
          have kk : q (.bl (flowB c && numB 0 65535 e)) S := kk
          have no : flowB c = false → q (.bl false) S := fun h => by
            rw [h] at kk
            exact kk
          rcases fc with rfl | ⟨b, rfl⟩ | ⟨i, rfl⟩ | ⟨s, rfl⟩ | rfl | ⟨n, rfl, e⟩
          · exact no rfl
          · exact no rfl
          · exact no rfl
          · have fin : (s = "public" ∨ s = "secret") → q (.bl (numB 0 65535 e)) S := fun h => by
              have kk : q (.bl (decide (s = "public" ∨ s = "secret") && numB 0 65535 e)) S := kk
              rw [decide_eq_true h] at kk
              exact kk
            ((conv => whnf); (repeat ((first | refine ⟨(by show (0 : Int) < _; first | decide | omega), ?_⟩ | refine ⟨cmul_r (by decide) (by decide), ?_⟩ | refine ⟨cmul_l (by decide) (by decide), ?_⟩ | refine ⟨cmul_l (by omega) (by omega), ?_⟩ | refine ⟨cdiv_v (by omega) (by omega), ?_⟩ | refine ⟨cdiv_c (by decide) (by decide), ?_⟩ | refine ⟨(by decide), ?_⟩ | refine ⟨Nat.le_of_ble_eq_true rfl, ?_⟩ | refine ⟨⟨by decide, by decide, by decide⟩, ?_⟩); (conv => whnf))))
            first | refine bcase (fun z => ?_) (fun z => ?_) | refine bcase0 (fun z => ?_) (fun z => ?_) | refine bcase1 (fun z => ?_) (fun z => ?_)
            · ((conv => whnf); (repeat ((first | refine ⟨(by show (0 : Int) < _; first | decide | omega), ?_⟩ | refine ⟨cmul_r (by decide) (by decide), ?_⟩ | refine ⟨cmul_l (by decide) (by decide), ?_⟩ | refine ⟨cmul_l (by omega) (by omega), ?_⟩ | refine ⟨cdiv_v (by omega) (by omega), ?_⟩ | refine ⟨cdiv_c (by decide) (by decide), ?_⟩ | refine ⟨(by decide), ?_⟩ | refine ⟨Nat.le_of_ble_eq_true rfl, ?_⟩ | refine ⟨⟨by decide, by decide, by decide⟩, ?_⟩); (conv => whnf))))
              first | refine bcase (fun z2 => ?_) (fun z2 => ?_) | refine bcase0 (fun z2 => ?_) (fun z2 => ?_) | refine bcase1 (fun z2 => ?_) (fun z2 => ?_)
              · exact no (decide_eq_false fun y => y.elim z z2)
              · ((conv => whnf); (repeat ((first | refine ⟨(by show (0 : Int) < _; first | decide | omega), ?_⟩ | refine ⟨cmul_r (by decide) (by decide), ?_⟩ | refine ⟨cmul_l (by decide) (by decide), ?_⟩ | refine ⟨cmul_l (by omega) (by omega), ?_⟩ | refine ⟨cdiv_v (by omega) (by omega), ?_⟩ | refine ⟨cdiv_c (by decide) (by decide), ?_⟩ | refine ⟨(by decide), ?_⟩ | refine ⟨Nat.le_of_ble_eq_true rfl, ?_⟩ | refine ⟨⟨by decide, by decide, by decide⟩, ?_⟩); (conv => whnf))))
                exact p_num (.inr (.inr fe)) (fin (.inr z2))
            · ((conv => whnf); (repeat ((first | refine ⟨(by show (0 : Int) < _; first | decide | omega), ?_⟩ | refine ⟨cmul_r (by decide) (by decide), ?_⟩ | refine ⟨cmul_l (by decide) (by decide), ?_⟩ | refine ⟨cmul_l (by omega) (by omega), ?_⟩ | refine ⟨cdiv_v (by omega) (by omega), ?_⟩ | refine ⟨cdiv_c (by decide) (by decide), ?_⟩ | refine ⟨(by decide), ?_⟩ | refine ⟨Nat.le_of_ble_eq_true rfl, ?_⟩ | refine ⟨⟨by decide, by decide, by decide⟩, ?_⟩); (conv => whnf))))
              exact p_num (.inr (.inr fe)) (fin (.inl z))
          · exact no rfl
          · ((conv => whnf); (repeat ((first | refine ⟨(by show (0 : Int) < _; first | decide | omega), ?_⟩ | refine ⟨cmul_r (by decide) (by decide), ?_⟩ | refine ⟨cmul_l (by decide) (by decide), ?_⟩ | refine ⟨cmul_l (by omega) (by omega), ?_⟩ | refine ⟨cdiv_v (by omega) (by omega), ?_⟩ | refine ⟨cdiv_c (by decide) (by decide), ?_⟩ | refine ⟨(by decide), ?_⟩ | refine ⟨Nat.le_of_ble_eq_true rfl, ?_⟩ | refine ⟨⟨by decide, by decide, by decide⟩, ?_⟩); (conv => whnf))))
            rw [kind_ref e]
            exact no rfl
    · rw [regB_len hl] at k
      ((conv => whnf); (repeat ((first | refine ⟨(by show (0 : Int) < _; first | decide | omega), ?_⟩ | refine ⟨cmul_r (by decide) (by decide), ?_⟩ | refine ⟨cmul_l (by decide) (by decide), ?_⟩ | refine ⟨cmul_l (by omega) (by omega), ?_⟩ | refine ⟨cdiv_v (by omega) (by omega), ?_⟩ | refine ⟨cdiv_c (by decide) (by decide), ?_⟩ | refine ⟨(by decide), ?_⟩ | refine ⟨Nat.le_of_ble_eq_true rfl, ?_⟩ | refine ⟨⟨by decide, by decide, by decide⟩, ?_⟩); (conv => whnf))))
      refine bcase1 (fun _ => k) fun z => absurd z (by omega)
  · ((conv => whnf); (repeat ((first | refine ⟨(by show (0 : Int) < _; first | decide | omega), ?_⟩ | refine ⟨cmul_r (by decide) (by decide), ?_⟩ | refine ⟨cmul_l (by decide) (by decide), ?_⟩ | refine ⟨cmul_l (by omega) (by omega), ?_⟩ | refine ⟨cdiv_v (by omega) (by omega), ?_⟩ | refine ⟨cdiv_c (by decide) (by decide), ?_⟩ | refine ⟨(by decide), ?_⟩ | refine ⟨Nat.le_of_ble_eq_true rfl, ?_⟩ | refine ⟨⟨by decide, by decide, by decide⟩, ?_⟩); (conv => whnf))))
    rw [kind_ref e]
    exact k
  · exact k
  · exact k
  · exact k
  · exact k
  · exact k
  · ((conv => whnf); (repeat ((first | refine ⟨(by show (0 : Int) < _; first | decide | omega), ?_⟩ | refine ⟨cmul_r (by decide) (by decide), ?_⟩ | refine ⟨cmul_l (by decide) (by decide), ?_⟩ | refine ⟨cmul_l (by omega) (by omega), ?_⟩ | refine ⟨cdiv_v (by omega) (by omega), ?_⟩ | refine ⟨cdiv_c (by decide) (by decide), ?_⟩ | refine ⟨(by decide), ?_⟩ | refine ⟨Nat.le_of_ble_eq_true rfl, ?_⟩ | refine ⟨⟨by decide, by decide, by decide⟩, ?_⟩); (conv => whnf))))
    rw [kind_ref e]
    exact k
/-! ### layouts -/
def vR (g : Rg) : Prop := 0 ≤ g.start ∧ 1 ≤ g.size ∧ g.start + g.size ≤ 4096 ∧ 0 ≤ g.most ∧ g.most ≤ 65535
theorem regB_reg {d : D} (h : regB d = true) : ∃ g, d = dRg g ∧ vR g := by
  unfold regB at h
  split at h
  · rename_i a b c e
    rw [Bool.and_eq_true, Bool.and_eq_true, Bool.and_eq_true] at h
    obtain ⟨h1, h2, h3, h4⟩ := h
    obtain ⟨s, rfl, s0, s1⟩ := numB_int h1
    obtain ⟨z, rfl, z0, z1⟩ := numB_int (h := 4096 - s) h2
    obtain ⟨m, rfl, m0, m1⟩ := numB_int h4
    rcases str_of_flow h3 with rfl | rfl
    · exact ⟨⟨s, z, false, m⟩, rfl, s0, z0, by show s + z ≤ 4096; omega, m0, m1⟩
    · exact ⟨⟨s, z, true, m⟩, rfl, s0, z0, by show s + z ≤ 4096; omega, m0, m1⟩
  · cases h
theorem reg_regB {g : Rg} (h : vR g) : regB (dRg g) = true := by
  obtain ⟨h0, h1, h2, h3, h4⟩ := h
  show (decide (0 ≤ g.start ∧ g.start ≤ 4095) && (decide (1 ≤ g.size ∧ g.size ≤ 4096 - g.start) && (decide (fl g.sec = "public" ∨ fl g.sec = "secret") && decide (0 ≤ g.most ∧ g.most ≤ 65535)))) = true
  have hf : fl g.sec = "public" ∨ fl g.sec = "secret" := by
    cases g.sec
    · exact .inl rfl
    · exact .inr rfl
  rw [decide_eq_true (show 0 ≤ g.start ∧ g.start ≤ 4095 from ⟨h0, by omega⟩), decide_eq_true (show 1 ≤ g.size ∧ g.size ≤ 4096 - g.start from ⟨h1, by omega⟩), decide_eq_true (show 0 ≤ g.most ∧ g.most ≤ 65535 from ⟨h3, h4⟩), decide_eq_true hf]
  rfl
/-- the items up to i are regions in their order, the last of them ends at e -/
structure Ups (l : List D) (i : Nat) (gs : List Rg) : Prop where
  at_ : l.take i = gs.map dRg
  vr : ∀ g ∈ gs, vR g
  adj : ∀ (j : Nat) g h, gs[j]? = some g → gs[j + 1]? = some h → g.start + g.size ≤ h.start
def isLay (l : List D) : Prop := l.length ≤ 256 ∧ ∃ gs, Ups l l.length gs
def endG : List Rg → Int
  | [] => 0
  | g :: gs => match gs.getLast? with
    | none => g.start + g.size
    | some h => h.start + h.size
def lastE (gs : List Rg) : Int := match gs.getLast? with
  | none => 0
  | some h => h.start + h.size
theorem Ups.len {l : List D} {i : Nat} {gs : List Rg} (u : Ups l i gs) (h : i ≤ l.length) : gs.length = i := by
  have := congrArg List.length u.at_
  rw [List.length_take, List.length_map] at this
  omega
theorem Ups.nil {l : List D} : Ups l 0 [] := ⟨rfl, fun g h => (by cases h), fun j g h e => (by cases e)⟩
theorem Ups.add {l : List D} {i : Nat} {gs : List Rg} {g : Rg} (u : Ups l i gs) (hi : l[i]? = some (dRg g)) (v : vR g) (ha : lastE gs ≤ g.start) : Ups l (i + 1) (gs ++ [g]) := by
  have hl := (List.getElem?_eq_some_iff.mp hi).1
  have ul := u.len (by omega)
  refine ⟨by rw [List.take_add_one, hi, u.at_, List.map_append]; rfl, fun g' h => ?_, fun j x y h1 h2 => ?_⟩
  · rcases List.mem_append.mp h with z | z
    · exact u.vr g' z
    · rw [List.mem_singleton.mp z]
      exact v
  · have hj := (List.getElem?_eq_some_iff.mp h2).1
    rw [List.length_append] at hj
    have hj : j + 1 < gs.length + 1 := hj
    rw [List.getElem?_append_left (by omega)] at h1
    by_cases z : j + 1 < gs.length
    · rw [List.getElem?_append_left z] at h2
      exact u.adj j x y h1 h2
    · rw [List.getElem?_append_right (by omega), show j + 1 - gs.length = 0 by omega] at h2
      cases h2
      unfold lastE at ha
      rw [List.getLast?_eq_getElem?, show gs.length - 1 = j by omega, h1] at ha
      exact ha
theorem Ups.pre {l : List D} {gs : List Rg} (u : Ups l l.length gs) {i : Nat} (h : i ≤ l.length) : Ups l i (gs.take i) := by
  have ul := u.len (Nat.le_refl _)
  have e := u.at_
  rw [List.take_length] at e
  refine ⟨by rw [e, List.map_take], fun g hg => u.vr g (List.mem_of_mem_take hg), fun j x y h1 h2 => ?_⟩
  rw [List.getElem?_take] at h1 h2
  split at h1
  · split at h2
    · exact u.adj j x y h1 h2
    · cases h2
  · cases h1
theorem dRg_inj {g h : Rg} (e : dRg g = dRg h) : g = h := by
  obtain ⟨a, b, c, d⟩ := g
  obtain ⟨a', b', c', d'⟩ := h
  unfold dRg at e
  simp only [D.tup.injEq, List.cons.injEq, D.int.injEq, D.str.injEq, and_true] at e
  obtain ⟨rfl, rfl, e, rfl⟩ := e
  have : c = c' := by
    cases c <;> cases c' <;> first | rfl | exact absurd e (by decide)
  rw [this]
theorem map_inj {l m : List Rg} (e : l.map dRg = m.map dRg) : l = m := by
  induction l generalizing m with
  | nil => cases m with
    | nil => rfl
    | cons y ys => cases e
  | cons x xs ih => cases m with
    | nil => cases e
    | cons y ys =>
      rw [List.map_cons, List.map_cons, List.cons.injEq] at e
      rw [dRg_inj e.1, ih e.2]
theorem Ups.uni {l : List D} {i : Nat} {gs hs : List Rg} (u : Ups l i gs) (v : Ups l i hs) : gs = hs := map_inj (u.at_.symm.trans v.at_)
/-- what a layout asks of the item at i -/
theorem Ups.item {l : List D} {gs : List Rg} (u : Ups l l.length gs) {i : Nat} {d : D} (hd : l[i]? = some d) : ∃ g, d = dRg g ∧ gs[i]? = some g ∧ vR g ∧ lastE (gs.take i) ≤ g.start := by
  have ul := u.len (Nat.le_refl _)
  have e := u.at_
  rw [List.take_length] at e
  rw [e, List.getElem?_map] at hd
  obtain ⟨g, hg, rfl⟩ := Option.map_eq_some_iff.mp hd
  have hi := (List.getElem?_eq_some_iff.mp hg).1
  have vg := u.vr g (List.mem_of_getElem? hg)
  refine ⟨g, rfl, hg, vg, ?_⟩
  unfold lastE
  rw [List.getLast?_eq_getElem?, List.length_take, show min i gs.length = i by omega, List.getElem?_take]
  split
  · exact vg.1
  · rename_i h hh
    split at hh
    · exact u.adj (i - 1) h g hh (by rw [show i - 1 + 1 = i by omega]; exact hg)
    · cases hh
theorem lastE_snoc (gs : List Rg) (g : Rg) : lastE (gs ++ [g]) = g.start + g.size := by
  unfold lastE
  rw [List.getLast?_append]
  rfl
theorem p_is_layout {S : Sto} {l : List D} {q : DK} (hd : ∀ d ∈ l, It S d) (kt : isLay l → q (.bl true) S) (kf : ¬ isLay l → q (.bl false) S) : wp_is_layout [.tup l] S q := by
  rw [eq_is_layout]
  ((conv => whnf); (repeat ((first | refine ⟨(by show (0 : Int) < _; first | decide | omega), ?_⟩ | refine ⟨cmul_r (by decide) (by decide), ?_⟩ | refine ⟨cmul_l (by decide) (by decide), ?_⟩ | refine ⟨cmul_l (by omega) (by omega), ?_⟩ | refine ⟨cdiv_v (by omega) (by omega), ?_⟩ | refine ⟨cdiv_c (by decide) (by decide), ?_⟩ | refine ⟨(by decide), ?_⟩ | refine ⟨Nat.le_of_ble_eq_true rfl, ?_⟩ | refine ⟨⟨by decide, by decide, by decide⟩, ?_⟩); (conv => whnf))))
  first | refine bcase (fun c => ?_) (fun c => ?_) | refine bcase0 (fun c => ?_) (fun c => ?_) | refine bcase1 (fun c => ?_) (fun c => ?_)
  · exact kf fun z => by have := z.1; omega
  · ((conv => whnf); (repeat ((first | refine ⟨(by show (0 : Int) < _; first | decide | omega), ?_⟩ | refine ⟨cmul_r (by decide) (by decide), ?_⟩ | refine ⟨cmul_l (by decide) (by decide), ?_⟩ | refine ⟨cmul_l (by omega) (by omega), ?_⟩ | refine ⟨cdiv_v (by omega) (by omega), ?_⟩ | refine ⟨cdiv_c (by decide) (by decide), ?_⟩ | refine ⟨(by decide), ?_⟩ | refine ⟨Nat.le_of_ble_eq_true rfl, ?_⟩ | refine ⟨⟨by decide, by decide, by decide⟩, ?_⟩); (conv => whnf))))
    refine ⟨fun i ρ S' => ∃ gs v2, ρ = [some (.tup l), some (.int (lastE gs)), v2] ∧ S' = S ∧ Ups l i gs, ⟨[], none, rfl, rfl, .nil⟩, fun _ _ _ _ _ => trivial, ?_, ?_⟩
    · rintro i d ρ S' hi ⟨gs, v2, rfl, rfl, u⟩
      have il := (List.getElem?_eq_some_iff.mp hi).1
      ((conv => whnf); (repeat ((first | refine ⟨(by show (0 : Int) < _; first | decide | omega), ?_⟩ | refine ⟨cmul_r (by decide) (by decide), ?_⟩ | refine ⟨cmul_l (by decide) (by decide), ?_⟩ | refine ⟨cmul_l (by omega) (by omega), ?_⟩ | refine ⟨cdiv_v (by omega) (by omega), ?_⟩ | refine ⟨cdiv_c (by decide) (by decide), ?_⟩ | refine ⟨(by decide), ?_⟩ | refine ⟨Nat.le_of_ble_eq_true rfl, ?_⟩ | refine ⟨⟨by decide, by decide, by decide⟩, ?_⟩); (conv => whnf))))
      refine p_is_region (hd d (List.mem_of_getElem? hi)) ?_
      cases hr : regB d with
      | false =>
        refine kf fun z => ?_
        obtain ⟨gs', u'⟩ := z.2
        obtain ⟨g, rfl, _, v, _⟩ := u'.item hi
        rw [reg_regB v] at hr
        cases hr
      | true =>
        obtain ⟨g, rfl, v⟩ := regB_reg hr
        ((conv => whnf); (repeat ((first | refine ⟨(by show (0 : Int) < _; first | decide | omega), ?_⟩ | refine ⟨cmul_r (by decide) (by decide), ?_⟩ | refine ⟨cmul_l (by decide) (by decide), ?_⟩ | refine ⟨cmul_l (by omega) (by omega), ?_⟩ | refine ⟨cdiv_v (by omega) (by omega), ?_⟩ | refine ⟨cdiv_c (by decide) (by decide), ?_⟩ | refine ⟨(by decide), ?_⟩ | refine ⟨Nat.le_of_ble_eq_true rfl, ?_⟩ | refine ⟨⟨by decide, by decide, by decide⟩, ?_⟩); (conv => whnf))))
        first | refine bcase (fun z => ?_) (fun z => ?_) | refine bcase0 (fun z => ?_) (fun z => ?_) | refine bcase1 (fun z => ?_) (fun z => ?_)
        · refine kf fun y => ?_
          obtain ⟨gs', u'⟩ := y.2
          obtain ⟨g', e, _, _, le⟩ := u'.item hi
          cases dRg_inj e
          rw [u.uni (u'.pre (by omega))] at z
          have z : g.start < lastE (gs'.take i) := z
          omega
        · ((conv => whnf); (repeat ((first | refine ⟨(by show (0 : Int) < _; first | decide | omega), ?_⟩ | refine ⟨cmul_r (by decide) (by decide), ?_⟩ | refine ⟨cmul_l (by decide) (by decide), ?_⟩ | refine ⟨cmul_l (by omega) (by omega), ?_⟩ | refine ⟨cdiv_v (by omega) (by omega), ?_⟩ | refine ⟨cdiv_c (by decide) (by decide), ?_⟩ | refine ⟨(by decide), ?_⟩ | refine ⟨Nat.le_of_ble_eq_true rfl, ?_⟩ | refine ⟨⟨by decide, by decide, by decide⟩, ?_⟩); (conv => whnf))))
          refine p_region_end ?_
          ((conv => whnf); (repeat ((first | refine ⟨(by show (0 : Int) < _; first | decide | omega), ?_⟩ | refine ⟨cmul_r (by decide) (by decide), ?_⟩ | refine ⟨cmul_l (by decide) (by decide), ?_⟩ | refine ⟨cmul_l (by omega) (by omega), ?_⟩ | refine ⟨cdiv_v (by omega) (by omega), ?_⟩ | refine ⟨cdiv_c (by decide) (by decide), ?_⟩ | refine ⟨(by decide), ?_⟩ | refine ⟨Nat.le_of_ble_eq_true rfl, ?_⟩ | refine ⟨⟨by decide, by decide, by decide⟩, ?_⟩); (conv => whnf))))
          exact ⟨gs ++ [g], _, by rw [lastE_snoc], rfl, u.add hi v (by have z : ¬ g.start < lastE gs := z; omega)⟩
    · rintro ρ S' ⟨gs, v2, rfl, rfl, u⟩
      exact kt ⟨by omega, gs, u⟩
theorem p_law_is_layout {S : Sto} {l : List D} {q : DK} (hd : ∀ d ∈ l, It S d) (kt : isLay l → q (.bl true) S) (kf : ¬ isLay l → q (.bl false) S) : wp_law_is_layout [.tup l] S q := by
  rw [eq_law_is_layout]
  ((conv => whnf); (repeat ((first | refine ⟨(by show (0 : Int) < _; first | decide | omega), ?_⟩ | refine ⟨cmul_r (by decide) (by decide), ?_⟩ | refine ⟨cmul_l (by decide) (by decide), ?_⟩ | refine ⟨cmul_l (by omega) (by omega), ?_⟩ | refine ⟨cdiv_v (by omega) (by omega), ?_⟩ | refine ⟨cdiv_c (by decide) (by decide), ?_⟩ | refine ⟨(by decide), ?_⟩ | refine ⟨Nat.le_of_ble_eq_true rfl, ?_⟩ | refine ⟨⟨by decide, by decide, by decide⟩, ?_⟩); (conv => whnf))))
  first | refine bcase (fun c => ?_) (fun c => ?_) | refine bcase0 (fun c => ?_) (fun c => ?_) | refine bcase1 (fun c => ?_) (fun c => ?_)
  · exact kf fun z => by have := z.1; omega
  · ((conv => whnf); (repeat ((first | refine ⟨(by show (0 : Int) < _; first | decide | omega), ?_⟩ | refine ⟨cmul_r (by decide) (by decide), ?_⟩ | refine ⟨cmul_l (by decide) (by decide), ?_⟩ | refine ⟨cmul_l (by omega) (by omega), ?_⟩ | refine ⟨cdiv_v (by omega) (by omega), ?_⟩ | refine ⟨cdiv_c (by decide) (by decide), ?_⟩ | refine ⟨(by decide), ?_⟩ | refine ⟨Nat.le_of_ble_eq_true rfl, ?_⟩ | refine ⟨⟨by decide, by decide, by decide⟩, ?_⟩); (conv => whnf))))
    refine ⟨fun i ρ S' => ∃ v1, ρ = [some (.tup l), v1, none] ∧ S' = S ∧ ∀ (j : Nat) d, j < i → l[j]? = some d → regB d = true, ⟨none, rfl, rfl, fun j d h => absurd h (Nat.not_lt_zero _)⟩, fun _ _ _ _ _ => trivial, ?_, ?_⟩
    · rintro i d ρ S' hi ⟨v1, rfl, rfl, u⟩
      ((conv => whnf); (repeat ((first | refine ⟨(by show (0 : Int) < _; first | decide | omega), ?_⟩ | refine ⟨cmul_r (by decide) (by decide), ?_⟩ | refine ⟨cmul_l (by decide) (by decide), ?_⟩ | refine ⟨cmul_l (by omega) (by omega), ?_⟩ | refine ⟨cdiv_v (by omega) (by omega), ?_⟩ | refine ⟨cdiv_c (by decide) (by decide), ?_⟩ | refine ⟨(by decide), ?_⟩ | refine ⟨Nat.le_of_ble_eq_true rfl, ?_⟩ | refine ⟨⟨by decide, by decide, by decide⟩, ?_⟩); (conv => whnf))))
      refine p_lreg (hd d (List.mem_of_getElem? hi)) ?_
      cases hr : regB d with
      | false =>
        refine kf fun z => ?_
        obtain ⟨gs', u'⟩ := z.2
        obtain ⟨g, rfl, _, v, _⟩ := u'.item hi
        rw [reg_regB v] at hr
        cases hr
      | true =>
        refine ⟨_, rfl, rfl, fun j d' hj hd' => ?_⟩
        by_cases z : j = i
        · subst z
          rw [hi] at hd'
          cases hd'
          exact hr
        · exact u j d' (by omega) hd'
    rintro ρ S' ⟨v1, rfl, rfl, u⟩
    ((conv => whnf); (repeat ((first | refine ⟨(by show (0 : Int) < _; first | decide | omega), ?_⟩ | refine ⟨cmul_r (by decide) (by decide), ?_⟩ | refine ⟨cmul_l (by decide) (by decide), ?_⟩ | refine ⟨cmul_l (by omega) (by omega), ?_⟩ | refine ⟨cdiv_v (by omega) (by omega), ?_⟩ | refine ⟨cdiv_c (by decide) (by decide), ?_⟩ | refine ⟨(by decide), ?_⟩ | refine ⟨Nat.le_of_ble_eq_true rfl, ?_⟩ | refine ⟨⟨by decide, by decide, by decide⟩, ?_⟩); (conv => whnf))))
    refine ⟨⟨by omega, by omega⟩, ?_⟩
    have hn : ((l.length : Int)).toNat = l.length := by omega
    refine ⟨fun i ρ T => ∃ gs v2, ρ = [some (.tup l), v1, v2] ∧ T = S' ∧ Ups l i gs, ⟨[], none, rfl, rfl, .nil⟩, fun _ _ _ _ _ => trivial, ?_, ?_⟩
    · rintro i x ρ S'' hx ⟨gs, v2, rfl, rfl, us⟩
      have hi : i < l.length := by
        have := (List.getElem?_eq_some_iff.mp hx).1
        rw [rngD_len, hn] at this
        exact this
      rw [rngD_at (by omega), Int.zero_add] at hx
      cases hx
      have hd := List.getElem?_eq_getElem hi
      generalize l[i] = d at hd
      obtain ⟨g, rfl, v⟩ := regB_reg (u i d hi hd)
      ((conv => whnf); (repeat ((first | refine ⟨(by show (0 : Int) < _; first | decide | omega), ?_⟩ | refine ⟨cmul_r (by decide) (by decide), ?_⟩ | refine ⟨cmul_l (by decide) (by decide), ?_⟩ | refine ⟨cmul_l (by omega) (by omega), ?_⟩ | refine ⟨cdiv_v (by omega) (by omega), ?_⟩ | refine ⟨cdiv_c (by decide) (by decide), ?_⟩ | refine ⟨(by decide), ?_⟩ | refine ⟨Nat.le_of_ble_eq_true rfl, ?_⟩ | refine ⟨⟨by decide, by decide, by decide⟩, ?_⟩); (conv => whnf))))
      first | refine bcase (fun z => ?_) (fun z => ?_) | refine bcase0 (fun z => ?_) (fun z => ?_) | refine bcase1 (fun z => ?_) (fun z => ?_)
      · have z : 0 < (i : Int) := z
        have hp : i - 1 < gs.length := by rw [us.len (by omega)]; omega
        have hg := List.getElem?_eq_getElem hp
        generalize gs[i - 1] = g' at hg
        have hd' : l[i - 1]? = some (dRg g') := by
          have e : (l.take i)[i - 1]? = (gs.map dRg)[i - 1]? := by rw [us.at_]
          rw [List.getElem?_take, if_pos (by omega), List.getElem?_map, hg] at e
          exact e
        have le : lastE gs = g'.start + g'.size := by
          unfold lastE
          rw [List.getLast?_eq_getElem?, us.len (by omega), hg]
        have em : (i : Int) - 1 = ((i - 1 : Nat) : Int) := by omega
        ((conv => whnf); (repeat ((first | refine ⟨(by show (0 : Int) < _; first | decide | omega), ?_⟩ | refine ⟨cmul_r (by decide) (by decide), ?_⟩ | refine ⟨cmul_l (by decide) (by decide), ?_⟩ | refine ⟨cmul_l (by omega) (by omega), ?_⟩ | refine ⟨cdiv_v (by omega) (by omega), ?_⟩ | refine ⟨cdiv_c (by decide) (by decide), ?_⟩ | refine ⟨(by decide), ?_⟩ | refine ⟨Nat.le_of_ble_eq_true rfl, ?_⟩ | refine ⟨⟨by decide, by decide, by decide⟩, ?_⟩); (conv => whnf))))
        rw [atI_cast hd]
        ((conv => whnf); (repeat ((first | refine ⟨(by show (0 : Int) < _; first | decide | omega), ?_⟩ | refine ⟨cmul_r (by decide) (by decide), ?_⟩ | refine ⟨cmul_l (by decide) (by decide), ?_⟩ | refine ⟨cmul_l (by omega) (by omega), ?_⟩ | refine ⟨cdiv_v (by omega) (by omega), ?_⟩ | refine ⟨cdiv_c (by decide) (by decide), ?_⟩ | refine ⟨(by decide), ?_⟩ | refine ⟨Nat.le_of_ble_eq_true rfl, ?_⟩ | refine ⟨⟨by decide, by decide, by decide⟩, ?_⟩); (conv => whnf))))
        rw [em, atI_cast hd']
        ((conv => whnf); (repeat ((first | refine ⟨(by show (0 : Int) < _; first | decide | omega), ?_⟩ | refine ⟨cmul_r (by decide) (by decide), ?_⟩ | refine ⟨cmul_l (by decide) (by decide), ?_⟩ | refine ⟨cmul_l (by omega) (by omega), ?_⟩ | refine ⟨cdiv_v (by omega) (by omega), ?_⟩ | refine ⟨cdiv_c (by decide) (by decide), ?_⟩ | refine ⟨(by decide), ?_⟩ | refine ⟨Nat.le_of_ble_eq_true rfl, ?_⟩ | refine ⟨⟨by decide, by decide, by decide⟩, ?_⟩); (conv => whnf))))
        rw [em, atI_cast hd']
        ((conv => whnf); (repeat ((first | refine ⟨(by show (0 : Int) < _; first | decide | omega), ?_⟩ | refine ⟨cmul_r (by decide) (by decide), ?_⟩ | refine ⟨cmul_l (by decide) (by decide), ?_⟩ | refine ⟨cmul_l (by omega) (by omega), ?_⟩ | refine ⟨cdiv_v (by omega) (by omega), ?_⟩ | refine ⟨cdiv_c (by decide) (by decide), ?_⟩ | refine ⟨(by decide), ?_⟩ | refine ⟨Nat.le_of_ble_eq_true rfl, ?_⟩ | refine ⟨⟨by decide, by decide, by decide⟩, ?_⟩); (conv => whnf))))
        first | refine bcase (fun y => ?_) (fun y => ?_) | refine bcase0 (fun y => ?_) (fun y => ?_) | refine bcase1 (fun y => ?_) (fun y => ?_)
        · refine kf fun y2 => ?_
          obtain ⟨gs', u'⟩ := y2.2
          obtain ⟨g2, e, _, _, le2⟩ := u'.item hd
          cases dRg_inj e
          rw [us.uni (u'.pre (by omega))] at le
          have y : g.start < g'.start + g'.size := y
          omega
        · exact ⟨gs ++ [g], _, rfl, rfl, us.add hd v (by have y : ¬ g.start < g'.start + g'.size := y; omega)⟩
      · have z : ¬ 0 < (i : Int) := z
        have : i = 0 := by omega
        subst this
        have hz : gs = [] := List.eq_nil_of_length_eq_zero (us.len (by omega))
        subst hz
        exact ⟨[] ++ [g], _, rfl, rfl, us.add hd v v.1⟩
    · rintro ρ S'' ⟨gs, v2, rfl, rfl, us⟩
      rw [rngD_len, hn] at us
      exact kt ⟨by omega, gs, us⟩
end K27

set_option Elab.async false
set_option linter.all false
set_option maxRecDepth 100000
set_option maxHeartbeats 4000000
namespace K27
open PySem PySem.Spec PyProof.Rows L2 DT
def haltD : D := .tup [.tup [.str "halt"]]
theorem p_halt {S : Sto} {q : DK} (k : q (.bl true) S) : wp_is_instruction [.tup [.str "halt"]] S q := by
  rw [eq_is_instruction]
  ((conv => whnf); (repeat ((first | refine ⟨(by show (0 : Int) < _; first | decide | omega), ?_⟩ | refine ⟨cmul_r (by decide) (by decide), ?_⟩ | refine ⟨cmul_l (by decide) (by decide), ?_⟩ | refine ⟨cmul_l (by omega) (by omega), ?_⟩ | refine ⟨cdiv_v (by omega) (by omega), ?_⟩ | refine ⟨cdiv_c (by decide) (by decide), ?_⟩ | refine ⟨(by decide), ?_⟩ | refine ⟨Nat.le_of_ble_eq_true rfl, ?_⟩ | refine ⟨⟨by decide, by decide, by decide⟩, ?_⟩); (conv => whnf))))
  refine ⟨fun i S' => S' = S, rfl, fun _ S' _ h => by rw [h]; exact ⟨rfl, rfl⟩, ?_, ?_⟩
  · intro i x S' hx
    exfalso
    have hx : ([] : List D)[i]? = some x := hx
    cases hx
  · rintro S' rfl
    exact k
theorem p_is_code {S : Sto} {q : DK} (k : q (.bl true) S) : wp_is_code [haltD] S q := by
  rw [eq_is_code]
  ((conv => whnf); (repeat ((first | refine ⟨(by show (0 : Int) < _; first | decide | omega), ?_⟩ | refine ⟨cmul_r (by decide) (by decide), ?_⟩ | refine ⟨cmul_l (by decide) (by decide), ?_⟩ | refine ⟨cmul_l (by omega) (by omega), ?_⟩ | refine ⟨cdiv_v (by omega) (by omega), ?_⟩ | refine ⟨cdiv_c (by decide) (by decide), ?_⟩ | refine ⟨(by decide), ?_⟩ | refine ⟨Nat.le_of_ble_eq_true rfl, ?_⟩ | refine ⟨⟨by decide, by decide, by decide⟩, ?_⟩); (conv => whnf))))
  refine ⟨fun i S' => S' = S, rfl, fun _ S' _ h => trivial, ?_, ?_⟩
  · rintro i x S' hx rfl
    have hx : ([.tup [.str "halt"]] : List D)[i]? = some x := hx
    cases i with
    | zero =>
      cases hx
      ((conv => whnf); (repeat ((first | refine ⟨(by show (0 : Int) < _; first | decide | omega), ?_⟩ | refine ⟨cmul_r (by decide) (by decide), ?_⟩ | refine ⟨cmul_l (by decide) (by decide), ?_⟩ | refine ⟨cmul_l (by omega) (by omega), ?_⟩ | refine ⟨cdiv_v (by omega) (by omega), ?_⟩ | refine ⟨cdiv_c (by decide) (by decide), ?_⟩ | refine ⟨(by decide), ?_⟩ | refine ⟨Nat.le_of_ble_eq_true rfl, ?_⟩ | refine ⟨⟨by decide, by decide, by decide⟩, ?_⟩); (conv => whnf))))
      exact p_halt rfl
    | succ i => cases hx
  · rintro S' rfl
    exact k
theorem p_ans {b c : Bool} {S : Sto} {q : DK} (k : q (.bl (decide (b = c))) S) : wp_law_answers [.bl b, .bl c] S q := by
  rw [eq_law_answers]
  ((conv => whnf); (repeat ((first | refine ⟨(by show (0 : Int) < _; first | decide | omega), ?_⟩ | refine ⟨cmul_r (by decide) (by decide), ?_⟩ | refine ⟨cmul_l (by decide) (by decide), ?_⟩ | refine ⟨cmul_l (by omega) (by omega), ?_⟩ | refine ⟨cdiv_v (by omega) (by omega), ?_⟩ | refine ⟨cdiv_c (by decide) (by decide), ?_⟩ | refine ⟨(by decide), ?_⟩ | refine ⟨Nat.le_of_ble_eq_true rfl, ?_⟩ | refine ⟨⟨by decide, by decide, by decide⟩, ?_⟩); (conv => whnf))))
  rw [Bool.false_xor]
  exact k
theorem p_file {S : Sto} {l : List D} {q : DK} (hd : ∀ d ∈ l, It S d) (kt : isLay l → q (.bl true) S) (kf : ¬ isLay l → q (.bl false) S) : wp_is_code_file [.tup [.tup l, haltD]] S q := by
  rw [eq_is_code_file]
  ((conv => whnf); (repeat ((first | refine ⟨(by show (0 : Int) < _; first | decide | omega), ?_⟩ | refine ⟨cmul_r (by decide) (by decide), ?_⟩ | refine ⟨cmul_l (by decide) (by decide), ?_⟩ | refine ⟨cmul_l (by omega) (by omega), ?_⟩ | refine ⟨cdiv_v (by omega) (by omega), ?_⟩ | refine ⟨cdiv_c (by decide) (by decide), ?_⟩ | refine ⟨(by decide), ?_⟩ | refine ⟨Nat.le_of_ble_eq_true rfl, ?_⟩ | refine ⟨⟨by decide, by decide, by decide⟩, ?_⟩); (conv => whnf))))
  refine p_is_layout hd (fun h => ?_) fun h => ?_
  · ((conv => whnf); (repeat ((first | refine ⟨(by show (0 : Int) < _; first | decide | omega), ?_⟩ | refine ⟨cmul_r (by decide) (by decide), ?_⟩ | refine ⟨cmul_l (by decide) (by decide), ?_⟩ | refine ⟨cmul_l (by omega) (by omega), ?_⟩ | refine ⟨cdiv_v (by omega) (by omega), ?_⟩ | refine ⟨cdiv_c (by decide) (by decide), ?_⟩ | refine ⟨(by decide), ?_⟩ | refine ⟨Nat.le_of_ble_eq_true rfl, ?_⟩ | refine ⟨⟨by decide, by decide, by decide⟩, ?_⟩); (conv => whnf))))
    exact p_is_code (kt h)
  · exact kf h
theorem p_list_lay {S : Sto} {n : Nat} {es : List D} {q : DK} (e : S[n]? = some (.lst es)) (k : q (.bl false) S) : wp_is_layout [.ref n] S q := by
  rw [eq_is_layout]
  ((conv => whnf); (repeat ((first | refine ⟨(by show (0 : Int) < _; first | decide | omega), ?_⟩ | refine ⟨cmul_r (by decide) (by decide), ?_⟩ | refine ⟨cmul_l (by decide) (by decide), ?_⟩ | refine ⟨cmul_l (by omega) (by omega), ?_⟩ | refine ⟨cdiv_v (by omega) (by omega), ?_⟩ | refine ⟨cdiv_c (by decide) (by decide), ?_⟩ | refine ⟨(by decide), ?_⟩ | refine ⟨Nat.le_of_ble_eq_true rfl, ?_⟩ | refine ⟨⟨by decide, by decide, by decide⟩, ?_⟩); (conv => whnf))))
  rw [kind_ref e]
  exact k
theorem p_list_llay {S : Sto} {n : Nat} {es : List D} {q : DK} (e : S[n]? = some (.lst es)) (k : q (.bl false) S) : wp_law_is_layout [.ref n] S q := by
  rw [eq_law_is_layout]
  ((conv => whnf); (repeat ((first | refine ⟨(by show (0 : Int) < _; first | decide | omega), ?_⟩ | refine ⟨cmul_r (by decide) (by decide), ?_⟩ | refine ⟨cmul_l (by decide) (by decide), ?_⟩ | refine ⟨cmul_l (by omega) (by omega), ?_⟩ | refine ⟨cdiv_v (by omega) (by omega), ?_⟩ | refine ⟨cdiv_c (by decide) (by decide), ?_⟩ | refine ⟨(by decide), ?_⟩ | refine ⟨Nat.le_of_ble_eq_true rfl, ?_⟩ | refine ⟨⟨by decide, by decide, by decide⟩, ?_⟩); (conv => whnf))))
  rw [kind_ref e]
  exact k
theorem p_list_file {S : Sto} {n : Nat} {es : List D} {q : DK} (e : S[n]? = some (.lst es)) (k : q (.bl false) S) : wp_is_code_file [.tup [.ref n, haltD]] S q := by
  rw [eq_is_code_file]
  ((conv => whnf); (repeat ((first | refine ⟨(by show (0 : Int) < _; first | decide | omega), ?_⟩ | refine ⟨cmul_r (by decide) (by decide), ?_⟩ | refine ⟨cmul_l (by decide) (by decide), ?_⟩ | refine ⟨cmul_l (by omega) (by omega), ?_⟩ | refine ⟨cdiv_v (by omega) (by omega), ?_⟩ | refine ⟨cdiv_c (by decide) (by decide), ?_⟩ | refine ⟨(by decide), ?_⟩ | refine ⟨Nat.le_of_ble_eq_true rfl, ?_⟩ | refine ⟨⟨by decide, by decide, by decide⟩, ?_⟩); (conv => whnf))))
  exact p_list_lay e k
/-! ### the law's layouts -/
/-- rows that are a layout but, may be, for their number -/
def Rows (l : List D) (gs : List Rg) : Prop := Ups l l.length gs
theorem rows_add {l : List D} {gs : List Rg} {g : Rg} (u : Rows l gs) (v : vR g) (ha : lastE gs ≤ g.start) : Rows (l ++ [dRg g]) (gs ++ [g]) := by
  have e := u.at_
  rw [List.take_length] at e
  have u2 : Ups (l ++ [dRg g]) l.length gs := ⟨by rw [List.take_append_of_le_length (Nat.le_refl _), List.take_length, e], u.vr, u.adj⟩
  have := u2.add (List.getElem?_concat_length ..) v ha
  unfold Rows
  rw [List.length_append]
  exact this
theorem ix_flow {j : Int} {A : D → Prop} (h0 : 0 ≤ j) (h1 : j < 2) (k : ∀ b, A (.str (fl b))) : @Option.rec D (fun _ => Prop) False A (atI [.str "public", .str "secret"] j) := by
  refine ix_all (fun d => ∃ b, d = .str (fl b)) ?_ h0 h1 ?_
  · intro d hd
    simp only [List.mem_cons, List.not_mem_nil, or_false] at hd
    rcases hd with rfl | rfl
    · exact ⟨false, rfl⟩
    · exact ⟨true, rfl⟩
  · rintro _ ⟨b, rfl⟩
    exact k b
theorem ix_int (lo hi : Int) {L : List D} {j : Int} {A : D → Prop} (h : ∀ d ∈ L, ∃ i, d = .int i ∧ lo ≤ i ∧ i ≤ hi) (h0 : 0 ≤ j) (h1 : j < L.length) (k : ∀ i, lo ≤ i → i ≤ hi → A (.int i)) : @Option.rec D (fun _ => Prop) False A (atI L j) := by
  refine ix_all _ h h0 h1 ?_
  rintro _ ⟨i, rfl, a, b⟩
  exact k i a b
def LInv (S : Sto) (p : Nat) (i : Nat) (ρ : DE) (S' : Sto) : Prop := ∃ l gs v3 v4 v5 v6, ρ = [some (.ref p), some (.ref S.length), some (.int (lastE gs)), v3, v4, v5, v6, none, none] ∧ S'[S.length]? = some (.lst l) ∧ Rows l gs ∧ l.length ≤ i ∧ Src S' p ∧ Kp (· = p) S S' ∧ lastE gs ≤ 4096
theorem lay2 {S S1 : Sto} {p i : Nat} {l : List D} {gs : List Rg} {s z : Int} {v3 v6 : Option D} {d : XD} (hd : d.nx = LInv S p (i + 1)) (hi : i < 7) (hp : p < S.length) (e : S1[S.length]? = some (.lst l)) (u : Rows l gs) (hl : l.length ≤ i) (hS0 : Src S1 p) (k0 : Kp (· = p) S S1) (hs : lastE gs ≤ s) (s0 : 0 ≤ s) (hs2 : s < 4096) (hz : 1 ≤ z) :
    c_law_layout_2 d [some (.ref p), some (.ref S.length), some (.int (lastE gs)), v3, some (.int s), some (.int z), v6, none, none] S1 := by
  rw [eqc_law_layout_2]
  ((conv => whnf); (repeat ((first | refine ⟨(by show (0 : Int) < _; first | decide | omega), ?_⟩ | refine ⟨cmul_r (by decide) (by decide), ?_⟩ | refine ⟨cmul_l (by decide) (by decide), ?_⟩ | refine ⟨cmul_l (by omega) (by omega), ?_⟩ | refine ⟨cdiv_v (by omega) (by omega), ?_⟩ | refine ⟨cdiv_c (by decide) (by decide), ?_⟩ | refine ⟨(by decide), ?_⟩ | refine ⟨Nat.le_of_ble_eq_true rfl, ?_⟩ | refine ⟨⟨by decide, by decide, by decide⟩, ?_⟩); (conv => whnf))))
  rw [min_eq]
  have z0 : 1 ≤ min z (4096 - s) := by omega
  have z1 : s + min z (4096 - s) ≤ 4096 := by omega
  generalize min z (4096 - s) = z at z0 z1
  ((conv => whnf); (repeat ((first | refine ⟨(by show (0 : Int) < _; first | decide | omega), ?_⟩ | refine ⟨cmul_r (by decide) (by decide), ?_⟩ | refine ⟨cmul_l (by decide) (by decide), ?_⟩ | refine ⟨cmul_l (by omega) (by omega), ?_⟩ | refine ⟨cdiv_v (by omega) (by omega), ?_⟩ | refine ⟨cdiv_c (by decide) (by decide), ?_⟩ | refine ⟨(by decide), ?_⟩ | refine ⟨Nat.le_of_ble_eq_true rfl, ?_⟩ | refine ⟨⟨by decide, by decide, by decide⟩, ?_⟩); (conv => whnf))))
  refine p_draw hS0 (by decide) (by decide) fun v1 S1 a1 b1 hS1 kk1 => ?_
  have k1 := k0.trans kk1
  ((conv => whnf); (repeat ((first | refine ⟨(by show (0 : Int) < _; first | decide | omega), ?_⟩ | refine ⟨cmul_r (by decide) (by decide), ?_⟩ | refine ⟨cmul_l (by decide) (by decide), ?_⟩ | refine ⟨cmul_l (by omega) (by omega), ?_⟩ | refine ⟨cdiv_v (by omega) (by omega), ?_⟩ | refine ⟨cdiv_c (by decide) (by decide), ?_⟩ | refine ⟨(by decide), ?_⟩ | refine ⟨Nat.le_of_ble_eq_true rfl, ?_⟩ | refine ⟨⟨by decide, by decide, by decide⟩, ?_⟩); (conv => whnf))))
  refine p_draw hS1 (by decide) (by decide) fun v2 S2 a2 b2 hS2 kk2 => ?_
  have k2 := k1.trans kk2
  ((conv => whnf); (repeat ((first | refine ⟨(by show (0 : Int) < _; first | decide | omega), ?_⟩ | refine ⟨cmul_r (by decide) (by decide), ?_⟩ | refine ⟨cmul_l (by decide) (by decide), ?_⟩ | refine ⟨cmul_l (by omega) (by omega), ?_⟩ | refine ⟨cdiv_v (by omega) (by omega), ?_⟩ | refine ⟨cdiv_c (by decide) (by decide), ?_⟩ | refine ⟨(by decide), ?_⟩ | refine ⟨Nat.le_of_ble_eq_true rfl, ?_⟩ | refine ⟨⟨by decide, by decide, by decide⟩, ?_⟩); (conv => whnf))))
  refine p_draw hS2 (by decide) (by decide) fun v3 S3 a3 b3 hS3 kk3 => ?_
  have k3 := k2.trans kk3
  ((conv => whnf); (repeat ((first | refine ⟨(by show (0 : Int) < _; first | decide | omega), ?_⟩ | refine ⟨cmul_r (by decide) (by decide), ?_⟩ | refine ⟨cmul_l (by decide) (by decide), ?_⟩ | refine ⟨cmul_l (by omega) (by omega), ?_⟩ | refine ⟨cdiv_v (by omega) (by omega), ?_⟩ | refine ⟨cdiv_c (by decide) (by decide), ?_⟩ | refine ⟨(by decide), ?_⟩ | refine ⟨Nat.le_of_ble_eq_true rfl, ?_⟩ | refine ⟨⟨by decide, by decide, by decide⟩, ?_⟩); (conv => whnf))))
  refine ix_int 0 65535 ?_ a3 b3 fun m m0 m1 => ?_
  · intro d hd
    simp only [List.mem_cons, List.not_mem_nil, or_false] at hd
    rcases hd with rfl | rfl | rfl <;> exact ⟨_, rfl, by omega, by omega⟩
  have n1 : ¬ S.length = p := by omega
  have e3 := kk3.get n1 (kk2.get n1 (kk1.get n1 e))
  ((conv => whnf); (repeat ((first | refine ⟨(by show (0 : Int) < _; first | decide | omega), ?_⟩ | refine ⟨cmul_r (by decide) (by decide), ?_⟩ | refine ⟨cmul_l (by decide) (by decide), ?_⟩ | refine ⟨cmul_l (by omega) (by omega), ?_⟩ | refine ⟨cdiv_v (by omega) (by omega), ?_⟩ | refine ⟨cdiv_c (by decide) (by decide), ?_⟩ | refine ⟨(by decide), ?_⟩ | refine ⟨Nat.le_of_ble_eq_true rfl, ?_⟩ | refine ⟨⟨by decide, by decide, by decide⟩, ?_⟩); (conv => whnf))))
  rw [look_of e3]
  ((conv => whnf); (repeat ((first | refine ⟨(by show (0 : Int) < _; first | decide | omega), ?_⟩ | refine ⟨cmul_r (by decide) (by decide), ?_⟩ | refine ⟨cmul_l (by decide) (by decide), ?_⟩ | refine ⟨cmul_l (by omega) (by omega), ?_⟩ | refine ⟨cdiv_v (by omega) (by omega), ?_⟩ | refine ⟨cdiv_c (by decide) (by decide), ?_⟩ | refine ⟨(by decide), ?_⟩ | refine ⟨Nat.le_of_ble_eq_true rfl, ?_⟩ | refine ⟨⟨by decide, by decide, by decide⟩, ?_⟩); (conv => whnf))))
  refine p_draw hS3 (by decide) (by decide) fun v4 S4 a4 b4 hS4 kk4 => ?_
  have k4 := k3.trans kk4
  ((conv => whnf); (repeat ((first | refine ⟨(by show (0 : Int) < _; first | decide | omega), ?_⟩ | refine ⟨cmul_r (by decide) (by decide), ?_⟩ | refine ⟨cmul_l (by decide) (by decide), ?_⟩ | refine ⟨cmul_l (by omega) (by omega), ?_⟩ | refine ⟨cdiv_v (by omega) (by omega), ?_⟩ | refine ⟨cdiv_c (by decide) (by decide), ?_⟩ | refine ⟨(by decide), ?_⟩ | refine ⟨Nat.le_of_ble_eq_true rfl, ?_⟩ | refine ⟨⟨by decide, by decide, by decide⟩, ?_⟩); (conv => whnf))))
  refine ix_flow a4 b4 fun b => ?_
  have e4 := kk4.get n1 e3
  ((conv => whnf); (repeat ((first | refine ⟨(by show (0 : Int) < _; first | decide | omega), ?_⟩ | refine ⟨cmul_r (by decide) (by decide), ?_⟩ | refine ⟨cmul_l (by decide) (by decide), ?_⟩ | refine ⟨cmul_l (by omega) (by omega), ?_⟩ | refine ⟨cdiv_v (by omega) (by omega), ?_⟩ | refine ⟨cdiv_c (by decide) (by decide), ?_⟩ | refine ⟨(by decide), ?_⟩ | refine ⟨Nat.le_of_ble_eq_true rfl, ?_⟩ | refine ⟨⟨by decide, by decide, by decide⟩, ?_⟩); (conv => whnf))))
  rw [look_of e4]
  conv => whnf
  refine ⟨by omega, ?_⟩
  generalize h5 : S4.set S.length _ = S5
  have f5 : S5[S.length]? = some _ := (congrArg (fun s : Sto => s[S.length]?) h5.symm).trans (get_set e4)
  have k45 : ∀ Z : Nat → Prop, Z S.length → Kp Z S4 S5 := fun Z z => by rw [← h5]; exact .set z
  have k5 : Kp (· = p) S S5 := by
    rw [← h5]
    exact k4.put (Nat.le_refl _)
  ((conv => whnf); (repeat ((first | refine ⟨(by show (0 : Int) < _; first | decide | omega), ?_⟩ | refine ⟨cmul_r (by decide) (by decide), ?_⟩ | refine ⟨cmul_l (by decide) (by decide), ?_⟩ | refine ⟨cmul_l (by omega) (by omega), ?_⟩ | refine ⟨cdiv_v (by omega) (by omega), ?_⟩ | refine ⟨cdiv_c (by decide) (by decide), ?_⟩ | refine ⟨(by decide), ?_⟩ | refine ⟨Nat.le_of_ble_eq_true rfl, ?_⟩ | refine ⟨⟨by decide, by decide, by decide⟩, ?_⟩); (conv => whnf))))
  show d.nx _ _
  rw [hd]
  refine ⟨l ++ [dRg ⟨s, z, b, m⟩], gs ++ [⟨s, z, b, m⟩], _, _, _, _, by rw [lastE_snoc], f5, rows_add u ⟨s0, z0, z1, m0, m1⟩ hs, by rw [List.length_append]; exact Nat.succ_le_succ hl, hS4.keep (k45 (· = S.length) rfl) (by omega), k5, by rw [lastE_snoc]; exact z1⟩
theorem lay3 {S S1 : Sto} {p i : Nat} {l : List D} {gs : List Rg} {s z : Int} {v3 v6 : Option D} {d : XD} (hd : d.nx = LInv S p (i + 1)) (hi : i < 7) (hp : p < S.length) (e : S1[S.length]? = some (.lst l)) (u : Rows l gs) (hl : l.length ≤ i) (hS0 : Src S1 p) (k0 : Kp (· = p) S S1) (hs : lastE gs ≤ s) (s0 : 0 ≤ s) (hs2 : s < 4096) (hz : 1 ≤ z) :
    c_law_layout_3 d [some (.ref p), some (.ref S.length), some (.int (lastE gs)), v3, some (.int s), some (.int z), v6, none, none] S1 := by
  have n1 : ¬ S.length = p := by omega
  rw [eqc_law_layout_3]
  ((conv => whnf); (repeat ((first | refine ⟨(by show (0 : Int) < _; first | decide | omega), ?_⟩ | refine ⟨cmul_r (by decide) (by decide), ?_⟩ | refine ⟨cmul_l (by decide) (by decide), ?_⟩ | refine ⟨cmul_l (by omega) (by omega), ?_⟩ | refine ⟨cdiv_v (by omega) (by omega), ?_⟩ | refine ⟨cdiv_c (by decide) (by decide), ?_⟩ | refine ⟨(by decide), ?_⟩ | refine ⟨Nat.le_of_ble_eq_true rfl, ?_⟩ | refine ⟨⟨by decide, by decide, by decide⟩, ?_⟩); (conv => whnf))))
  refine p_draw hS0 (by decide) (by decide) fun v1 S1 a1 b1 hS1 kk1 => ?_
  have k1 := k0.trans kk1
  ((conv => whnf); (repeat ((first | refine ⟨(by show (0 : Int) < _; first | decide | omega), ?_⟩ | refine ⟨cmul_r (by decide) (by decide), ?_⟩ | refine ⟨cmul_l (by decide) (by decide), ?_⟩ | refine ⟨cmul_l (by omega) (by omega), ?_⟩ | refine ⟨cdiv_v (by omega) (by omega), ?_⟩ | refine ⟨cdiv_c (by decide) (by decide), ?_⟩ | refine ⟨(by decide), ?_⟩ | refine ⟨Nat.le_of_ble_eq_true rfl, ?_⟩ | refine ⟨⟨by decide, by decide, by decide⟩, ?_⟩); (conv => whnf))))
  first | refine bcase (fun c => ?_) (fun c => ?_) | refine bcase0 (fun c => ?_) (fun c => ?_) | refine bcase1 (fun c => ?_) (fun c => ?_)
  · ((conv => whnf); (repeat ((first | refine ⟨(by show (0 : Int) < _; first | decide | omega), ?_⟩ | refine ⟨cmul_r (by decide) (by decide), ?_⟩ | refine ⟨cmul_l (by decide) (by decide), ?_⟩ | refine ⟨cmul_l (by omega) (by omega), ?_⟩ | refine ⟨cdiv_v (by omega) (by omega), ?_⟩ | refine ⟨cdiv_c (by decide) (by decide), ?_⟩ | refine ⟨(by decide), ?_⟩ | refine ⟨Nat.le_of_ble_eq_true rfl, ?_⟩ | refine ⟨⟨by decide, by decide, by decide⟩, ?_⟩); (conv => whnf))))
    exact lay2 hd hi hp (kk1.get n1 e) u hl hS1 k1 hs s0 hs2 (by omega)
  · ((conv => whnf); (repeat ((first | refine ⟨(by show (0 : Int) < _; first | decide | omega), ?_⟩ | refine ⟨cmul_r (by decide) (by decide), ?_⟩ | refine ⟨cmul_l (by decide) (by decide), ?_⟩ | refine ⟨cmul_l (by omega) (by omega), ?_⟩ | refine ⟨cdiv_v (by omega) (by omega), ?_⟩ | refine ⟨cdiv_c (by decide) (by decide), ?_⟩ | refine ⟨(by decide), ?_⟩ | refine ⟨Nat.le_of_ble_eq_true rfl, ?_⟩ | refine ⟨⟨by decide, by decide, by decide⟩, ?_⟩); (conv => whnf))))
    exact lay2 hd hi hp (kk1.get n1 e) u hl hS1 k1 hs s0 hs2 hz
theorem lastE_nn {gs : List Rg} (h : ∀ g ∈ gs, vR g) : 0 ≤ lastE gs := by
  unfold lastE
  split
  · decide
  · rename_i g e
    obtain ⟨h0, h1, _⟩ := h g (List.mem_of_getLast? e)
    omega
theorem p_layout {S : Sto} {p : Nat} {q : DK} (hS : Src S p) (k : ∀ n l gs S', S.length ≤ n → S'[n]? = some (.lst l) → Rows l gs → l.length ≤ 1000 → Src S' p → Kp (· = p) S S' → q (.ref n) S') : wp_law_layout [.ref p] S q := by
  have hp := hS.lt
  have t1 : ∀ (n : Nat) (l : List D) (gs : List Rg) (S' : Sto) (v2 v3 v4 v5 v6 v7 v8 : Option D), S.length ≤ n → S'[n]? = some (.lst l) → Rows l gs → l.length ≤ 1000 → Src S' p → Kp (· = p) S S' → c_law_layout_1 { nx := fun _ S' => q .non S', rt := q } [some (.ref p), some (.ref n), v2, v3, v4, v5, v6, v7, v8] S' := by
    intro n l gs S' v2 v3 v4 v5 v6 v7 v8 hn e u hl hS' k'
    rw [eqc_law_layout_1]
    exact k n l gs S' hn e u hl hS' k'
  have t4 : ∀ (n : Nat) (l : List D) (gs : List Rg) (S0 : Sto) (v2 v3 v4 v5 v6 : Option D), S.length ≤ n → S0[n]? = some (.lst l) → Rows l gs → l.length ≤ 1000 → Src S0 p → Kp (· = p) S S0 → c_law_layout_4 { nx := fun _ S' => q .non S', rt := q } [some (.ref p), some (.ref n), v2, v3, v4, v5, v6, none, none] S0 := by
    intro n l gs S0 v2 v3 v4 v5 v6 hn e u hl hS0 k0
    rw [eqc_law_layout_4]
    ((conv => whnf); (repeat ((first | refine ⟨(by show (0 : Int) < _; first | decide | omega), ?_⟩ | refine ⟨cmul_r (by decide) (by decide), ?_⟩ | refine ⟨cmul_l (by decide) (by decide), ?_⟩ | refine ⟨cmul_l (by omega) (by omega), ?_⟩ | refine ⟨cdiv_v (by omega) (by omega), ?_⟩ | refine ⟨cdiv_c (by decide) (by decide), ?_⟩ | refine ⟨(by decide), ?_⟩ | refine ⟨Nat.le_of_ble_eq_true rfl, ?_⟩ | refine ⟨⟨by decide, by decide, by decide⟩, ?_⟩); (conv => whnf))))
    refine p_draw hS0 (by decide) (by decide) fun v1 S1 a1 b1 hS1 kk1 => ?_
    have k1 := k0.trans kk1
    ((conv => whnf); (repeat ((first | refine ⟨(by show (0 : Int) < _; first | decide | omega), ?_⟩ | refine ⟨cmul_r (by decide) (by decide), ?_⟩ | refine ⟨cmul_l (by decide) (by decide), ?_⟩ | refine ⟨cmul_l (by omega) (by omega), ?_⟩ | refine ⟨cdiv_v (by omega) (by omega), ?_⟩ | refine ⟨cdiv_c (by decide) (by decide), ?_⟩ | refine ⟨(by decide), ?_⟩ | refine ⟨Nat.le_of_ble_eq_true rfl, ?_⟩ | refine ⟨⟨by decide, by decide, by decide⟩, ?_⟩); (conv => whnf))))
    first | refine bcase (fun c => ?_) (fun c => ?_) | refine bcase0 (fun c => ?_) (fun c => ?_) | refine bcase1 (fun c => ?_) (fun c => ?_)
    · ((conv => whnf); (repeat ((first | refine ⟨(by show (0 : Int) < _; first | decide | omega), ?_⟩ | refine ⟨cmul_r (by decide) (by decide), ?_⟩ | refine ⟨cmul_l (by decide) (by decide), ?_⟩ | refine ⟨cmul_l (by omega) (by omega), ?_⟩ | refine ⟨cdiv_v (by omega) (by omega), ?_⟩ | refine ⟨cdiv_c (by decide) (by decide), ?_⟩ | refine ⟨(by decide), ?_⟩ | refine ⟨Nat.le_of_ble_eq_true rfl, ?_⟩ | refine ⟨⟨by decide, by decide, by decide⟩, ?_⟩); (conv => whnf))))
      refine p_draw hS1 (by decide) (by decide) fun v2 S2 a2 b2 hS2 kk2 => ?_
      have k2 := k1.trans kk2
      ((conv => whnf); (repeat ((first | refine ⟨(by show (0 : Int) < _; first | decide | omega), ?_⟩ | refine ⟨cmul_r (by decide) (by decide), ?_⟩ | refine ⟨cmul_l (by decide) (by decide), ?_⟩ | refine ⟨cmul_l (by omega) (by omega), ?_⟩ | refine ⟨cdiv_v (by omega) (by omega), ?_⟩ | refine ⟨cdiv_c (by decide) (by decide), ?_⟩ | refine ⟨(by decide), ?_⟩ | refine ⟨Nat.le_of_ble_eq_true rfl, ?_⟩ | refine ⟨⟨by decide, by decide, by decide⟩, ?_⟩); (conv => whnf))))
      refine ix_int 255 299 ?_ a2 b2 fun many m0 m1 => ?_
      · intro d hd
        simp only [List.mem_cons, List.not_mem_nil, or_false] at hd
        rcases hd with rfl | rfl | rfl | rfl | rfl <;> exact ⟨_, rfl, by omega, by omega⟩
      ((conv => whnf); (repeat ((first | refine ⟨(by show (0 : Int) < _; first | decide | omega), ?_⟩ | refine ⟨cmul_r (by decide) (by decide), ?_⟩ | refine ⟨cmul_l (by decide) (by decide), ?_⟩ | refine ⟨cmul_l (by omega) (by omega), ?_⟩ | refine ⟨cdiv_v (by omega) (by omega), ?_⟩ | refine ⟨cdiv_c (by decide) (by decide), ?_⟩ | refine ⟨(by decide), ?_⟩ | refine ⟨Nat.le_of_ble_eq_true rfl, ?_⟩ | refine ⟨⟨by decide, by decide, by decide⟩, ?_⟩); (conv => whnf))))
      have dv : 4096 / many ≤ 16 ∧ 1 ≤ 4096 / many ∧ 4096 / many * many ≤ 4096 := by
        have h1 : 4096 / many * many ≤ 4096 := Int.ediv_mul_le _ (by omega)
        have h2 : 13 ≤ 4096 / many := (Int.le_ediv_iff_mul_le (by omega)).mpr (by omega)
        have h3 : 4096 / many < 17 := Int.ediv_lt_of_lt_mul (by omega) (by omega)
        omega
      refine p_draw hS2 (show 0 < 4096 / many from dv.2.1) (Int.le_trans dv.1 (by decide)) fun v3 S3 a3 b3 hS3 kk3 => ?_
      have b3 : v3 < 4096 / many := b3
      have k3 := k2.trans kk3
      ((conv => whnf); (repeat ((first | refine ⟨(by show (0 : Int) < _; first | decide | omega), ?_⟩ | refine ⟨cmul_r (by decide) (by decide), ?_⟩ | refine ⟨cmul_l (by decide) (by decide), ?_⟩ | refine ⟨cmul_l (by omega) (by omega), ?_⟩ | refine ⟨cdiv_v (by omega) (by omega), ?_⟩ | refine ⟨cdiv_c (by decide) (by decide), ?_⟩ | refine ⟨(by decide), ?_⟩ | refine ⟨Nat.le_of_ble_eq_true rfl, ?_⟩ | refine ⟨⟨by decide, by decide, by decide⟩, ?_⟩); (conv => whnf))))
      have st0 : 1 ≤ 1 + v3 := by omega
      have st1 : 1 + v3 ≤ 16 := by
        have := dv.1
        generalize 4096 / many = top at b3 this
        omega
      generalize 4096 / many = top at dv b3
      have st2 : (1 + v3) * many ≤ 4096 := Int.le_trans (Int.mul_le_mul_of_nonneg_right (by omega) (by omega)) dv.2.2
      generalize 1 + v3 = step at st0 st1 st2
      refine ⟨⟨by omega, by omega⟩, ?_⟩
      have l3 := k3.len
      refine ⟨fun i S' => ∃ l gs, S'[S3.length]? = some (.lst l) ∧ Rows l gs ∧ l.length = i ∧ lastE gs ≤ i * step ∧ Src S' p ∧ Kp (· = p) S3 S', ⟨[], [], get_new _ _, .nil, rfl, by show (0 : Int) ≤ _; omega, hS3.keep (X := fun _ => False) .app id, .app⟩, fun _ _ _ _ => trivial, ?_, ?_⟩
      · rintro i x S4 hx ⟨l, gs, e, u, hl, le, hS4, k4⟩
        have hi : i < many.toNat := by
          have := (List.getElem?_eq_some_iff.mp hx).1
          rw [rngD_len] at this
          exact this
        rw [rngD_at hi, Int.zero_add] at hx
        cases hx
        ((conv => whnf); (repeat ((first | refine ⟨(by show (0 : Int) < _; first | decide | omega), ?_⟩ | refine ⟨cmul_r (by decide) (by decide), ?_⟩ | refine ⟨cmul_l (by decide) (by decide), ?_⟩ | refine ⟨cmul_l (by omega) (by omega), ?_⟩ | refine ⟨cdiv_v (by omega) (by omega), ?_⟩ | refine ⟨cdiv_c (by decide) (by decide), ?_⟩ | refine ⟨(by decide), ?_⟩ | refine ⟨Nat.le_of_ble_eq_true rfl, ?_⟩ | refine ⟨⟨by decide, by decide, by decide⟩, ?_⟩); (conv => whnf))))
        have : (i : Int) * step ≤ (many - 1) * step := Int.mul_le_mul_of_nonneg_right (by omega) (by omega)
        have e2 : (many - 1) * step = step * many - step := by rw [Int.sub_mul, Int.one_mul, Int.mul_comm]
        refine p_draw hS4 (by omega) (by omega) fun v5 S5 a5 b5 hS5 k5 => ?_
        have e5 := k5.get (show ¬ S3.length = p by have := hS3.lt; omega) e
        ((conv => whnf); (repeat ((first | refine ⟨(by show (0 : Int) < _; first | decide | omega), ?_⟩ | refine ⟨cmul_r (by decide) (by decide), ?_⟩ | refine ⟨cmul_l (by decide) (by decide), ?_⟩ | refine ⟨cmul_l (by omega) (by omega), ?_⟩ | refine ⟨cdiv_v (by omega) (by omega), ?_⟩ | refine ⟨cdiv_c (by decide) (by decide), ?_⟩ | refine ⟨(by decide), ?_⟩ | refine ⟨Nat.le_of_ble_eq_true rfl, ?_⟩ | refine ⟨⟨by decide, by decide, by decide⟩, ?_⟩); (conv => whnf))))
        rw [look_of e5]
        conv => whnf
        have hv : vR ⟨i * step, 1 + v5, true, 65535⟩ := ⟨Int.mul_nonneg (by omega) (by omega), by show 1 ≤ 1 + v5; omega, by show (i : Int) * step + (1 + v5) ≤ 4096; omega, by show (0 : Int) ≤ 65535; decide, by show (65535 : Int) ≤ 65535; decide⟩
        refine ⟨by omega, l ++ [dRg ⟨i * step, 1 + v5, true, 65535⟩], gs ++ [⟨i * step, 1 + v5, true, 65535⟩], by rw [get_set e5]; rfl, rows_add u hv le, by rw [List.length_append, hl]; rfl, ?_, hS5.keep (X := (· = S3.length)) (.set rfl) (by have := hS3.lt; omega), (k4.trans k5).put (Nat.le_refl _)⟩
        rw [lastE_snoc]
        show (i : Int) * step + (1 + v5) ≤ ((i + 1 : Nat) : Int) * step
        rw [show ((i + 1 : Nat) : Int) = (i : Int) + 1 by omega, Int.add_mul, Int.one_mul]
        omega
      · rintro S4 ⟨l, gs, e, u, hl, le, hS4, k4⟩
        rw [rngD_len] at hl
        ((conv => whnf); (repeat ((first | refine ⟨(by show (0 : Int) < _; first | decide | omega), ?_⟩ | refine ⟨cmul_r (by decide) (by decide), ?_⟩ | refine ⟨cmul_l (by decide) (by decide), ?_⟩ | refine ⟨cmul_l (by omega) (by omega), ?_⟩ | refine ⟨cdiv_v (by omega) (by omega), ?_⟩ | refine ⟨cdiv_c (by decide) (by decide), ?_⟩ | refine ⟨(by decide), ?_⟩ | refine ⟨Nat.le_of_ble_eq_true rfl, ?_⟩ | refine ⟨⟨by decide, by decide, by decide⟩, ?_⟩); (conv => whnf))))
        exact t1 _ l gs S4 _ _ _ _ _ _ _ (by omega) e u (by omega) hS4 (k3.trans k4)
    · ((conv => whnf); (repeat ((first | refine ⟨(by show (0 : Int) < _; first | decide | omega), ?_⟩ | refine ⟨cmul_r (by decide) (by decide), ?_⟩ | refine ⟨cmul_l (by decide) (by decide), ?_⟩ | refine ⟨cmul_l (by omega) (by omega), ?_⟩ | refine ⟨cdiv_v (by omega) (by omega), ?_⟩ | refine ⟨cdiv_c (by decide) (by decide), ?_⟩ | refine ⟨(by decide), ?_⟩ | refine ⟨Nat.le_of_ble_eq_true rfl, ?_⟩ | refine ⟨⟨by decide, by decide, by decide⟩, ?_⟩); (conv => whnf))))
      exact t1 n l gs S1 _ _ _ _ _ _ _ hn (kk1.get (show ¬ n = p by omega) e) u hl hS1 k1
  have hS0 := hS
  have k0 : Kp (· = p) S S := .rfl
  rw [eq_law_layout]
  ((conv => whnf); (repeat ((first | refine ⟨(by show (0 : Int) < _; first | decide | omega), ?_⟩ | refine ⟨cmul_r (by decide) (by decide), ?_⟩ | refine ⟨cmul_l (by decide) (by decide), ?_⟩ | refine ⟨cmul_l (by omega) (by omega), ?_⟩ | refine ⟨cdiv_v (by omega) (by omega), ?_⟩ | refine ⟨cdiv_c (by decide) (by decide), ?_⟩ | refine ⟨(by decide), ?_⟩ | refine ⟨Nat.le_of_ble_eq_true rfl, ?_⟩ | refine ⟨⟨by decide, by decide, by decide⟩, ?_⟩); (conv => whnf))))
  generalize hX : S ++ [Ob.lst []] = X
  have eX : X[S.length]? = some (.lst []) := by rw [← hX]; exact get_new _ _
  have kX : Kp (· = p) S X := by rw [← hX]; exact .app
  have hS0 : Src X p := hS.keep (show Kn S X by rw [← hX]; exact .app) id
  have k0 := kX
  refine p_draw hS0 (by decide) (by decide) fun v1 S1 a1 b1 hS1 kk1 => ?_
  have k1 := k0.trans kk1
  ((conv => whnf); (repeat ((first | refine ⟨(by show (0 : Int) < _; first | decide | omega), ?_⟩ | refine ⟨cmul_r (by decide) (by decide), ?_⟩ | refine ⟨cmul_l (by decide) (by decide), ?_⟩ | refine ⟨cmul_l (by omega) (by omega), ?_⟩ | refine ⟨cdiv_v (by omega) (by omega), ?_⟩ | refine ⟨cdiv_c (by decide) (by decide), ?_⟩ | refine ⟨(by decide), ?_⟩ | refine ⟨Nat.le_of_ble_eq_true rfl, ?_⟩ | refine ⟨⟨by decide, by decide, by decide⟩, ?_⟩); (conv => whnf))))
  refine ⟨⟨by omega, by omega⟩, ?_⟩
  have n1 : ¬ S.length = p := by omega
  refine ⟨LInv S p, ⟨[], [], none, none, none, none, rfl, kk1.get n1 eX, .nil, Nat.le_refl _, hS1, k1, by decide⟩, fun _ _ _ _ _ => trivial, ?_, ?_⟩
  · rintro i x ρ S0 hx ⟨l, gs, v3, v4, v5, v6, rfl, e, u, hl, hS0, k0, le⟩
    have hi : i < v1.toNat := by
      have := (List.getElem?_eq_some_iff.mp hx).1
      rw [rngD_len] at this
      exact this
    rw [rngD_at hi, Int.zero_add] at hx
    cases hx
    have l0 := lastE_nn u.vr
    ((conv => whnf); (repeat ((first | refine ⟨(by show (0 : Int) < _; first | decide | omega), ?_⟩ | refine ⟨cmul_r (by decide) (by decide), ?_⟩ | refine ⟨cmul_l (by decide) (by decide), ?_⟩ | refine ⟨cmul_l (by omega) (by omega), ?_⟩ | refine ⟨cdiv_v (by omega) (by omega), ?_⟩ | refine ⟨cdiv_c (by decide) (by decide), ?_⟩ | refine ⟨(by decide), ?_⟩ | refine ⟨Nat.le_of_ble_eq_true rfl, ?_⟩ | refine ⟨⟨by decide, by decide, by decide⟩, ?_⟩); (conv => whnf))))
    refine p_draw hS0 (by decide) (by decide) fun v1 S1 a1 b1 hS1 kk1 => ?_
    have k1 := k0.trans kk1
    ((conv => whnf); (repeat ((first | refine ⟨(by show (0 : Int) < _; first | decide | omega), ?_⟩ | refine ⟨cmul_r (by decide) (by decide), ?_⟩ | refine ⟨cmul_l (by decide) (by decide), ?_⟩ | refine ⟨cmul_l (by omega) (by omega), ?_⟩ | refine ⟨cdiv_v (by omega) (by omega), ?_⟩ | refine ⟨cdiv_c (by decide) (by decide), ?_⟩ | refine ⟨(by decide), ?_⟩ | refine ⟨Nat.le_of_ble_eq_true rfl, ?_⟩ | refine ⟨⟨by decide, by decide, by decide⟩, ?_⟩); (conv => whnf))))
    refine p_draw hS1 (by decide) (by decide) fun v2 S2 a2 b2 hS2 kk2 => ?_
    have k2 := k1.trans kk2
    ((conv => whnf); (repeat ((first | refine ⟨(by show (0 : Int) < _; first | decide | omega), ?_⟩ | refine ⟨cmul_r (by decide) (by decide), ?_⟩ | refine ⟨cmul_l (by decide) (by decide), ?_⟩ | refine ⟨cmul_l (by omega) (by omega), ?_⟩ | refine ⟨cdiv_v (by omega) (by omega), ?_⟩ | refine ⟨cdiv_c (by decide) (by decide), ?_⟩ | refine ⟨(by decide), ?_⟩ | refine ⟨Nat.le_of_ble_eq_true rfl, ?_⟩ | refine ⟨⟨by decide, by decide, by decide⟩, ?_⟩); (conv => whnf))))
    refine p_draw hS2 (by decide) (by decide) fun v3 S3 a3 b3 hS3 kk3 => ?_
    have k3 := k2.trans kk3
    ((conv => whnf); (repeat ((first | refine ⟨(by show (0 : Int) < _; first | decide | omega), ?_⟩ | refine ⟨cmul_r (by decide) (by decide), ?_⟩ | refine ⟨cmul_l (by decide) (by decide), ?_⟩ | refine ⟨cmul_l (by omega) (by omega), ?_⟩ | refine ⟨cdiv_v (by omega) (by omega), ?_⟩ | refine ⟨cdiv_c (by decide) (by decide), ?_⟩ | refine ⟨(by decide), ?_⟩ | refine ⟨Nat.le_of_ble_eq_true rfl, ?_⟩ | refine ⟨⟨by decide, by decide, by decide⟩, ?_⟩); (conv => whnf))))
    refine ix_int 0 4096 ?_ a3 b3 fun m m0 m1 => ?_
    · intro d hd
      simp only [List.mem_cons, List.not_mem_nil, or_false] at hd
      rcases hd with rfl | rfl | rfl | rfl <;> exact ⟨_, rfl, by omega, by omega⟩
    have e3 := kk3.get n1 (kk2.get n1 (kk1.get n1 e))
    ((conv => whnf); (repeat ((first | refine ⟨(by show (0 : Int) < _; first | decide | omega), ?_⟩ | refine ⟨cmul_r (by decide) (by decide), ?_⟩ | refine ⟨cmul_l (by decide) (by decide), ?_⟩ | refine ⟨cmul_l (by omega) (by omega), ?_⟩ | refine ⟨cdiv_v (by omega) (by omega), ?_⟩ | refine ⟨cdiv_c (by decide) (by decide), ?_⟩ | refine ⟨(by decide), ?_⟩ | refine ⟨Nat.le_of_ble_eq_true rfl, ?_⟩ | refine ⟨⟨by decide, by decide, by decide⟩, ?_⟩); (conv => whnf))))
    first | refine bcase (fun c => ?_) (fun c => ?_) | refine bcase0 (fun c => ?_) (fun c => ?_) | refine bcase1 (fun c => ?_) (fun c => ?_)
    · exact t4 _ l gs S3 _ _ _ _ _ (Nat.le_refl _) e3 u (by omega) hS3 k3
    · have c : ¬ 4096 ≤ lastE gs + m := c
      ((conv => whnf); (repeat ((first | refine ⟨(by show (0 : Int) < _; first | decide | omega), ?_⟩ | refine ⟨cmul_r (by decide) (by decide), ?_⟩ | refine ⟨cmul_l (by decide) (by decide), ?_⟩ | refine ⟨cmul_l (by omega) (by omega), ?_⟩ | refine ⟨cdiv_v (by omega) (by omega), ?_⟩ | refine ⟨cdiv_c (by decide) (by decide), ?_⟩ | refine ⟨(by decide), ?_⟩ | refine ⟨Nat.le_of_ble_eq_true rfl, ?_⟩ | refine ⟨⟨by decide, by decide, by decide⟩, ?_⟩); (conv => whnf))))
      refine p_draw hS3 (by decide) (by decide) fun v4 S4 a4 b4 hS4 kk4 => ?_
      have k4 := k3.trans kk4
      ((conv => whnf); (repeat ((first | refine ⟨(by show (0 : Int) < _; first | decide | omega), ?_⟩ | refine ⟨cmul_r (by decide) (by decide), ?_⟩ | refine ⟨cmul_l (by decide) (by decide), ?_⟩ | refine ⟨cmul_l (by omega) (by omega), ?_⟩ | refine ⟨cdiv_v (by omega) (by omega), ?_⟩ | refine ⟨cdiv_c (by decide) (by decide), ?_⟩ | refine ⟨(by decide), ?_⟩ | refine ⟨Nat.le_of_ble_eq_true rfl, ?_⟩ | refine ⟨⟨by decide, by decide, by decide⟩, ?_⟩); (conv => whnf))))
      have e4 := kk4.get n1 e3
      ((conv => whnf); (repeat ((first | refine ⟨(by show (0 : Int) < _; first | decide | omega), ?_⟩ | refine ⟨cmul_r (by decide) (by decide), ?_⟩ | refine ⟨cmul_l (by decide) (by decide), ?_⟩ | refine ⟨cmul_l (by omega) (by omega), ?_⟩ | refine ⟨cdiv_v (by omega) (by omega), ?_⟩ | refine ⟨cdiv_c (by decide) (by decide), ?_⟩ | refine ⟨(by decide), ?_⟩ | refine ⟨Nat.le_of_ble_eq_true rfl, ?_⟩ | refine ⟨⟨by decide, by decide, by decide⟩, ?_⟩); (conv => whnf))))
      refine p_draw hS4 (by decide) (by decide) fun v5 S5 a5 b5 hS5 kk5 => ?_
      have k5 := k4.trans kk5
      ((conv => whnf); (repeat ((first | refine ⟨(by show (0 : Int) < _; first | decide | omega), ?_⟩ | refine ⟨cmul_r (by decide) (by decide), ?_⟩ | refine ⟨cmul_l (by decide) (by decide), ?_⟩ | refine ⟨cmul_l (by omega) (by omega), ?_⟩ | refine ⟨cdiv_v (by omega) (by omega), ?_⟩ | refine ⟨cdiv_c (by decide) (by decide), ?_⟩ | refine ⟨(by decide), ?_⟩ | refine ⟨Nat.le_of_ble_eq_true rfl, ?_⟩ | refine ⟨⟨by decide, by decide, by decide⟩, ?_⟩); (conv => whnf))))
      have e5 := kk5.get n1 e4
      first | refine bcase (fun c2 => ?_) (fun c2 => ?_) | refine bcase0 (fun c2 => ?_) (fun c2 => ?_) | refine bcase1 (fun c2 => ?_) (fun c2 => ?_)
      · ((conv => whnf); (repeat ((first | refine ⟨(by show (0 : Int) < _; first | decide | omega), ?_⟩ | refine ⟨cmul_r (by decide) (by decide), ?_⟩ | refine ⟨cmul_l (by decide) (by decide), ?_⟩ | refine ⟨cmul_l (by omega) (by omega), ?_⟩ | refine ⟨cdiv_v (by omega) (by omega), ?_⟩ | refine ⟨cdiv_c (by decide) (by decide), ?_⟩ | refine ⟨(by decide), ?_⟩ | refine ⟨Nat.le_of_ble_eq_true rfl, ?_⟩ | refine ⟨⟨by decide, by decide, by decide⟩, ?_⟩); (conv => whnf))))
        refine p_draw hS5 (by show (0 : Int) < 4096 - (lastE gs + m); omega) (by show (4096 : Int) - (lastE gs + m) ≤ _; omega) fun v6 S6 a6 b6 hS6 kk6 => ?_
        ((conv => whnf); (repeat ((first | refine ⟨(by show (0 : Int) < _; first | decide | omega), ?_⟩ | refine ⟨cmul_r (by decide) (by decide), ?_⟩ | refine ⟨cmul_l (by decide) (by decide), ?_⟩ | refine ⟨cmul_l (by omega) (by omega), ?_⟩ | refine ⟨cdiv_v (by omega) (by omega), ?_⟩ | refine ⟨cdiv_c (by decide) (by decide), ?_⟩ | refine ⟨(by decide), ?_⟩ | refine ⟨Nat.le_of_ble_eq_true rfl, ?_⟩ | refine ⟨⟨by decide, by decide, by decide⟩, ?_⟩); (conv => whnf))))
        exact lay3 rfl (by omega) hp (kk6.get n1 e5) u hl hS6 (k5.trans kk6) (by omega) (by omega) (by omega) (by omega)
      · ((conv => whnf); (repeat ((first | refine ⟨(by show (0 : Int) < _; first | decide | omega), ?_⟩ | refine ⟨cmul_r (by decide) (by decide), ?_⟩ | refine ⟨cmul_l (by decide) (by decide), ?_⟩ | refine ⟨cmul_l (by omega) (by omega), ?_⟩ | refine ⟨cdiv_v (by omega) (by omega), ?_⟩ | refine ⟨cdiv_c (by decide) (by decide), ?_⟩ | refine ⟨(by decide), ?_⟩ | refine ⟨Nat.le_of_ble_eq_true rfl, ?_⟩ | refine ⟨⟨by decide, by decide, by decide⟩, ?_⟩); (conv => whnf))))
        exact lay3 rfl (by omega) hp e5 u hl hS5 k5 (by omega) (by omega) (by omega) (by omega)
  · rintro ρ S0 ⟨l, gs, v3, v4, v5, v6, rfl, e, u, hl, hS0, k0, le⟩
    rw [rngD_len] at hl
    exact t4 _ l gs S0 _ _ _ _ _ (Nat.le_refl _) e u (by omega) hS0 k0
end K27

set_option Elab.async false
set_option linter.all false
set_option maxRecDepth 100000
set_option maxHeartbeats 4000000
namespace K27
open PySem PySem.Spec PyProof.Rows L2 DT
theorem p_other {S : Sto} {p : Nat} {q : DK} (hS0 : Src S p) (k : ∀ d S', Fl S' d → (∀ s, d = .str s → (PyData.str s).canLay0 = true) → (∀ m, d = .ref m → S.length ≤ m) → Src S' p → Kp (· = p) S S' → q d S') : wp_law_other [.ref p] S q := by
  have k0 : Kp (· = p) S S := .rfl
  have hp := hS0.lt
  rw [eq_law_other]
  ((conv => whnf); (repeat ((first | refine ⟨(by show (0 : Int) < _; first | decide | omega), ?_⟩ | refine ⟨cmul_r (by decide) (by decide), ?_⟩ | refine ⟨cmul_l (by decide) (by decide), ?_⟩ | refine ⟨cmul_l (by omega) (by omega), ?_⟩ | refine ⟨cdiv_v (by omega) (by omega), ?_⟩ | refine ⟨cdiv_c (by decide) (by decide), ?_⟩ | refine ⟨(by decide), ?_⟩ | refine ⟨Nat.le_of_ble_eq_true rfl, ?_⟩ | refine ⟨⟨by decide, by decide, by decide⟩, ?_⟩); (conv => whnf))))
  refine p_draw hS0 (by decide) (by decide) fun v1 S1 a1 b1 hS1 kk1 => ?_
  have k1 := k0.trans kk1
  ((conv => whnf); (repeat ((first | refine ⟨(by show (0 : Int) < _; first | decide | omega), ?_⟩ | refine ⟨cmul_r (by decide) (by decide), ?_⟩ | refine ⟨cmul_l (by decide) (by decide), ?_⟩ | refine ⟨cmul_l (by omega) (by omega), ?_⟩ | refine ⟨cdiv_v (by omega) (by omega), ?_⟩ | refine ⟨cdiv_c (by decide) (by decide), ?_⟩ | refine ⟨(by decide), ?_⟩ | refine ⟨Nat.le_of_ble_eq_true rfl, ?_⟩ | refine ⟨⟨by decide, by decide, by decide⟩, ?_⟩); (conv => whnf))))
  first | refine bcase (fun c => ?_) (fun c => ?_) | refine bcase0 (fun c => ?_) (fun c => ?_) | refine bcase1 (fun c => ?_) (fun c => ?_)
  · ((conv => whnf); (repeat ((first | refine ⟨(by show (0 : Int) < _; first | decide | omega), ?_⟩ | refine ⟨cmul_r (by decide) (by decide), ?_⟩ | refine ⟨cmul_l (by decide) (by decide), ?_⟩ | refine ⟨cmul_l (by omega) (by omega), ?_⟩ | refine ⟨cdiv_v (by omega) (by omega), ?_⟩ | refine ⟨cdiv_c (by decide) (by decide), ?_⟩ | refine ⟨(by decide), ?_⟩ | refine ⟨Nat.le_of_ble_eq_true rfl, ?_⟩ | refine ⟨⟨by decide, by decide, by decide⟩, ?_⟩); (conv => whnf))))
    refine ix_all (fun d => d = .non ∨ (∃ b, d = .bl b) ∨ ∃ i, d = .int i) ?_ a1 c ?_
    · intro d hd
      simp only [List.mem_cons, List.not_mem_nil, or_false] at hd
      rcases hd with rfl | rfl | rfl | rfl | rfl | rfl
      · exact .inr (.inr ⟨_, rfl⟩)
      · exact .inr (.inr ⟨_, rfl⟩)
      · exact .inr (.inr ⟨_, rfl⟩)
      · exact .inr (.inr ⟨_, rfl⟩)
      · exact .inr (.inl ⟨_, rfl⟩)
      · exact .inl rfl
    · rintro d (rfl | ⟨b, rfl⟩ | ⟨i, rfl⟩)
      · exact k _ _ (.inl rfl) (fun s z => by cases z) (fun m z => by cases z) hS1 k1
      · exact k _ _ (.inr (.inl ⟨b, rfl⟩)) (fun s z => by cases z) (fun m z => by cases z) hS1 k1
      · exact k _ _ (.inr (.inr (.inl ⟨i, rfl⟩))) (fun s z => by cases z) (fun m z => by cases z) hS1 k1
  · ((conv => whnf); (repeat ((first | refine ⟨(by show (0 : Int) < _; first | decide | omega), ?_⟩ | refine ⟨cmul_r (by decide) (by decide), ?_⟩ | refine ⟨cmul_l (by decide) (by decide), ?_⟩ | refine ⟨cmul_l (by omega) (by omega), ?_⟩ | refine ⟨cdiv_v (by omega) (by omega), ?_⟩ | refine ⟨cdiv_c (by decide) (by decide), ?_⟩ | refine ⟨(by decide), ?_⟩ | refine ⟨Nat.le_of_ble_eq_true rfl, ?_⟩ | refine ⟨⟨by decide, by decide, by decide⟩, ?_⟩); (conv => whnf))))
    first | refine bcase (fun c2 => ?_) (fun c2 => ?_) | refine bcase0 (fun c2 => ?_) (fun c2 => ?_) | refine bcase1 (fun c2 => ?_) (fun c2 => ?_)
    · ((conv => whnf); (repeat ((first | refine ⟨(by show (0 : Int) < _; first | decide | omega), ?_⟩ | refine ⟨cmul_r (by decide) (by decide), ?_⟩ | refine ⟨cmul_l (by decide) (by decide), ?_⟩ | refine ⟨cmul_l (by omega) (by omega), ?_⟩ | refine ⟨cdiv_v (by omega) (by omega), ?_⟩ | refine ⟨cdiv_c (by decide) (by decide), ?_⟩ | refine ⟨(by decide), ?_⟩ | refine ⟨Nat.le_of_ble_eq_true rfl, ?_⟩ | refine ⟨⟨by decide, by decide, by decide⟩, ?_⟩); (conv => whnf))))
      refine p_draw hS1 (by decide) (by decide) fun v2 S2 a2 b2 hS2 kk2 => ?_
      have k2 := k1.trans kk2
      ((conv => whnf); (repeat ((first | refine ⟨(by show (0 : Int) < _; first | decide | omega), ?_⟩ | refine ⟨cmul_r (by decide) (by decide), ?_⟩ | refine ⟨cmul_l (by decide) (by decide), ?_⟩ | refine ⟨cmul_l (by omega) (by omega), ?_⟩ | refine ⟨cdiv_v (by omega) (by omega), ?_⟩ | refine ⟨cdiv_c (by decide) (by decide), ?_⟩ | refine ⟨(by decide), ?_⟩ | refine ⟨Nat.le_of_ble_eq_true rfl, ?_⟩ | refine ⟨⟨by decide, by decide, by decide⟩, ?_⟩); (conv => whnf))))
      refine ix_all (fun d => ∃ s, d = .str s ∧ (PyData.str s).canLay0 = true) ?_ a2 b2 ?_
      · intro d hd
        simp only [List.mem_cons, List.not_mem_nil, or_false] at hd
        rcases hd with rfl | rfl | rfl | rfl | rfl <;> exact ⟨_, rfl, by decide +kernel⟩
      · rintro d ⟨s, rfl, hl⟩
        exact k _ _ (.inr (.inr (.inr (.inl ⟨s, rfl⟩)))) (fun s z => by cases z; exact hl) (fun m z => by cases z) hS2 k2
    · ((conv => whnf); (repeat ((first | refine ⟨(by show (0 : Int) < _; first | decide | omega), ?_⟩ | refine ⟨cmul_r (by decide) (by decide), ?_⟩ | refine ⟨cmul_l (by decide) (by decide), ?_⟩ | refine ⟨cmul_l (by omega) (by omega), ?_⟩ | refine ⟨cdiv_v (by omega) (by omega), ?_⟩ | refine ⟨cdiv_c (by decide) (by decide), ?_⟩ | refine ⟨(by decide), ?_⟩ | refine ⟨Nat.le_of_ble_eq_true rfl, ?_⟩ | refine ⟨⟨by decide, by decide, by decide⟩, ?_⟩); (conv => whnf))))
      first | refine bcase (fun c3 => ?_) (fun c3 => ?_) | refine bcase0 (fun c3 => ?_) (fun c3 => ?_) | refine bcase1 (fun c3 => ?_) (fun c3 => ?_)
      · ((conv => whnf); (repeat ((first | refine ⟨(by show (0 : Int) < _; first | decide | omega), ?_⟩ | refine ⟨cmul_r (by decide) (by decide), ?_⟩ | refine ⟨cmul_l (by decide) (by decide), ?_⟩ | refine ⟨cmul_l (by omega) (by omega), ?_⟩ | refine ⟨cdiv_v (by omega) (by omega), ?_⟩ | refine ⟨cdiv_c (by decide) (by decide), ?_⟩ | refine ⟨(by decide), ?_⟩ | refine ⟨Nat.le_of_ble_eq_true rfl, ?_⟩ | refine ⟨⟨by decide, by decide, by decide⟩, ?_⟩); (conv => whnf))))
        have e2 := get_new S1 (.lst [])
        have l1 := hS1.lt
        have le := k1.len
        have hS1 := hS1.keep (X := fun _ => False) (S' := S1 ++ [.lst []]) .app id
        have k1 : Kp (· = p) S (S1 ++ [.lst []]) := k1.add
        refine p_draw hS1 (by decide) (by decide) fun v2 S2 a2 b2 hS2 kk2 => ?_
        have k2 := k1.trans kk2
        ((conv => whnf); (repeat ((first | refine ⟨(by show (0 : Int) < _; first | decide | omega), ?_⟩ | refine ⟨cmul_r (by decide) (by decide), ?_⟩ | refine ⟨cmul_l (by decide) (by decide), ?_⟩ | refine ⟨cmul_l (by omega) (by omega), ?_⟩ | refine ⟨cdiv_v (by omega) (by omega), ?_⟩ | refine ⟨cdiv_c (by decide) (by decide), ?_⟩ | refine ⟨(by decide), ?_⟩ | refine ⟨Nat.le_of_ble_eq_true rfl, ?_⟩ | refine ⟨⟨by decide, by decide, by decide⟩, ?_⟩); (conv => whnf))))
        have e3 := kk2.get (show ¬ S1.length = p by omega) e2
        refine ix_all (fun d => Fl S2 d ∧ (∀ s, d = .str s → (PyData.str s).canLay0 = true) ∧ ∀ m, d = .ref m → S.length ≤ m) ?_ a2 b2 fun d hd => k d S2 hd.1 hd.2.1 hd.2.2 hS2 k2
        intro d hd
        simp only [List.mem_cons, List.not_mem_nil, or_false] at hd
        rcases hd with rfl | rfl | rfl | rfl
        · exact ⟨.inr (.inr (.inr (.inr (.inl rfl)))), fun s z => (by cases z), fun m z => by cases z⟩
        · refine ⟨.inr (.inr (.inr (.inr (.inr ⟨_, rfl, e3⟩)))), fun s z => (by cases z), fun m z => ?_⟩
          cases z
          exact le
        · exact ⟨.inr (.inr (.inr (.inl ⟨_, rfl⟩))), fun s z => (by cases z; decide +kernel), fun m z => by cases z⟩
        · exact ⟨.inr (.inl ⟨_, rfl⟩), fun s z => (by cases z), fun m z => by cases z⟩
      · ((conv => whnf); (repeat ((first | refine ⟨(by show (0 : Int) < _; first | decide | omega), ?_⟩ | refine ⟨cmul_r (by decide) (by decide), ?_⟩ | refine ⟨cmul_l (by decide) (by decide), ?_⟩ | refine ⟨cmul_l (by omega) (by omega), ?_⟩ | refine ⟨cdiv_v (by omega) (by omega), ?_⟩ | refine ⟨cdiv_c (by decide) (by decide), ?_⟩ | refine ⟨(by decide), ?_⟩ | refine ⟨Nat.le_of_ble_eq_true rfl, ?_⟩ | refine ⟨⟨by decide, by decide, by decide⟩, ?_⟩); (conv => whnf))))
        refine p_draw hS1 (by decide) (by decide) fun v2 S2 a2 b2 hS2 kk2 => ?_
        have k2 := k1.trans kk2
        ((conv => whnf); (repeat ((first | refine ⟨(by show (0 : Int) < _; first | decide | omega), ?_⟩ | refine ⟨cmul_r (by decide) (by decide), ?_⟩ | refine ⟨cmul_l (by decide) (by decide), ?_⟩ | refine ⟨cmul_l (by omega) (by omega), ?_⟩ | refine ⟨cdiv_v (by omega) (by omega), ?_⟩ | refine ⟨cdiv_c (by decide) (by decide), ?_⟩ | refine ⟨(by decide), ?_⟩ | refine ⟨Nat.le_of_ble_eq_true rfl, ?_⟩ | refine ⟨⟨by decide, by decide, by decide⟩, ?_⟩); (conv => whnf))))
        exact k _ _ (.inr (.inr (.inl ⟨_, rfl⟩))) (fun s z => by cases z) (fun m z => by cases z) hS2 k2
/-- what lists are in it came at b or later -/
def fr (b : Nat) (d : D) : Prop := (∀ m, d = .ref m → b ≤ m) ∧ ∀ ds, d = .tup ds → ∀ m, D.ref m ∈ ds → b ≤ m
theorem fr_reg {b : Nat} {g : Rg} : fr b (dRg g) := ⟨fun m z => (by cases z), fun ds z m h => by cases z; simp at h⟩
theorem mem_cut {ds : List D} {lo hi : Option Int} {x : D} (h : x ∈ cutL ds lo hi) : x ∈ ds := List.mem_of_mem_drop (List.mem_of_mem_take h)
theorem cut_len {ds : List D} {lo hi : Option Int} : (cutL ds lo hi).length ≤ ds.length := by
  unfold cutL
  rw [List.length_take, List.length_drop]
  omega
theorem Fl.kp {S S' : Sto} {d : D} {p : Nat} (h : Fl S d) (hs : Src S p) (k : Kp (· = p) S S') : Fl S' d := by
  rcases h with h | h | h | h | h | ⟨n, h, e⟩
  · exact .inl h
  · exact .inr (.inl h)
  · exact .inr (.inr (.inl h))
  · exact .inr (.inr (.inr (.inl h)))
  · exact .inr (.inr (.inr (.inr (.inl h))))
  · refine .inr (.inr (.inr (.inr (.inr ⟨n, h, k.get ?_ e⟩))))
    rintro rfl
    obtain ⟨x, y, _, e2⟩ := hs
    rw [e] at e2
    cases e2
theorem fl_int {S : Sto} (i : Int) : Fl S (.int i) := .inr (.inr (.inl ⟨i, rfl⟩))
theorem fl_str {S : Sto} (s : Str) : Fl S (.str s) := .inr (.inr (.inr (.inl ⟨s, rfl⟩)))
theorem it_reg {S : Sto} (g : Rg) : It S (dRg g) := .inl ⟨_, rfl, fun x hx => by
  simp only [List.mem_cons, List.not_mem_nil, or_false] at hx
  rcases hx with rfl | rfl | rfl | rfl
  · exact fl_int _
  · exact fl_int _
  · exact fl_str _
  · exact fl_int _⟩
theorem rows_it {S : Sto} {l : List D} {gs : List Rg} (u : Rows l gs) : ∀ d ∈ l, It S d := fun d hd => by
  have e := u.at_
  rw [List.take_length] at e
  rw [e] at hd
  obtain ⟨g, _, rfl⟩ := List.mem_map.mp hd
  exact it_reg g
theorem rows_fr {b : Nat} {l : List D} {gs : List Rg} (u : Rows l gs) : ∀ d ∈ l, fr b d := fun d hd => by
  have e := u.at_
  rw [List.take_length] at e
  rw [e] at hd
  obtain ⟨g, _, rfl⟩ := List.mem_map.mp hd
  exact fr_reg
theorem set_all {P : D → Prop} {l : List D} {j : Nat} {d : D} (h : ∀ x ∈ l, P x) (hd : P d) : ∀ x ∈ l.set j d, P x := fun x hx => (List.mem_or_eq_of_mem_set hx).elim (h x) fun z => z ▸ hd
theorem p_changed {S : Sto} {p n : Nat} {l : List D} {gs : List Rg} {q : DK} (hS : Src S p) (e : S[n]? = some (.lst l)) (u : Rows l gs) (hl : l.length ≤ 1000) (np : n ≠ p)
    (k : ∀ m l' S', S.length ≤ m → S'[m]? = some (.lst l') → (∀ d ∈ l', It S' d) → (∀ d ∈ l', fr S.length d) → l'.length ≤ 1000 → Src S' p → Kp (· = p) S S' → q (.ref m) S') : wp_law_changed [.ref p, .ref n] S q := by
  have hp := hS.lt
  rw [eq_law_changed]
  ((conv => whnf); (repeat ((first | refine ⟨(by show (0 : Int) < _; first | decide | omega), ?_⟩ | refine ⟨cmul_r (by decide) (by decide), ?_⟩ | refine ⟨cmul_l (by decide) (by decide), ?_⟩ | refine ⟨cmul_l (by omega) (by omega), ?_⟩ | refine ⟨cdiv_v (by omega) (by omega), ?_⟩ | refine ⟨cdiv_c (by decide) (by decide), ?_⟩ | refine ⟨(by decide), ?_⟩ | refine ⟨Nat.le_of_ble_eq_true rfl, ?_⟩ | refine ⟨⟨by decide, by decide, by decide⟩, ?_⟩); (conv => whnf))))
  rw [seqD_ref e]
  ((conv => whnf); (repeat ((first | refine ⟨(by show (0 : Int) < _; first | decide | omega), ?_⟩ | refine ⟨cmul_r (by decide) (by decide), ?_⟩ | refine ⟨cmul_l (by decide) (by decide), ?_⟩ | refine ⟨cmul_l (by omega) (by omega), ?_⟩ | refine ⟨cdiv_v (by omega) (by omega), ?_⟩ | refine ⟨cdiv_c (by decide) (by decide), ?_⟩ | refine ⟨(by decide), ?_⟩ | refine ⟨Nat.le_of_ble_eq_true rfl, ?_⟩ | refine ⟨⟨by decide, by decide, by decide⟩, ?_⟩); (conv => whnf))))
  first | refine bcase (fun c => ?_) (fun c => ?_) | refine bcase0 (fun c => ?_) (fun c => ?_) | refine bcase1 (fun c => ?_) (fun c => ?_)
  · ((conv => whnf); (repeat ((first | refine ⟨(by show (0 : Int) < _; first | decide | omega), ?_⟩ | refine ⟨cmul_r (by decide) (by decide), ?_⟩ | refine ⟨cmul_l (by decide) (by decide), ?_⟩ | refine ⟨cmul_l (by omega) (by omega), ?_⟩ | refine ⟨cdiv_v (by omega) (by omega), ?_⟩ | refine ⟨cdiv_c (by decide) (by decide), ?_⟩ | refine ⟨(by decide), ?_⟩ | refine ⟨Nat.le_of_ble_eq_true rfl, ?_⟩ | refine ⟨⟨by decide, by decide, by decide⟩, ?_⟩); (conv => whnf))))
    refine p_other hS fun d S1 hd _ hr hS1 k1 => ?_
    ((conv => whnf); (repeat ((first | refine ⟨(by show (0 : Int) < _; first | decide | omega), ?_⟩ | refine ⟨cmul_r (by decide) (by decide), ?_⟩ | refine ⟨cmul_l (by decide) (by decide), ?_⟩ | refine ⟨cmul_l (by omega) (by omega), ?_⟩ | refine ⟨cdiv_v (by omega) (by omega), ?_⟩ | refine ⟨cdiv_c (by decide) (by decide), ?_⟩ | refine ⟨(by decide), ?_⟩ | refine ⟨Nat.le_of_ble_eq_true rfl, ?_⟩ | refine ⟨⟨by decide, by decide, by decide⟩, ?_⟩); (conv => whnf))))
    exact k _ _ _ k1.len (get_new _ _) (fun x hx => by rw [List.mem_singleton.mp hx]; exact .inr (.inr (hd.keep .app))) (fun x hx => by rw [List.mem_singleton.mp hx]; exact ⟨hr, fun ds z m hm => by subst z; rcases hd with h | ⟨b, h⟩ | ⟨i, h⟩ | ⟨s, h⟩ | h | ⟨n, h, e⟩ <;> cases h; cases hm⟩) (Nat.le_of_ble_eq_true rfl) (hS1.keep (X := fun _ => False) .app id) k1.add
  · have c : ¬ (l.length : Int) = 0 := c
    have fin : ∀ (l' : List D) (S' : Sto) (a3 a4 a5 a6 a7 : Option D), S'[S.length]? = some (.lst l') → (∀ d ∈ l', It S' d) → (∀ d ∈ l', fr S.length d) → l'.length ≤ 1000 → Src S' p → Kp (· = p) S S' →
        c_law_changed_1 { nx := fun _ S' => q .non S', rt := q } [some (.ref p), some (.ref n), some (.ref S.length), a3, a4, a5, a6, a7] S' := by
      intro l' S' a3 a4 a5 a6 a7 e' h' hr' hl' hS' k'
      rw [eqc_law_changed_1]
      exact k _ _ _ (Nat.le_refl _) e' h' hr' hl' hS' k'
    have n1 : ¬ S.length = p := by omega
    ((conv => whnf); (repeat ((first | refine ⟨(by show (0 : Int) < _; first | decide | omega), ?_⟩ | refine ⟨cmul_r (by decide) (by decide), ?_⟩ | refine ⟨cmul_l (by decide) (by decide), ?_⟩ | refine ⟨cmul_l (by omega) (by omega), ?_⟩ | refine ⟨cdiv_v (by omega) (by omega), ?_⟩ | refine ⟨cdiv_c (by decide) (by decide), ?_⟩ | refine ⟨(by decide), ?_⟩ | refine ⟨Nat.le_of_ble_eq_true rfl, ?_⟩ | refine ⟨⟨by decide, by decide, by decide⟩, ?_⟩); (conv => whnf))))
    rw [seqD_ref e]
    ((conv => whnf); (repeat ((first | refine ⟨(by show (0 : Int) < _; first | decide | omega), ?_⟩ | refine ⟨cmul_r (by decide) (by decide), ?_⟩ | refine ⟨cmul_l (by decide) (by decide), ?_⟩ | refine ⟨cmul_l (by omega) (by omega), ?_⟩ | refine ⟨cdiv_v (by omega) (by omega), ?_⟩ | refine ⟨cdiv_c (by decide) (by decide), ?_⟩ | refine ⟨(by decide), ?_⟩ | refine ⟨Nat.le_of_ble_eq_true rfl, ?_⟩ | refine ⟨⟨by decide, by decide, by decide⟩, ?_⟩); (conv => whnf))))
    generalize hX : S ++ [Ob.lst l] = X
    have eX : X[S.length]? = some (.lst l) := by rw [← hX]; exact get_new _ _
    have kn : Kn S X := by rw [← hX]; exact .app
    have hS0 : Src X p := hS.keep kn id
    have k0 : Kp (· = p) S X := kn.mono fun _ z => z.elim
    ((conv => whnf); (repeat ((first | refine ⟨(by show (0 : Int) < _; first | decide | omega), ?_⟩ | refine ⟨cmul_r (by decide) (by decide), ?_⟩ | refine ⟨cmul_l (by decide) (by decide), ?_⟩ | refine ⟨cmul_l (by omega) (by omega), ?_⟩ | refine ⟨cdiv_v (by omega) (by omega), ?_⟩ | refine ⟨cdiv_c (by decide) (by decide), ?_⟩ | refine ⟨(by decide), ?_⟩ | refine ⟨Nat.le_of_ble_eq_true rfl, ?_⟩ | refine ⟨⟨by decide, by decide, by decide⟩, ?_⟩); (conv => whnf))))
    rw [seqD_ref eX]
    ((conv => whnf); (repeat ((first | refine ⟨(by show (0 : Int) < _; first | decide | omega), ?_⟩ | refine ⟨cmul_r (by decide) (by decide), ?_⟩ | refine ⟨cmul_l (by decide) (by decide), ?_⟩ | refine ⟨cmul_l (by omega) (by omega), ?_⟩ | refine ⟨cdiv_v (by omega) (by omega), ?_⟩ | refine ⟨cdiv_c (by decide) (by decide), ?_⟩ | refine ⟨(by decide), ?_⟩ | refine ⟨Nat.le_of_ble_eq_true rfl, ?_⟩ | refine ⟨⟨by decide, by decide, by decide⟩, ?_⟩); (conv => whnf))))
    refine p_draw hS0 (by show (0 : Int) < (l.length : Int); omega) (by show (l.length : Int) ≤ _; omega) fun v1 S1 a1 b1 hS1 kk1 => ?_
    have b1 : v1 < (l.length : Int) := b1
    have k1 := k0.trans kk1
    have e1 := kk1.get n1 eX
    ((conv => whnf); (repeat ((first | refine ⟨(by show (0 : Int) < _; first | decide | omega), ?_⟩ | refine ⟨cmul_r (by decide) (by decide), ?_⟩ | refine ⟨cmul_l (by decide) (by decide), ?_⟩ | refine ⟨cmul_l (by omega) (by omega), ?_⟩ | refine ⟨cdiv_v (by omega) (by omega), ?_⟩ | refine ⟨cdiv_c (by decide) (by decide), ?_⟩ | refine ⟨(by decide), ?_⟩ | refine ⟨Nat.le_of_ble_eq_true rfl, ?_⟩ | refine ⟨⟨by decide, by decide, by decide⟩, ?_⟩); (conv => whnf))))
    rw [seqD_ref e1]
    ((conv => whnf); (repeat ((first | refine ⟨(by show (0 : Int) < _; first | decide | omega), ?_⟩ | refine ⟨cmul_r (by decide) (by decide), ?_⟩ | refine ⟨cmul_l (by decide) (by decide), ?_⟩ | refine ⟨cmul_l (by omega) (by omega), ?_⟩ | refine ⟨cdiv_v (by omega) (by omega), ?_⟩ | refine ⟨cdiv_c (by decide) (by decide), ?_⟩ | refine ⟨(by decide), ?_⟩ | refine ⟨Nat.le_of_ble_eq_true rfl, ?_⟩ | refine ⟨⟨by decide, by decide, by decide⟩, ?_⟩); (conv => whnf))))
    have hv : l[v1.toNat]? = some (l[v1.toNat]'(by omega)) := List.getElem?_eq_getElem _
    obtain ⟨g, hg, _⟩ := u.item hv
    rw [hg] at hv
    rw [atI_pos a1 hv]
    ((conv => whnf); (repeat ((first | refine ⟨(by show (0 : Int) < _; first | decide | omega), ?_⟩ | refine ⟨cmul_r (by decide) (by decide), ?_⟩ | refine ⟨cmul_l (by decide) (by decide), ?_⟩ | refine ⟨cmul_l (by omega) (by omega), ?_⟩ | refine ⟨cdiv_v (by omega) (by omega), ?_⟩ | refine ⟨cdiv_c (by decide) (by decide), ?_⟩ | refine ⟨(by decide), ?_⟩ | refine ⟨Nat.le_of_ble_eq_true rfl, ?_⟩ | refine ⟨⟨by decide, by decide, by decide⟩, ?_⟩); (conv => whnf))))
    refine p_draw hS1 (by decide) (by decide) fun v2 S2 a2 b2 hS2 kk2 => ?_
    have k2 := k1.trans kk2
    ((conv => whnf); (repeat ((first | refine ⟨(by show (0 : Int) < _; first | decide | omega), ?_⟩ | refine ⟨cmul_r (by decide) (by decide), ?_⟩ | refine ⟨cmul_l (by decide) (by decide), ?_⟩ | refine ⟨cmul_l (by omega) (by omega), ?_⟩ | refine ⟨cdiv_v (by omega) (by omega), ?_⟩ | refine ⟨cdiv_c (by decide) (by decide), ?_⟩ | refine ⟨(by decide), ?_⟩ | refine ⟨Nat.le_of_ble_eq_true rfl, ?_⟩ | refine ⟨⟨by decide, by decide, by decide⟩, ?_⟩); (conv => whnf))))
    have e2 := kk2.get n1 e1
    refine p_draw hS2 (by decide) (by decide) fun v3 S3 a3 b3 hS3 kk3 => ?_
    have k3 := k2.trans kk3
    ((conv => whnf); (repeat ((first | refine ⟨(by show (0 : Int) < _; first | decide | omega), ?_⟩ | refine ⟨cmul_r (by decide) (by decide), ?_⟩ | refine ⟨cmul_l (by decide) (by decide), ?_⟩ | refine ⟨cmul_l (by omega) (by omega), ?_⟩ | refine ⟨cdiv_v (by omega) (by omega), ?_⟩ | refine ⟨cdiv_c (by decide) (by decide), ?_⟩ | refine ⟨(by decide), ?_⟩ | refine ⟨Nat.le_of_ble_eq_true rfl, ?_⟩ | refine ⟨⟨by decide, by decide, by decide⟩, ?_⟩); (conv => whnf))))
    have e3 := kk3.get n1 e2
    have ix : ∀ v : Int, 0 ≤ v → v < (l.length : Int) → ixN l.length v = some v.toNat := fun v h0 h1 => by
      unfold ixN
      rw [if_pos h0, if_pos h1]
    have hne : l ≠ [] := by
      rintro rfl
      exact c rfl
    have flput : ∀ {T : Sto} {o : Ob} {x : D}, T[S.length]? = some (.lst l) → Fl T x → Fl (T.set S.length o) x := by
      rintro T o x eT (h | h | h | h | h | ⟨m, h, em⟩)
      · exact .inl h
      · exact .inr (.inl h)
      · exact .inr (.inr (.inl h))
      · exact .inr (.inr (.inr (.inl h)))
      · exact .inr (.inr (.inr (.inr (.inl h))))
      · refine .inr (.inr (.inr (.inr (.inr ⟨m, h, (Kp.set (X := (· = S.length)) rfl).get ?_ em⟩))))
        rintro rfl
        rw [eT] at em
        cases em
        exact hne rfl
    have put : ∀ (T : Sto) (d : D) (a3 a4 a5 a6 a7 : Option D), T[S.length]? = some (.lst l) → It T d → (∀ m, d = .ref m → m ≠ S.length) → fr S.length d → Src T p → Kp (· = p) S T →
        c_law_changed_1 { nx := fun _ S' => q .non S', rt := q } [some (.ref p), some (.ref n), some (.ref S.length), a3, a4, a5, a6, a7] (T.set S.length (.lst (l.set v1.toNat d))) := by
      intro T d a3 a4 a5 a6 a7 eT hd hm hfr hT kT
      have kk : Kp (· = S.length) T (T.set S.length (.lst (l.set v1.toNat d))) := .set rfl
      refine fin _ _ _ _ _ _ _ (get_set eT) (set_all (rows_it u) ?_) (set_all (rows_fr u) hfr) (by rw [List.length_set]; exact hl) (hT.keep kk (by omega)) (kT.put (Nat.le_refl _))
      rcases hd with ⟨ds, rfl, hx⟩ | ⟨m, es, rfl, em⟩ | hd
      · exact .inl ⟨ds, rfl, fun x h => flput eT (hx x h)⟩
      · exact .inr (.inl ⟨m, es, rfl, kk.get (hm m rfl) em⟩)
      · exact .inr (.inr (flput eT hd))
    have fg : ∀ {T : Sto} {x : D}, x ∈ [D.int g.start, .int g.size, .str (fl g.sec), .int g.most] → Fl T x := by
      intro T x hx
      simp only [List.mem_cons, List.not_mem_nil, or_false] at hx
      rcases hx with rfl | rfl | rfl | rfl
      · exact fl_int _
      · exact fl_int _
      · exact fl_str _
      · exact fl_int _
    first | refine bcase (fun z0 => ?_) (fun z0 => ?_) | refine bcase0 (fun z0 => ?_) (fun z0 => ?_) | refine bcase1 (fun z0 => ?_) (fun z0 => ?_)
    · ((conv => whnf); (repeat ((first | refine ⟨(by show (0 : Int) < _; first | decide | omega), ?_⟩ | refine ⟨cmul_r (by decide) (by decide), ?_⟩ | refine ⟨cmul_l (by decide) (by decide), ?_⟩ | refine ⟨cmul_l (by omega) (by omega), ?_⟩ | refine ⟨cdiv_v (by omega) (by omega), ?_⟩ | refine ⟨cdiv_c (by decide) (by decide), ?_⟩ | refine ⟨(by decide), ?_⟩ | refine ⟨Nat.le_of_ble_eq_true rfl, ?_⟩ | refine ⟨⟨by decide, by decide, by decide⟩, ?_⟩); (conv => whnf))))
      refine ⟨Nat.le_trans (Nat.add_le_add cut_len cut_len) (Nat.le_of_ble_eq_true rfl), ?_⟩
      ((conv => whnf); (repeat ((first | refine ⟨(by show (0 : Int) < _; first | decide | omega), ?_⟩ | refine ⟨cmul_r (by decide) (by decide), ?_⟩ | refine ⟨cmul_l (by decide) (by decide), ?_⟩ | refine ⟨cmul_l (by omega) (by omega), ?_⟩ | refine ⟨cdiv_v (by omega) (by omega), ?_⟩ | refine ⟨cdiv_c (by decide) (by decide), ?_⟩ | refine ⟨(by decide), ?_⟩ | refine ⟨Nat.le_of_ble_eq_true rfl, ?_⟩ | refine ⟨⟨by decide, by decide, by decide⟩, ?_⟩); (conv => whnf))))
      rw [look_of e3]
      conv => whnf
      rw [ix v1 a1 b1]
      conv => whnf
      exact put S3 _ _ _ _ _ _ e3 (.inl ⟨_, rfl, fun x hx => fg ((List.mem_append.mp hx).elim mem_cut mem_cut)⟩) (fun m z => by cases z) ⟨fun m z => (by cases z), fun ds z m hm => by cases z; exact absurd ((List.mem_append.mp hm).elim mem_cut mem_cut) (by simp)⟩ hS3 k3
    · ((conv => whnf); (repeat ((first | refine ⟨(by show (0 : Int) < _; first | decide | omega), ?_⟩ | refine ⟨cmul_r (by decide) (by decide), ?_⟩ | refine ⟨cmul_l (by decide) (by decide), ?_⟩ | refine ⟨cmul_l (by omega) (by omega), ?_⟩ | refine ⟨cdiv_v (by omega) (by omega), ?_⟩ | refine ⟨cdiv_c (by decide) (by decide), ?_⟩ | refine ⟨(by decide), ?_⟩ | refine ⟨Nat.le_of_ble_eq_true rfl, ?_⟩ | refine ⟨⟨by decide, by decide, by decide⟩, ?_⟩); (conv => whnf))))
      first | refine bcase (fun z1 => ?_) (fun z1 => ?_) | refine bcase0 (fun z1 => ?_) (fun z1 => ?_) | refine bcase1 (fun z1 => ?_) (fun z1 => ?_)
      · ((conv => whnf); (repeat ((first | refine ⟨(by show (0 : Int) < _; first | decide | omega), ?_⟩ | refine ⟨cmul_r (by decide) (by decide), ?_⟩ | refine ⟨cmul_l (by decide) (by decide), ?_⟩ | refine ⟨cmul_l (by omega) (by omega), ?_⟩ | refine ⟨cdiv_v (by omega) (by omega), ?_⟩ | refine ⟨cdiv_c (by decide) (by decide), ?_⟩ | refine ⟨(by decide), ?_⟩ | refine ⟨Nat.le_of_ble_eq_true rfl, ?_⟩ | refine ⟨⟨by decide, by decide, by decide⟩, ?_⟩); (conv => whnf))))
        have e4 := Kn.get (S' := S3 ++ [Ob.lst [D.int g.start, .int g.size, .str (fl g.sec), .int g.most]]) .app e3
        rw [look_of e4]
        conv => whnf
        rw [ix v1 a1 b1]
        conv => whnf
        exact put (S3 ++ [Ob.lst [D.int g.start, .int g.size, .str (fl g.sec), .int g.most]]) _ _ _ _ _ _ e4 (.inr (.inl ⟨_, _, rfl, get_new _ _⟩)) (fun m z => by cases z; have := lt_of_get e3; omega) ⟨fun m z => (by cases z; have := lt_of_get e3; omega), fun ds z => by cases z⟩ (hS3.keep (X := fun _ => False) .app id) k3.add
      · ((conv => whnf); (repeat ((first | refine ⟨(by show (0 : Int) < _; first | decide | omega), ?_⟩ | refine ⟨cmul_r (by decide) (by decide), ?_⟩ | refine ⟨cmul_l (by decide) (by decide), ?_⟩ | refine ⟨cmul_l (by omega) (by omega), ?_⟩ | refine ⟨cdiv_v (by omega) (by omega), ?_⟩ | refine ⟨cdiv_c (by decide) (by decide), ?_⟩ | refine ⟨(by decide), ?_⟩ | refine ⟨Nat.le_of_ble_eq_true rfl, ?_⟩ | refine ⟨⟨by decide, by decide, by decide⟩, ?_⟩); (conv => whnf))))
        first | refine bcase (fun z2 => ?_) (fun z2 => ?_) | refine bcase0 (fun z2 => ?_) (fun z2 => ?_) | refine bcase1 (fun z2 => ?_) (fun z2 => ?_)
        · ((conv => whnf); (repeat ((first | refine ⟨(by show (0 : Int) < _; first | decide | omega), ?_⟩ | refine ⟨cmul_r (by decide) (by decide), ?_⟩ | refine ⟨cmul_l (by decide) (by decide), ?_⟩ | refine ⟨cmul_l (by omega) (by omega), ?_⟩ | refine ⟨cdiv_v (by omega) (by omega), ?_⟩ | refine ⟨cdiv_c (by decide) (by decide), ?_⟩ | refine ⟨(by decide), ?_⟩ | refine ⟨Nat.le_of_ble_eq_true rfl, ?_⟩ | refine ⟨⟨by decide, by decide, by decide⟩, ?_⟩); (conv => whnf))))
          rw [seqD_ref e3]
          ((conv => whnf); (repeat ((first | refine ⟨(by show (0 : Int) < _; first | decide | omega), ?_⟩ | refine ⟨cmul_r (by decide) (by decide), ?_⟩ | refine ⟨cmul_l (by decide) (by decide), ?_⟩ | refine ⟨cmul_l (by omega) (by omega), ?_⟩ | refine ⟨cdiv_v (by omega) (by omega), ?_⟩ | refine ⟨cdiv_c (by decide) (by decide), ?_⟩ | refine ⟨(by decide), ?_⟩ | refine ⟨Nat.le_of_ble_eq_true rfl, ?_⟩ | refine ⟨⟨by decide, by decide, by decide⟩, ?_⟩); (conv => whnf))))
          refine p_draw hS3 (by show (0 : Int) < (l.length : Int); omega) (by show (l.length : Int) ≤ _; omega) fun v4 S4 a4 b4 hS4 kk4 => ?_
          have b4 : v4 < (l.length : Int) := b4
          have k4 := k3.trans kk4
          have e4 := kk4.get n1 e3
          ((conv => whnf); (repeat ((first | refine ⟨(by show (0 : Int) < _; first | decide | omega), ?_⟩ | refine ⟨cmul_r (by decide) (by decide), ?_⟩ | refine ⟨cmul_l (by decide) (by decide), ?_⟩ | refine ⟨cmul_l (by omega) (by omega), ?_⟩ | refine ⟨cdiv_v (by omega) (by omega), ?_⟩ | refine ⟨cdiv_c (by decide) (by decide), ?_⟩ | refine ⟨(by decide), ?_⟩ | refine ⟨Nat.le_of_ble_eq_true rfl, ?_⟩ | refine ⟨⟨by decide, by decide, by decide⟩, ?_⟩); (conv => whnf))))
          rw [seqD_ref e4]
          ((conv => whnf); (repeat ((first | refine ⟨(by show (0 : Int) < _; first | decide | omega), ?_⟩ | refine ⟨cmul_r (by decide) (by decide), ?_⟩ | refine ⟨cmul_l (by decide) (by decide), ?_⟩ | refine ⟨cmul_l (by omega) (by omega), ?_⟩ | refine ⟨cdiv_v (by omega) (by omega), ?_⟩ | refine ⟨cdiv_c (by decide) (by decide), ?_⟩ | refine ⟨(by decide), ?_⟩ | refine ⟨Nat.le_of_ble_eq_true rfl, ?_⟩ | refine ⟨⟨by decide, by decide, by decide⟩, ?_⟩); (conv => whnf))))
          have hw : l[v4.toNat]? = some (l[v4.toNat]'(by omega)) := List.getElem?_eq_getElem _
          obtain ⟨g2, hg2, _⟩ := u.item hw
          rw [hg2] at hw
          rw [atI_pos a4 hw]
          ((conv => whnf); (repeat ((first | refine ⟨(by show (0 : Int) < _; first | decide | omega), ?_⟩ | refine ⟨cmul_r (by decide) (by decide), ?_⟩ | refine ⟨cmul_l (by decide) (by decide), ?_⟩ | refine ⟨cmul_l (by omega) (by omega), ?_⟩ | refine ⟨cdiv_v (by omega) (by omega), ?_⟩ | refine ⟨cdiv_c (by decide) (by decide), ?_⟩ | refine ⟨(by decide), ?_⟩ | refine ⟨Nat.le_of_ble_eq_true rfl, ?_⟩ | refine ⟨⟨by decide, by decide, by decide⟩, ?_⟩); (conv => whnf))))
          rw [look_of e4]
          conv => whnf
          rw [ix v1 a1 b1]
          conv => whnf
          generalize h5 : S4.set S.length _ = S5
          have e5 : S5[S.length]? = some _ := (congrArg (fun s : Sto => s[S.length]?) h5.symm).trans (get_set e4)
          have kk5 : Kp (· = S.length) S4 S5 := by rw [← h5]; exact .set rfl
          have k5 : Kp (· = p) S S5 := by rw [← h5]; exact k4.put (Nat.le_refl _)
          have hS5 := hS4.keep kk5 (by omega)
          ((conv => whnf); (repeat ((first | refine ⟨(by show (0 : Int) < _; first | decide | omega), ?_⟩ | refine ⟨cmul_r (by decide) (by decide), ?_⟩ | refine ⟨cmul_l (by decide) (by decide), ?_⟩ | refine ⟨cmul_l (by omega) (by omega), ?_⟩ | refine ⟨cdiv_v (by omega) (by omega), ?_⟩ | refine ⟨cdiv_c (by decide) (by decide), ?_⟩ | refine ⟨(by decide), ?_⟩ | refine ⟨Nat.le_of_ble_eq_true rfl, ?_⟩ | refine ⟨⟨by decide, by decide, by decide⟩, ?_⟩); (conv => whnf))))
          rw [look_of e5]
          conv => whnf
          rw [List.length_set, ix v4 a4 b4]
          conv => whnf
          refine fin _ _ _ _ _ _ _ (get_set e5) (set_all (set_all (rows_it u) (it_reg _)) (it_reg _)) (set_all (set_all (rows_fr u) fr_reg) fr_reg) (by rw [List.length_set, List.length_set]; exact hl) (hS5.keep (X := (· = S.length)) (.set rfl) (by omega)) (k5.put (Nat.le_refl _))
        · ((conv => whnf); (repeat ((first | refine ⟨(by show (0 : Int) < _; first | decide | omega), ?_⟩ | refine ⟨cmul_r (by decide) (by decide), ?_⟩ | refine ⟨cmul_l (by decide) (by decide), ?_⟩ | refine ⟨cmul_l (by omega) (by omega), ?_⟩ | refine ⟨cdiv_v (by omega) (by omega), ?_⟩ | refine ⟨cdiv_c (by decide) (by decide), ?_⟩ | refine ⟨(by decide), ?_⟩ | refine ⟨Nat.le_of_ble_eq_true rfl, ?_⟩ | refine ⟨⟨by decide, by decide, by decide⟩, ?_⟩); (conv => whnf))))
          first | refine bcase (fun z3 => ?_) (fun z3 => ?_) | refine bcase0 (fun z3 => ?_) (fun z3 => ?_) | refine bcase1 (fun z3 => ?_) (fun z3 => ?_)
          · ((conv => whnf); (repeat ((first | refine ⟨(by show (0 : Int) < _; first | decide | omega), ?_⟩ | refine ⟨cmul_r (by decide) (by decide), ?_⟩ | refine ⟨cmul_l (by decide) (by decide), ?_⟩ | refine ⟨cmul_l (by omega) (by omega), ?_⟩ | refine ⟨cdiv_v (by omega) (by omega), ?_⟩ | refine ⟨cdiv_c (by decide) (by decide), ?_⟩ | refine ⟨(by decide), ?_⟩ | refine ⟨Nat.le_of_ble_eq_true rfl, ?_⟩ | refine ⟨⟨by decide, by decide, by decide⟩, ?_⟩); (conv => whnf))))
            rw [look_of e3]
            conv => whnf
            rw [ix v1 a1 b1]
            conv => whnf
            exact put S3 (dRg ⟨g.start, g.size + 1, g.sec, g.most⟩) _ _ _ _ _ e3 (it_reg _) (fun m z => by cases z) fr_reg hS3 k3
          · ((conv => whnf); (repeat ((first | refine ⟨(by show (0 : Int) < _; first | decide | omega), ?_⟩ | refine ⟨cmul_r (by decide) (by decide), ?_⟩ | refine ⟨cmul_l (by decide) (by decide), ?_⟩ | refine ⟨cmul_l (by omega) (by omega), ?_⟩ | refine ⟨cdiv_v (by omega) (by omega), ?_⟩ | refine ⟨cdiv_c (by decide) (by decide), ?_⟩ | refine ⟨(by decide), ?_⟩ | refine ⟨Nat.le_of_ble_eq_true rfl, ?_⟩ | refine ⟨⟨by decide, by decide, by decide⟩, ?_⟩); (conv => whnf))))
            first | refine bcase (fun z4 => ?_) (fun z4 => ?_) | refine bcase0 (fun z4 => ?_) (fun z4 => ?_) | refine bcase1 (fun z4 => ?_) (fun z4 => ?_)
            · ((conv => whnf); (repeat ((first | refine ⟨(by show (0 : Int) < _; first | decide | omega), ?_⟩ | refine ⟨cmul_r (by decide) (by decide), ?_⟩ | refine ⟨cmul_l (by decide) (by decide), ?_⟩ | refine ⟨cmul_l (by omega) (by omega), ?_⟩ | refine ⟨cdiv_v (by omega) (by omega), ?_⟩ | refine ⟨cdiv_c (by decide) (by decide), ?_⟩ | refine ⟨(by decide), ?_⟩ | refine ⟨Nat.le_of_ble_eq_true rfl, ?_⟩ | refine ⟨⟨by decide, by decide, by decide⟩, ?_⟩); (conv => whnf))))
              rw [look_of e3]
              conv => whnf
              rw [ix v1 a1 b1]
              conv => whnf
              exact put S3 (dRg ⟨g.start - 1, g.size, g.sec, g.most⟩) _ _ _ _ _ e3 (it_reg _) (fun m z => by cases z) fr_reg hS3 k3
            · ((conv => whnf); (repeat ((first | refine ⟨(by show (0 : Int) < _; first | decide | omega), ?_⟩ | refine ⟨cmul_r (by decide) (by decide), ?_⟩ | refine ⟨cmul_l (by decide) (by decide), ?_⟩ | refine ⟨cmul_l (by omega) (by omega), ?_⟩ | refine ⟨cdiv_v (by omega) (by omega), ?_⟩ | refine ⟨cdiv_c (by decide) (by decide), ?_⟩ | refine ⟨(by decide), ?_⟩ | refine ⟨Nat.le_of_ble_eq_true rfl, ?_⟩ | refine ⟨⟨by decide, by decide, by decide⟩, ?_⟩); (conv => whnf))))
              refine p_other hS3 fun d S4 hd _ hrd hS4 kk4 => ?_
              have e4 := kk4.get n1 e3
              ((conv => whnf); (repeat ((first | refine ⟨(by show (0 : Int) < _; first | decide | omega), ?_⟩ | refine ⟨cmul_r (by decide) (by decide), ?_⟩ | refine ⟨cmul_l (by decide) (by decide), ?_⟩ | refine ⟨cmul_l (by omega) (by omega), ?_⟩ | refine ⟨cdiv_v (by omega) (by omega), ?_⟩ | refine ⟨cdiv_c (by decide) (by decide), ?_⟩ | refine ⟨(by decide), ?_⟩ | refine ⟨Nat.le_of_ble_eq_true rfl, ?_⟩ | refine ⟨⟨by decide, by decide, by decide⟩, ?_⟩); (conv => whnf))))
              refine ⟨Nat.le_trans (Nat.add_le_add_right cut_len _) (Nat.le_of_ble_eq_true rfl), ?_⟩
              ((conv => whnf); (repeat ((first | refine ⟨(by show (0 : Int) < _; first | decide | omega), ?_⟩ | refine ⟨cmul_r (by decide) (by decide), ?_⟩ | refine ⟨cmul_l (by decide) (by decide), ?_⟩ | refine ⟨cmul_l (by omega) (by omega), ?_⟩ | refine ⟨cdiv_v (by omega) (by omega), ?_⟩ | refine ⟨cdiv_c (by decide) (by decide), ?_⟩ | refine ⟨(by decide), ?_⟩ | refine ⟨Nat.le_of_ble_eq_true rfl, ?_⟩ | refine ⟨⟨by decide, by decide, by decide⟩, ?_⟩); (conv => whnf))))
              refine ⟨by
                have h1 : (cutL [D.int g.start, D.int g.size, D.str (fl g.sec), D.int g.most] none (some v3)).length ≤ 4 := cut_len
                have h2 : (cutL [D.int g.start, D.int g.size, D.str (fl g.sec), D.int g.most] (some (v3 + 1)) none).length ≤ 4 := cut_len
                have h3 : [d].length = 1 := rfl
                rw [List.length_append]
                omega, ?_⟩
              ((conv => whnf); (repeat ((first | refine ⟨(by show (0 : Int) < _; first | decide | omega), ?_⟩ | refine ⟨cmul_r (by decide) (by decide), ?_⟩ | refine ⟨cmul_l (by decide) (by decide), ?_⟩ | refine ⟨cmul_l (by omega) (by omega), ?_⟩ | refine ⟨cdiv_v (by omega) (by omega), ?_⟩ | refine ⟨cdiv_c (by decide) (by decide), ?_⟩ | refine ⟨(by decide), ?_⟩ | refine ⟨Nat.le_of_ble_eq_true rfl, ?_⟩ | refine ⟨⟨by decide, by decide, by decide⟩, ?_⟩); (conv => whnf))))
              rw [look_of e4]
              conv => whnf
              rw [ix v1 a1 b1]
              conv => whnf
              exact put S4 _ _ _ _ _ _ e4 (.inl ⟨_, rfl, fun x hx => (List.mem_append.mp hx).elim (fun y => (List.mem_append.mp y).elim (fun y => fg (mem_cut y)) fun y => by rw [List.mem_singleton.mp y]; exact hd) fun y => fg (mem_cut y)⟩) (fun m z => by cases z) ⟨fun m z => (by cases z), fun ds z m hm => by
                cases z
                rcases List.mem_append.mp hm with hm | hm
                · rcases List.mem_append.mp hm with hm | hm
                  · exact absurd (mem_cut hm) (by simp)
                  · have := hrd m (List.mem_singleton.mp hm).symm
                    have := k3.len
                    omega
                · exact absurd (mem_cut hm) (by simp)⟩ hS4 (k3.trans kk4)
end K27

set_option Elab.async false
set_option linter.all false
set_option maxRecDepth 100000
set_option maxHeartbeats 4000000
namespace K27
open PySem PySem.Spec PyProof.Rows L2 DT
/-- a layout -/
structure Lay (gs : List Rg) : Prop where
  vr : ∀ g ∈ gs, vR g
  adj : ∀ (j : Nat) g h, gs[j]? = some g → gs[j + 1]? = some h → g.start + g.size ≤ h.start
  few : gs.length ≤ 256
theorem Lay.ok {gs : List Rg} (l : Lay gs) : LayOk gs := by
  refine ⟨?_, fun g h => ⟨(l.vr g h).2.1, (l.vr g h).1⟩, fun g h => (l.vr g h).2.2.2, Nat.le_trans l.few (by decide)⟩
  have key : ∀ (n i : Nat) (g h : Rg), gs[i]? = some g → gs[i + n + 1]? = some h → g.start + g.size ≤ h.start := by
    intro n
    induction n with
    | zero => exact fun i g h h1 h2 => l.adj i g h h1 h2
    | succ n ih =>
      intro i g h h1 h2
      have hl := (List.getElem?_eq_some_iff.mp h2).1
      have e := List.getElem?_eq_getElem (show i + n + 1 < gs.length by omega)
      have a := ih i g _ h1 e
      have b := l.adj _ _ h e h2
      have c := (l.vr _ (List.mem_of_getElem? e)).2.1
      omega
  intro i j g h hij h1 h2
  exact key (j - i - 1) i g h h1 (by rw [show i + (j - i - 1) + 1 = j by omega]; exact h2)
theorem at_last {α : Type} {xs : List α} {x : α} (h : xs.getLast? = some x) : atI xs (-1) = some x := by
  obtain ⟨ys, rfl⟩ := List.getLast?_eq_some_iff.mp h
  exact atI_last ys x
theorem last_cases (gs : List Rg) : (gs = [] ∧ lastE gs = 0) ∨ ∃ g, gs.getLast? = some g ∧ g ∈ gs ∧ lastE gs = g.start + g.size ∧ 0 < gs.length := by
  cases e : gs.getLast? with
  | none =>
    have := List.getLast?_eq_none_iff.mp e
    subst this
    exact .inl ⟨rfl, rfl⟩
  | some g =>
    refine .inr ⟨g, rfl, List.mem_of_getLast? e, by unfold lastE; rw [e], ?_⟩
    cases gs with
    | nil => cases e
    | cons _ _ => exact Nat.succ_pos _
theorem map_last {gs : List Rg} {g : Rg} (h : gs.getLast? = some g) : atI (gs.map dRg) (-1) = some (dRg g) := at_last (by rw [List.getLast?_map, h]; rfl)
theorem lay_len {gs : List Rg} : (((gs.map dRg).length : Nat) : Int) = (gs.length : Int) := by rw [List.length_map]
theorem p_layout_end {gs : List Rg} {S : Sto} {q : DK} (k : q (.int (lastE gs)) S) : wp_layout_end [dLay gs] S q := by
  rw [eq_layout_end]
  rcases last_cases gs with ⟨rfl, e⟩ | ⟨g, hg, _, e, hp⟩
  · rw [e] at k
    exact k
  · rw [e] at k
    ((conv => whnf); (repeat ((first | refine ⟨(by show (0 : Int) < _; first | decide | omega), ?_⟩ | refine ⟨cmul_r (by decide) (by decide), ?_⟩ | refine ⟨cmul_l (by decide) (by decide), ?_⟩ | refine ⟨cmul_l (by omega) (by omega), ?_⟩ | refine ⟨cdiv_v (by omega) (by omega), ?_⟩ | refine ⟨cdiv_c (by decide) (by decide), ?_⟩ | refine ⟨(by decide), ?_⟩ | refine ⟨Nat.le_of_ble_eq_true rfl, ?_⟩ | refine ⟨⟨by decide, by decide, by decide⟩, ?_⟩); (conv => whnf))))
    rw [lay_len]
    refine bcase0 (fun z => absurd z (by omega)) fun _ => ?_
    ((conv => whnf); (repeat ((first | refine ⟨(by show (0 : Int) < _; first | decide | omega), ?_⟩ | refine ⟨cmul_r (by decide) (by decide), ?_⟩ | refine ⟨cmul_l (by decide) (by decide), ?_⟩ | refine ⟨cmul_l (by omega) (by omega), ?_⟩ | refine ⟨cdiv_v (by omega) (by omega), ?_⟩ | refine ⟨cdiv_c (by decide) (by decide), ?_⟩ | refine ⟨(by decide), ?_⟩ | refine ⟨Nat.le_of_ble_eq_true rfl, ?_⟩ | refine ⟨⟨by decide, by decide, by decide⟩, ?_⟩); (conv => whnf))))
    rw [map_last hg]
    ((conv => whnf); (repeat ((first | refine ⟨(by show (0 : Int) < _; first | decide | omega), ?_⟩ | refine ⟨cmul_r (by decide) (by decide), ?_⟩ | refine ⟨cmul_l (by decide) (by decide), ?_⟩ | refine ⟨cmul_l (by omega) (by omega), ?_⟩ | refine ⟨cdiv_v (by omega) (by omega), ?_⟩ | refine ⟨cdiv_c (by decide) (by decide), ?_⟩ | refine ⟨(by decide), ?_⟩ | refine ⟨Nat.le_of_ble_eq_true rfl, ?_⟩ | refine ⟨⟨by decide, by decide, by decide⟩, ?_⟩); (conv => whnf))))
    exact p_region_end k
theorem p_num_int {i l h : Int} {S : Sto} {q : DK} (k : q (.bl (decide (l ≤ i ∧ i ≤ h))) S) : wp_law_is_number [.int i, .int l, .int h] S q := p_num (.inr (.inr (.inr (.inr (.inl ⟨i, rfl⟩))))) k
theorem p_regions {gs : List Rg} {S : Sto} {p : Nat} {q : DK} (ly : Lay gs) (hS : Src S p) (k : ∀ S', Src S' p → Kp (· = p) S S' → q (.bl true) S') : wp_law_regions_hold [.ref p, dLay gs] S q := by
  have ok := ly.ok
  have hp := hS.lt
  have t1 : ∀ (d : XD) (v2 v4 v5 v6 v8 : Option D) (x z : Int) (S0 : Sto), regZ gs x z → d.nx [some (.ref p), some (dLay gs), v2, some (.int z), v4, v5, v6, some (.int x), v8] S0 → c_law_regions_hold_1 d [some (.ref p), some (dLay gs), v2, some (.int z), v4, v5, v6, some (.int x), v8] S0 := by
    intro d v2 v4 v5 v6 v8 x z S0 hz hn
    rw [eqc_law_regions_hold_1]
    ((conv => whnf); (repeat ((first | refine ⟨(by show (0 : Int) < _; first | decide | omega), ?_⟩ | refine ⟨cmul_r (by decide) (by decide), ?_⟩ | refine ⟨cmul_l (by decide) (by decide), ?_⟩ | refine ⟨cmul_l (by omega) (by omega), ?_⟩ | refine ⟨cdiv_v (by omega) (by omega), ?_⟩ | refine ⟨cdiv_c (by decide) (by decide), ?_⟩ | refine ⟨(by decide), ?_⟩ | refine ⟨Nat.le_of_ble_eq_true rfl, ?_⟩ | refine ⟨⟨by decide, by decide, by decide⟩, ?_⟩); (conv => whnf))))
    refine p_region_at ok fun z2 hz2 => ?_
    have : z2 = z := by
      rcases hz with ⟨rfl, h1⟩ | ⟨j, g, rfl, hj, h1⟩
      · rcases hz2 with ⟨rfl, _⟩ | ⟨i, g, rfl, hi, h2⟩
        · rfl
        · exact absurd h2 (h1 g (List.mem_of_getElem? hi))
      · rcases hz2 with ⟨rfl, h2⟩ | ⟨i, g', rfl, hi, h2⟩
        · exact absurd h1 (h2 g (List.mem_of_getElem? hj))
        · rw [has_uni ok hi hj h2 h1]
    subst this
    ((conv => whnf); (repeat ((first | refine ⟨(by show (0 : Int) < _; first | decide | omega), ?_⟩ | refine ⟨cmul_r (by decide) (by decide), ?_⟩ | refine ⟨cmul_l (by decide) (by decide), ?_⟩ | refine ⟨cmul_l (by omega) (by omega), ?_⟩ | refine ⟨cdiv_v (by omega) (by omega), ?_⟩ | refine ⟨cdiv_c (by decide) (by decide), ?_⟩ | refine ⟨(by decide), ?_⟩ | refine ⟨Nat.le_of_ble_eq_true rfl, ?_⟩ | refine ⟨⟨by decide, by decide, by decide⟩, ?_⟩); (conv => whnf))))
    refine p_num_int ?_
    ((conv => whnf); (repeat ((first | refine ⟨(by show (0 : Int) < _; first | decide | omega), ?_⟩ | refine ⟨cmul_r (by decide) (by decide), ?_⟩ | refine ⟨cmul_l (by decide) (by decide), ?_⟩ | refine ⟨cmul_l (by omega) (by omega), ?_⟩ | refine ⟨cdiv_v (by omega) (by omega), ?_⟩ | refine ⟨cdiv_c (by decide) (by decide), ?_⟩ | refine ⟨(by decide), ?_⟩ | refine ⟨Nat.le_of_ble_eq_true rfl, ?_⟩ | refine ⟨⟨by decide, by decide, by decide⟩, ?_⟩); (conv => whnf))))
    rw [decide_eq_true (show z2 ≤ z2 ∧ z2 ≤ z2 from ⟨Int.le_refl _, Int.le_refl _⟩)]
    exact hn
  have t2 : c_law_regions_hold_2 { nx := fun _ S' => q .non S', rt := q } [some (.ref p), some (dLay gs), some (.int (lastE gs)), some (.int (lastE gs)), none, none, none, none, none] S := by
    rw [eqc_law_regions_hold_2]
    ((conv => whnf); (repeat ((first | refine ⟨(by show (0 : Int) < _; first | decide | omega), ?_⟩ | refine ⟨cmul_r (by decide) (by decide), ?_⟩ | refine ⟨cmul_l (by decide) (by decide), ?_⟩ | refine ⟨cmul_l (by omega) (by omega), ?_⟩ | refine ⟨cdiv_v (by omega) (by omega), ?_⟩ | refine ⟨cdiv_c (by decide) (by decide), ?_⟩ | refine ⟨(by decide), ?_⟩ | refine ⟨Nat.le_of_ble_eq_true rfl, ?_⟩ | refine ⟨⟨by decide, by decide, by decide⟩, ?_⟩); (conv => whnf))))
    refine p_num_int ?_
    ((conv => whnf); (repeat ((first | refine ⟨(by show (0 : Int) < _; first | decide | omega), ?_⟩ | refine ⟨cmul_r (by decide) (by decide), ?_⟩ | refine ⟨cmul_l (by decide) (by decide), ?_⟩ | refine ⟨cmul_l (by omega) (by omega), ?_⟩ | refine ⟨cdiv_v (by omega) (by omega), ?_⟩ | refine ⟨cdiv_c (by decide) (by decide), ?_⟩ | refine ⟨(by decide), ?_⟩ | refine ⟨Nat.le_of_ble_eq_true rfl, ?_⟩ | refine ⟨⟨by decide, by decide, by decide⟩, ?_⟩); (conv => whnf))))
    rw [decide_eq_true (show lastE gs ≤ lastE gs ∧ lastE gs ≤ lastE gs from ⟨Int.le_refl _, Int.le_refl _⟩)]
    have hS0 := hS
    have k0 : Kp (· = p) S S := .rfl
    ((conv => whnf); (repeat ((first | refine ⟨(by show (0 : Int) < _; first | decide | omega), ?_⟩ | refine ⟨cmul_r (by decide) (by decide), ?_⟩ | refine ⟨cmul_l (by decide) (by decide), ?_⟩ | refine ⟨cmul_l (by omega) (by omega), ?_⟩ | refine ⟨cdiv_v (by omega) (by omega), ?_⟩ | refine ⟨cdiv_c (by decide) (by decide), ?_⟩ | refine ⟨(by decide), ?_⟩ | refine ⟨Nat.le_of_ble_eq_true rfl, ?_⟩ | refine ⟨⟨by decide, by decide, by decide⟩, ?_⟩); (conv => whnf))))
    refine p_draw hS0 (by decide) (by decide) fun v1 S1 a1 b1 hS1 kk1 => ?_
    have k1 := k0.trans kk1
    ((conv => whnf); (repeat ((first | refine ⟨(by show (0 : Int) < _; first | decide | omega), ?_⟩ | refine ⟨cmul_r (by decide) (by decide), ?_⟩ | refine ⟨cmul_l (by decide) (by decide), ?_⟩ | refine ⟨cmul_l (by omega) (by omega), ?_⟩ | refine ⟨cdiv_v (by omega) (by omega), ?_⟩ | refine ⟨cdiv_c (by decide) (by decide), ?_⟩ | refine ⟨(by decide), ?_⟩ | refine ⟨Nat.le_of_ble_eq_true rfl, ?_⟩ | refine ⟨⟨by decide, by decide, by decide⟩, ?_⟩); (conv => whnf))))
    refine p_draw hS1 (by decide) (by decide) fun v2 S2 a2 b2 hS2 kk2 => ?_
    have k2 := k1.trans kk2
    ((conv => whnf); (repeat ((first | refine ⟨(by show (0 : Int) < _; first | decide | omega), ?_⟩ | refine ⟨cmul_r (by decide) (by decide), ?_⟩ | refine ⟨cmul_l (by decide) (by decide), ?_⟩ | refine ⟨cmul_l (by omega) (by omega), ?_⟩ | refine ⟨cdiv_v (by omega) (by omega), ?_⟩ | refine ⟨cdiv_c (by decide) (by decide), ?_⟩ | refine ⟨(by decide), ?_⟩ | refine ⟨Nat.le_of_ble_eq_true rfl, ?_⟩ | refine ⟨⟨by decide, by decide, by decide⟩, ?_⟩); (conv => whnf))))
    refine ⟨fun i ρ S' => ∃ (as : List Int) (m : Nat) (v5 v6 : Option D), ρ = [some (.ref p), some (dLay gs), some (.int (lastE gs)), some (.int (lastE gs)), some (.ref m), v5, v6, none, none] ∧ S'[m]? = some (.lst (as.map D.int)) ∧ as.length = 8 + (if 0 < gs.length then 4 * i else 0) ∧ Src S' p ∧ Kp (· = p) S S', ?_, fun _ _ _ _ _ => trivial, ?_, ?_⟩
    · refine ⟨[-1, 0, lastE gs - 1, lastE gs, lastE gs + 1, v1, 100000000000000000000, 0 - v2], S2.length, none, none, rfl, get_new _ _, ?_, hS2.keep (X := fun _ => False) .app id, k2.add⟩
      split <;> rfl
    · rintro i x ρ S3 hx ⟨as, m, v5, v6, rfl, em, la, hS3, k3⟩
      have hi : i < 2 := by
        have := (List.getElem?_eq_some_iff.mp hx).1
        rw [rngD_len] at this
        exact this
      have hx : (rngD 0 2)[i]? = some x := hx
      rw [rngD_at hi, Int.zero_add] at hx
      cases hx
      ((conv => whnf); (repeat ((first | refine ⟨(by show (0 : Int) < _; first | decide | omega), ?_⟩ | refine ⟨cmul_r (by decide) (by decide), ?_⟩ | refine ⟨cmul_l (by decide) (by decide), ?_⟩ | refine ⟨cmul_l (by omega) (by omega), ?_⟩ | refine ⟨cdiv_v (by omega) (by omega), ?_⟩ | refine ⟨cdiv_c (by decide) (by decide), ?_⟩ | refine ⟨(by decide), ?_⟩ | refine ⟨Nat.le_of_ble_eq_true rfl, ?_⟩ | refine ⟨⟨by decide, by decide, by decide⟩, ?_⟩); (conv => whnf))))
      rw [lay_len]
      first | refine bcase (fun c => ?_) (fun c => ?_) | refine bcase0 (fun c => ?_) (fun c => ?_) | refine bcase1 (fun c => ?_) (fun c => ?_)
      · have c : 0 < (gs.length : Int) := c
        ((conv => whnf); (repeat ((first | refine ⟨(by show (0 : Int) < _; first | decide | omega), ?_⟩ | refine ⟨cmul_r (by decide) (by decide), ?_⟩ | refine ⟨cmul_l (by decide) (by decide), ?_⟩ | refine ⟨cmul_l (by omega) (by omega), ?_⟩ | refine ⟨cdiv_v (by omega) (by omega), ?_⟩ | refine ⟨cdiv_c (by decide) (by decide), ?_⟩ | refine ⟨(by decide), ?_⟩ | refine ⟨Nat.le_of_ble_eq_true rfl, ?_⟩ | refine ⟨⟨by decide, by decide, by decide⟩, ?_⟩); (conv => whnf))))
        refine p_draw hS3 (by show (0 : Int) < ((gs.map dRg).length : Int); rw [lay_len]; omega) (by show ((gs.map dRg).length : Int) ≤ _; rw [lay_len]; have := ly.few; omega) fun v4 S4 a4 b4 hS4 kk4 => ?_
        have b4 : v4 < ((gs.map dRg).length : Int) := b4
        rw [lay_len] at b4
        have hg := List.getElem?_eq_getElem (show v4.toNat < gs.length by omega)
        generalize gs[v4.toNat]'(by omega) = g at hg
        ((conv => whnf); (repeat ((first | refine ⟨(by show (0 : Int) < _; first | decide | omega), ?_⟩ | refine ⟨cmul_r (by decide) (by decide), ?_⟩ | refine ⟨cmul_l (by decide) (by decide), ?_⟩ | refine ⟨cmul_l (by omega) (by omega), ?_⟩ | refine ⟨cdiv_v (by omega) (by omega), ?_⟩ | refine ⟨cdiv_c (by decide) (by decide), ?_⟩ | refine ⟨(by decide), ?_⟩ | refine ⟨Nat.le_of_ble_eq_true rfl, ?_⟩ | refine ⟨⟨by decide, by decide, by decide⟩, ?_⟩); (conv => whnf))))
        rw [atI_pos a4 (show (gs.map dRg)[v4.toNat]? = some (dRg g) by rw [List.getElem?_map, hg]; rfl)]
        have hmp : ¬ m = p := by
          rintro rfl
          obtain ⟨x, y, _, e2⟩ := hS3
          rw [em] at e2
          have := congrArg (fun o : Option Ob => match o with | some (.lst l) => l.length | _ => 0) e2
          simp at this
          omega
        have e4 := kk4.get hmp em
        ((conv => whnf); (repeat ((first | refine ⟨(by show (0 : Int) < _; first | decide | omega), ?_⟩ | refine ⟨cmul_r (by decide) (by decide), ?_⟩ | refine ⟨cmul_l (by decide) (by decide), ?_⟩ | refine ⟨cmul_l (by omega) (by omega), ?_⟩ | refine ⟨cdiv_v (by omega) (by omega), ?_⟩ | refine ⟨cdiv_c (by decide) (by decide), ?_⟩ | refine ⟨(by decide), ?_⟩ | refine ⟨Nat.le_of_ble_eq_true rfl, ?_⟩ | refine ⟨⟨by decide, by decide, by decide⟩, ?_⟩); (conv => whnf))))
        have nl : ∀ o, (S4 ++ [o])[S4.length]? = some o := get_new S4
        rw [look_of (Kn.get .app e4), look_of (nl _)]
        conv => whnf
        refine ⟨?_, ?_⟩
        · rw [List.length_map, la, if_pos (show 0 < gs.length by omega)]
          show 8 + 4 * i + 4 ≤ 1000000
          omega
        ((conv => whnf); (repeat ((first | refine ⟨(by show (0 : Int) < _; first | decide | omega), ?_⟩ | refine ⟨cmul_r (by decide) (by decide), ?_⟩ | refine ⟨cmul_l (by decide) (by decide), ?_⟩ | refine ⟨cmul_l (by omega) (by omega), ?_⟩ | refine ⟨cdiv_v (by omega) (by omega), ?_⟩ | refine ⟨cdiv_c (by decide) (by decide), ?_⟩ | refine ⟨(by decide), ?_⟩ | refine ⟨Nat.le_of_ble_eq_true rfl, ?_⟩ | refine ⟨⟨by decide, by decide, by decide⟩, ?_⟩); (conv => whnf))))
        refine ⟨as ++ [g.start - 1, g.start, g.start + g.size - 1, g.start + g.size], _, _, _, rfl, ?_, ?_, (hS4.keep (X := fun _ => False) .app id).keep (X := fun _ => False) .app id, ((k3.trans kk4).add).add⟩
        · rw [get_new, List.map_append]
          rfl
        · rw [List.length_append, la, if_pos (by omega), if_pos (by omega)]
          show 8 + 4 * i + 4 = _
          omega
      · have c : ¬ 0 < (gs.length : Int) := c
        exact ⟨as, m, _, _, rfl, em, by rw [la, if_neg (by omega), if_neg (by omega)], hS3, k3⟩
    · rintro ρ S3 ⟨as, m, v5, v6, rfl, em, la, hS3, k3⟩
      ((conv => whnf); (repeat ((first | refine ⟨(by show (0 : Int) < _; first | decide | omega), ?_⟩ | refine ⟨cmul_r (by decide) (by decide), ?_⟩ | refine ⟨cmul_l (by decide) (by decide), ?_⟩ | refine ⟨cmul_l (by omega) (by omega), ?_⟩ | refine ⟨cdiv_v (by omega) (by omega), ?_⟩ | refine ⟨cdiv_c (by decide) (by decide), ?_⟩ | refine ⟨(by decide), ?_⟩ | refine ⟨Nat.le_of_ble_eq_true rfl, ?_⟩ | refine ⟨⟨by decide, by decide, by decide⟩, ?_⟩); (conv => whnf))))
      rw [look_of em]
      conv => whnf
      refine ⟨fun i ρ S' => ∃ (v3 v5 v7 v8 : Option D), ρ = [some (.ref p), some (dLay gs), some (.int (lastE gs)), v3, some (.ref m), v5, v6, v7, v8] ∧ Kn S3 S', ⟨_, _, _, _, rfl, .rfl⟩, fun _ _ S' _ ⟨_, _, _, _, _, h⟩ => look_of (h.get em), ?_, ?_⟩
      · rintro i x ρ S4 hx ⟨v3, v5, v7, v8, rfl, k4⟩
        rw [List.getElem?_map] at hx
        obtain ⟨x, _, rfl⟩ := Option.map_eq_some_iff.mp hx
        ((conv => whnf); (repeat ((first | refine ⟨(by show (0 : Int) < _; first | decide | omega), ?_⟩ | refine ⟨cmul_r (by decide) (by decide), ?_⟩ | refine ⟨cmul_l (by decide) (by decide), ?_⟩ | refine ⟨cmul_l (by omega) (by omega), ?_⟩ | refine ⟨cdiv_v (by omega) (by omega), ?_⟩ | refine ⟨cdiv_c (by decide) (by decide), ?_⟩ | refine ⟨(by decide), ?_⟩ | refine ⟨Nat.le_of_ble_eq_true rfl, ?_⟩ | refine ⟨⟨by decide, by decide, by decide⟩, ?_⟩); (conv => whnf))))
        refine ⟨⟨by rw [lay_len]; omega, by rw [lay_len]; have := ly.few; omega⟩, ?_⟩
        have hn : ((((gs.map dRg).length : Nat) : Int)).toNat = gs.length := by rw [lay_len]; omega
        refine ⟨fun j S' => ∃ ks : List Nat, S'[S4.length]? = some (.lst (ks.map fun (k : Nat) => .int k)) ∧ ks.length ≤ j ∧ (∀ k ∈ ks, ∃ g, gs[k]? = some g ∧ g.has x) ∧ (∀ (k : Nat) g, k < j → gs[k]? = some g → g.has x → k ∈ ks) ∧ Kn S4 S',
          ⟨[], get_new _ _, Nat.le_refl _, fun k h => (by cases h), fun k g h => absurd h (Nat.not_lt_zero _), .app⟩, fun _ _ _ _ => trivial, ?_, ?_⟩
        · rintro j y S5 hy ⟨ks, e5, hl, h1, h2, k5⟩
          have hj : j < gs.length := by
            have := (List.getElem?_eq_some_iff.mp hy).1
            rw [rngD_len, hn] at this
            exact this
          rw [rngD_at (by rw [hn]; exact hj), Int.zero_add] at hy
          cases hy
          have hg := List.getElem?_eq_getElem hj
          generalize gs[j] = g at hg
          have no : ¬ g.has x → ∀ (k : Nat) g, k < j + 1 → gs[k]? = some g → g.has x → k ∈ ks := fun z k g' hk hg' hh => by
            by_cases y : k = j
            · subst y
              rw [hg] at hg'
              cases hg'
              exact absurd hh z
            · exact h2 k g' (by omega) hg' hh
          ((conv => whnf); (repeat ((first | refine ⟨(by show (0 : Int) < _; first | decide | omega), ?_⟩ | refine ⟨cmul_r (by decide) (by decide), ?_⟩ | refine ⟨cmul_l (by decide) (by decide), ?_⟩ | refine ⟨cmul_l (by omega) (by omega), ?_⟩ | refine ⟨cdiv_v (by omega) (by omega), ?_⟩ | refine ⟨cdiv_c (by decide) (by decide), ?_⟩ | refine ⟨(by decide), ?_⟩ | refine ⟨Nat.le_of_ble_eq_true rfl, ?_⟩ | refine ⟨⟨by decide, by decide, by decide⟩, ?_⟩); (conv => whnf))))
          rw [lay_at hg]
          ((conv => whnf); (repeat ((first | refine ⟨(by show (0 : Int) < _; first | decide | omega), ?_⟩ | refine ⟨cmul_r (by decide) (by decide), ?_⟩ | refine ⟨cmul_l (by decide) (by decide), ?_⟩ | refine ⟨cmul_l (by omega) (by omega), ?_⟩ | refine ⟨cdiv_v (by omega) (by omega), ?_⟩ | refine ⟨cdiv_c (by decide) (by decide), ?_⟩ | refine ⟨(by decide), ?_⟩ | refine ⟨Nat.le_of_ble_eq_true rfl, ?_⟩ | refine ⟨⟨by decide, by decide, by decide⟩, ?_⟩); (conv => whnf))))
          first | refine bcase (fun c1 => ?_) (fun c1 => ?_) | refine bcase0 (fun c1 => ?_) (fun c1 => ?_) | refine bcase1 (fun c1 => ?_) (fun c1 => ?_)
          · ((conv => whnf); (repeat ((first | refine ⟨(by show (0 : Int) < _; first | decide | omega), ?_⟩ | refine ⟨cmul_r (by decide) (by decide), ?_⟩ | refine ⟨cmul_l (by decide) (by decide), ?_⟩ | refine ⟨cmul_l (by omega) (by omega), ?_⟩ | refine ⟨cdiv_v (by omega) (by omega), ?_⟩ | refine ⟨cdiv_c (by decide) (by decide), ?_⟩ | refine ⟨(by decide), ?_⟩ | refine ⟨Nat.le_of_ble_eq_true rfl, ?_⟩ | refine ⟨⟨by decide, by decide, by decide⟩, ?_⟩); (conv => whnf))))
            rw [lay_at hg]
            ((conv => whnf); (repeat ((first | refine ⟨(by show (0 : Int) < _; first | decide | omega), ?_⟩ | refine ⟨cmul_r (by decide) (by decide), ?_⟩ | refine ⟨cmul_l (by decide) (by decide), ?_⟩ | refine ⟨cmul_l (by omega) (by omega), ?_⟩ | refine ⟨cdiv_v (by omega) (by omega), ?_⟩ | refine ⟨cdiv_c (by decide) (by decide), ?_⟩ | refine ⟨(by decide), ?_⟩ | refine ⟨Nat.le_of_ble_eq_true rfl, ?_⟩ | refine ⟨⟨by decide, by decide, by decide⟩, ?_⟩); (conv => whnf))))
            rw [lay_at hg]
            ((conv => whnf); (repeat ((first | refine ⟨(by show (0 : Int) < _; first | decide | omega), ?_⟩ | refine ⟨cmul_r (by decide) (by decide), ?_⟩ | refine ⟨cmul_l (by decide) (by decide), ?_⟩ | refine ⟨cmul_l (by omega) (by omega), ?_⟩ | refine ⟨cdiv_v (by omega) (by omega), ?_⟩ | refine ⟨cdiv_c (by decide) (by decide), ?_⟩ | refine ⟨(by decide), ?_⟩ | refine ⟨Nat.le_of_ble_eq_true rfl, ?_⟩ | refine ⟨⟨by decide, by decide, by decide⟩, ?_⟩); (conv => whnf))))
            first | refine bcase (fun c2 => ?_) (fun c2 => ?_) | refine bcase0 (fun c2 => ?_) (fun c2 => ?_) | refine bcase1 (fun c2 => ?_) (fun c2 => ?_)
            · ((conv => whnf); (repeat ((first | refine ⟨(by show (0 : Int) < _; first | decide | omega), ?_⟩ | refine ⟨cmul_r (by decide) (by decide), ?_⟩ | refine ⟨cmul_l (by decide) (by decide), ?_⟩ | refine ⟨cmul_l (by omega) (by omega), ?_⟩ | refine ⟨cdiv_v (by omega) (by omega), ?_⟩ | refine ⟨cdiv_c (by decide) (by decide), ?_⟩ | refine ⟨(by decide), ?_⟩ | refine ⟨Nat.le_of_ble_eq_true rfl, ?_⟩ | refine ⟨⟨by decide, by decide, by decide⟩, ?_⟩); (conv => whnf))))
              rw [look_of e5]
              conv => whnf
              refine ⟨by rw [List.length_map]; have := ly.few; omega, ks ++ [j], ?_, by rw [List.length_append]; exact Nat.succ_le_succ hl, ?_, ?_, k5.put (Nat.le_refl _)⟩
              · rw [get_set e5, List.map_append]
                rfl
              · intro k hk
                rcases List.mem_append.mp hk with hk | hk
                · exact h1 k hk
                · rw [List.mem_singleton.mp hk]
                  exact ⟨g, hg, c1, c2⟩
              · intro k g' hk hg' hh
                by_cases y : k = j
                · subst y
                  exact List.mem_append.mpr (.inr (List.mem_singleton.mpr rfl))
                · exact List.mem_append.mpr (.inl (h2 k g' (by omega) hg' hh))
            · exact ⟨ks, e5, by omega, h1, no fun z => c2 z.2, k5⟩
          · exact ⟨ks, e5, by omega, h1, no fun z => c1 z.1, k5⟩
        · rintro S5 ⟨ks, e5, hl, h1, h2, k5⟩
          rw [rngD_len, hn] at h2
          ((conv => whnf); (repeat ((first | refine ⟨(by show (0 : Int) < _; first | decide | omega), ?_⟩ | refine ⟨cmul_r (by decide) (by decide), ?_⟩ | refine ⟨cmul_l (by decide) (by decide), ?_⟩ | refine ⟨cmul_l (by omega) (by omega), ?_⟩ | refine ⟨cdiv_v (by omega) (by omega), ?_⟩ | refine ⟨cdiv_c (by decide) (by decide), ?_⟩ | refine ⟨(by decide), ?_⟩ | refine ⟨Nat.le_of_ble_eq_true rfl, ?_⟩ | refine ⟨⟨by decide, by decide, by decide⟩, ?_⟩); (conv => whnf))))
          rw [seqD_ref e5]
          ((conv => whnf); (repeat ((first | refine ⟨(by show (0 : Int) < _; first | decide | omega), ?_⟩ | refine ⟨cmul_r (by decide) (by decide), ?_⟩ | refine ⟨cmul_l (by decide) (by decide), ?_⟩ | refine ⟨cmul_l (by omega) (by omega), ?_⟩ | refine ⟨cdiv_v (by omega) (by omega), ?_⟩ | refine ⟨cdiv_c (by decide) (by decide), ?_⟩ | refine ⟨(by decide), ?_⟩ | refine ⟨Nat.le_of_ble_eq_true rfl, ?_⟩ | refine ⟨⟨by decide, by decide, by decide⟩, ?_⟩); (conv => whnf))))
          rw [List.length_map]
          cases ks with
          | nil =>
            ((conv => whnf); (repeat ((first | refine ⟨(by show (0 : Int) < _; first | decide | omega), ?_⟩ | refine ⟨cmul_r (by decide) (by decide), ?_⟩ | refine ⟨cmul_l (by decide) (by decide), ?_⟩ | refine ⟨cmul_l (by omega) (by omega), ?_⟩ | refine ⟨cdiv_v (by omega) (by omega), ?_⟩ | refine ⟨cdiv_c (by decide) (by decide), ?_⟩ | refine ⟨(by decide), ?_⟩ | refine ⟨Nat.le_of_ble_eq_true rfl, ?_⟩ | refine ⟨⟨by decide, by decide, by decide⟩, ?_⟩); (conv => whnf))))
            refine t1 _ _ _ _ _ _ _ _ _ (.inl ⟨rfl, fun g hg hh => ?_⟩) ⟨_, _, _, _, rfl, k4.trans k5⟩
            obtain ⟨j, hj⟩ := List.mem_iff_getElem?.mp hg
            have := h2 j g (List.getElem?_eq_some_iff.mp hj).1 hj hh
            cases this
          | cons a ks =>
            obtain ⟨g, hg, hh⟩ := h1 a (List.mem_cons_self ..)
            refine btrue (decide_eq_true (show (0 : Int) < (((a :: ks).length : Nat) : Int) by rw [List.length_cons]; omega)) ?_
            ((conv => whnf); (repeat ((first | refine ⟨(by show (0 : Int) < _; first | decide | omega), ?_⟩ | refine ⟨cmul_r (by decide) (by decide), ?_⟩ | refine ⟨cmul_l (by decide) (by decide), ?_⟩ | refine ⟨cmul_l (by omega) (by omega), ?_⟩ | refine ⟨cdiv_v (by omega) (by omega), ?_⟩ | refine ⟨cdiv_c (by decide) (by decide), ?_⟩ | refine ⟨(by decide), ?_⟩ | refine ⟨Nat.le_of_ble_eq_true rfl, ?_⟩ | refine ⟨⟨by decide, by decide, by decide⟩, ?_⟩); (conv => whnf))))
            rw [seqD_ref e5]
            ((conv => whnf); (repeat ((first | refine ⟨(by show (0 : Int) < _; first | decide | omega), ?_⟩ | refine ⟨cmul_r (by decide) (by decide), ?_⟩ | refine ⟨cmul_l (by decide) (by decide), ?_⟩ | refine ⟨cmul_l (by omega) (by omega), ?_⟩ | refine ⟨cdiv_v (by omega) (by omega), ?_⟩ | refine ⟨cdiv_c (by decide) (by decide), ?_⟩ | refine ⟨(by decide), ?_⟩ | refine ⟨Nat.le_of_ble_eq_true rfl, ?_⟩ | refine ⟨⟨by decide, by decide, by decide⟩, ?_⟩); (conv => whnf))))
            rw [List.map_cons, at_0]
            ((conv => whnf); (repeat ((first | refine ⟨(by show (0 : Int) < _; first | decide | omega), ?_⟩ | refine ⟨cmul_r (by decide) (by decide), ?_⟩ | refine ⟨cmul_l (by decide) (by decide), ?_⟩ | refine ⟨cmul_l (by omega) (by omega), ?_⟩ | refine ⟨cdiv_v (by omega) (by omega), ?_⟩ | refine ⟨cdiv_c (by decide) (by decide), ?_⟩ | refine ⟨(by decide), ?_⟩ | refine ⟨Nat.le_of_ble_eq_true rfl, ?_⟩ | refine ⟨⟨by decide, by decide, by decide⟩, ?_⟩); (conv => whnf))))
            exact t1 _ _ _ _ _ _ _ _ _ (.inr ⟨a, g, rfl, hg, hh⟩) ⟨_, _, _, _, rfl, k4.trans k5⟩
      · rintro ρ S4 ⟨v3, v5, v7, v8, rfl, k4⟩
        exact k S4 (hS3.keep k4 id) (k3.trans (k4.mono fun _ z => z.elim))
  rw [eq_law_regions_hold]
  ((conv => whnf); (repeat ((first | refine ⟨(by show (0 : Int) < _; first | decide | omega), ?_⟩ | refine ⟨cmul_r (by decide) (by decide), ?_⟩ | refine ⟨cmul_l (by decide) (by decide), ?_⟩ | refine ⟨cmul_l (by omega) (by omega), ?_⟩ | refine ⟨cdiv_v (by omega) (by omega), ?_⟩ | refine ⟨cdiv_c (by decide) (by decide), ?_⟩ | refine ⟨(by decide), ?_⟩ | refine ⟨Nat.le_of_ble_eq_true rfl, ?_⟩ | refine ⟨⟨by decide, by decide, by decide⟩, ?_⟩); (conv => whnf))))
  refine p_layout_end ?_
  ((conv => whnf); (repeat ((first | refine ⟨(by show (0 : Int) < _; first | decide | omega), ?_⟩ | refine ⟨cmul_r (by decide) (by decide), ?_⟩ | refine ⟨cmul_l (by decide) (by decide), ?_⟩ | refine ⟨cmul_l (by omega) (by omega), ?_⟩ | refine ⟨cdiv_v (by omega) (by omega), ?_⟩ | refine ⟨cdiv_c (by decide) (by decide), ?_⟩ | refine ⟨(by decide), ?_⟩ | refine ⟨Nat.le_of_ble_eq_true rfl, ?_⟩ | refine ⟨⟨by decide, by decide, by decide⟩, ?_⟩); (conv => whnf))))
  rcases last_cases gs with ⟨rfl, e⟩ | ⟨g, hg, _, e, hp⟩
  · ((conv => whnf); (repeat ((first | refine ⟨(by show (0 : Int) < _; first | decide | omega), ?_⟩ | refine ⟨cmul_r (by decide) (by decide), ?_⟩ | refine ⟨cmul_l (by decide) (by decide), ?_⟩ | refine ⟨cmul_l (by omega) (by omega), ?_⟩ | refine ⟨cdiv_v (by omega) (by omega), ?_⟩ | refine ⟨cdiv_c (by decide) (by decide), ?_⟩ | refine ⟨(by decide), ?_⟩ | refine ⟨Nat.le_of_ble_eq_true rfl, ?_⟩ | refine ⟨⟨by decide, by decide, by decide⟩, ?_⟩); (conv => whnf))))
    rw [e] at t2 ⊢
    exact t2
  · rw [lay_len]
    refine btrue (decide_eq_true (show (0 : Int) < (gs.length : Int) by omega)) ?_
    ((conv => whnf); (repeat ((first | refine ⟨(by show (0 : Int) < _; first | decide | omega), ?_⟩ | refine ⟨cmul_r (by decide) (by decide), ?_⟩ | refine ⟨cmul_l (by decide) (by decide), ?_⟩ | refine ⟨cmul_l (by omega) (by omega), ?_⟩ | refine ⟨cdiv_v (by omega) (by omega), ?_⟩ | refine ⟨cdiv_c (by decide) (by decide), ?_⟩ | refine ⟨(by decide), ?_⟩ | refine ⟨Nat.le_of_ble_eq_true rfl, ?_⟩ | refine ⟨⟨by decide, by decide, by decide⟩, ?_⟩); (conv => whnf))))
    rw [map_last hg]
    ((conv => whnf); (repeat ((first | refine ⟨(by show (0 : Int) < _; first | decide | omega), ?_⟩ | refine ⟨cmul_r (by decide) (by decide), ?_⟩ | refine ⟨cmul_l (by decide) (by decide), ?_⟩ | refine ⟨cmul_l (by omega) (by omega), ?_⟩ | refine ⟨cdiv_v (by omega) (by omega), ?_⟩ | refine ⟨cdiv_c (by decide) (by decide), ?_⟩ | refine ⟨(by decide), ?_⟩ | refine ⟨Nat.le_of_ble_eq_true rfl, ?_⟩ | refine ⟨⟨by decide, by decide, by decide⟩, ?_⟩); (conv => whnf))))
    rw [map_last hg]
    ((conv => whnf); (repeat ((first | refine ⟨(by show (0 : Int) < _; first | decide | omega), ?_⟩ | refine ⟨cmul_r (by decide) (by decide), ?_⟩ | refine ⟨cmul_l (by decide) (by decide), ?_⟩ | refine ⟨cmul_l (by omega) (by omega), ?_⟩ | refine ⟨cdiv_v (by omega) (by omega), ?_⟩ | refine ⟨cdiv_c (by decide) (by decide), ?_⟩ | refine ⟨(by decide), ?_⟩ | refine ⟨Nat.le_of_ble_eq_true rfl, ?_⟩ | refine ⟨⟨by decide, by decide, by decide⟩, ?_⟩); (conv => whnf))))
    rw [e] at t2 ⊢
    exact t2
end K27

set_option Elab.async false
set_option linter.all false
set_option maxRecDepth 100000
set_option maxHeartbeats 4000000
namespace K27
open PySem PySem.Spec PyProof.Rows L2 DT
def segM (ns : List Int) (g : Rg) : List Int := (ns.drop g.start.toNat).take g.size.toNat
def isMem (gs : List Rg) (vs : List D) : Prop := ∃ ns : List Int, vs = ns.map D.int ∧ (∀ n ∈ ns, 0 ≤ n ∧ n ≤ 65535) ∧ (ns.length : Int) = lastE gs ∧ ∀ g ∈ gs, ∀ x ∈ segM ns g, x ≤ g.most
theorem nums_of {l h : Int} : ∀ {vs : List D}, (∀ (j : Nat) d, vs[j]? = some d → numB l h d = true) → ∃ ns : List Int, vs = ns.map D.int ∧ ∀ n ∈ ns, l ≤ n ∧ n ≤ h
  | [], _ => ⟨[], rfl, fun n z => by cases z⟩
  | v :: vs, k => by
    obtain ⟨ns, rfl, kn⟩ := nums_of (vs := vs) fun j d e => k (j + 1) d (by simpa using e)
    obtain ⟨i, rfl, i0, i1⟩ := numB_int (k 0 v rfl)
    refine ⟨i :: ns, rfl, fun n z => ?_⟩
    rcases List.mem_cons.mp z with rfl | z
    · exact ⟨i0, i1⟩
    · exact kn n z
theorem ints_inj {a b : List Int} (e : a.map D.int = b.map D.int) : a = b := by
  induction a generalizing b with
  | nil => cases b with
    | nil => rfl
    | cons y ys => cases e
  | cons x xs ih => cases b with
    | nil => cases e
    | cons y ys =>
      rw [List.map_cons, List.map_cons, List.cons.injEq, D.int.injEq] at e
      rw [e.1, ih e.2]
theorem Lay.ends {gs : List Rg} (ly : Lay gs) {g : Rg} (hg : g ∈ gs) : g.start + g.size ≤ lastE gs := by
  obtain ⟨i, hi⟩ := List.mem_iff_getElem?.mp hg
  have il := (List.getElem?_eq_some_iff.mp hi).1
  rcases last_cases gs with ⟨rfl, _⟩ | ⟨h, hh, hm, e, hp⟩
  · cases hg
  · rw [List.getLast?_eq_getElem?] at hh
    rw [e]
    by_cases z : i = gs.length - 1
    · subst z
      rw [hi] at hh
      cases hh
      exact Int.le_refl _
    · have := ly.ok.sorted i (gs.length - 1) g h (by omega) hi hh
      have := (ly.vr h hm).2.1
      omega
theorem seg_cut {gs : List Rg} {ns : List Int} {g : Rg} (ly : Lay gs) (hg : g ∈ gs) (hl : (ns.length : Int) = lastE gs) : cutL (ns.map D.int) (some g.start) (some (g.start + g.size)) = (segM ns g).map D.int ∧ 0 < (segM ns g).length := by
  have en := ly.ends hg
  obtain ⟨v0, v1, _⟩ := ly.vr g hg
  have h1 : HT.sIx (ns.map D.int).length 0 (some g.start) = g.start.toNat := by
    obtain ⟨j, hj⟩ := Int.eq_ofNat_of_zero_le v0
    rw [hj, HT.sIx_nat, List.length_map, Int.toNat_natCast]
    omega
  have h2 : HT.sIx (ns.map D.int).length (ns.map D.int).length (some (g.start + g.size)) = g.start.toNat + g.size.toNat := by
    obtain ⟨j, hj⟩ := Int.eq_ofNat_of_zero_le (show 0 ≤ g.start + g.size by omega)
    rw [hj, HT.sIx_nat, List.length_map]
    omega
  refine ⟨?_, ?_⟩
  · unfold cutL segM
    rw [h1, h2, Nat.add_sub_cancel_left, List.map_take, List.map_drop]
  · unfold segM
    rw [List.length_take, List.length_drop]
    omega
/-- what may stand in a memory asked about -/
def Wd (S : Sto) (d : D) : Prop := Fl S d ∧ ∀ s, d = .str s → (PyData.str s).canLay0 = true
theorem p_is_memory {gs : List Rg} {S : Sto} {m : Nat} {vs : List D} {q : DK} (ly : Lay gs) (e : S[m]? = some (.lst vs)) (hv : ∀ d ∈ vs, Fl S d) (kt : ∀ S', Kn S S' → isMem gs vs → q (.bl true) S') (kf : ∀ S', Kn S S' → ¬ isMem gs vs → q (.bl false) S') : wp_is_memory [dLay gs, .ref m] S q := by
  rw [eq_is_memory]
  ((conv => whnf); (repeat ((first | refine ⟨(by show (0 : Int) < _; first | decide | omega), ?_⟩ | refine ⟨cmul_r (by decide) (by decide), ?_⟩ | refine ⟨cmul_l (by decide) (by decide), ?_⟩ | refine ⟨cmul_l (by omega) (by omega), ?_⟩ | refine ⟨cdiv_v (by omega) (by omega), ?_⟩ | refine ⟨cdiv_c (by decide) (by decide), ?_⟩ | refine ⟨(by decide), ?_⟩ | refine ⟨Nat.le_of_ble_eq_true rfl, ?_⟩ | refine ⟨⟨by decide, by decide, by decide⟩, ?_⟩); (conv => whnf))))
  rw [kind_ref e]
  ((conv => whnf); (repeat ((first | refine ⟨(by show (0 : Int) < _; first | decide | omega), ?_⟩ | refine ⟨cmul_r (by decide) (by decide), ?_⟩ | refine ⟨cmul_l (by decide) (by decide), ?_⟩ | refine ⟨cmul_l (by omega) (by omega), ?_⟩ | refine ⟨cdiv_v (by omega) (by omega), ?_⟩ | refine ⟨cdiv_c (by decide) (by decide), ?_⟩ | refine ⟨(by decide), ?_⟩ | refine ⟨Nat.le_of_ble_eq_true rfl, ?_⟩ | refine ⟨⟨by decide, by decide, by decide⟩, ?_⟩); (conv => whnf))))
  rw [seqD_ref e]
  ((conv => whnf); (repeat ((first | refine ⟨(by show (0 : Int) < _; first | decide | omega), ?_⟩ | refine ⟨cmul_r (by decide) (by decide), ?_⟩ | refine ⟨cmul_l (by decide) (by decide), ?_⟩ | refine ⟨cmul_l (by omega) (by omega), ?_⟩ | refine ⟨cdiv_v (by omega) (by omega), ?_⟩ | refine ⟨cdiv_c (by decide) (by decide), ?_⟩ | refine ⟨(by decide), ?_⟩ | refine ⟨Nat.le_of_ble_eq_true rfl, ?_⟩ | refine ⟨⟨by decide, by decide, by decide⟩, ?_⟩); (conv => whnf))))
  refine p_layout_end ?_
  ((conv => whnf); (repeat ((first | refine ⟨(by show (0 : Int) < _; first | decide | omega), ?_⟩ | refine ⟨cmul_r (by decide) (by decide), ?_⟩ | refine ⟨cmul_l (by decide) (by decide), ?_⟩ | refine ⟨cmul_l (by omega) (by omega), ?_⟩ | refine ⟨cdiv_v (by omega) (by omega), ?_⟩ | refine ⟨cdiv_c (by decide) (by decide), ?_⟩ | refine ⟨(by decide), ?_⟩ | refine ⟨Nat.le_of_ble_eq_true rfl, ?_⟩ | refine ⟨⟨by decide, by decide, by decide⟩, ?_⟩); (conv => whnf))))
  first | refine bcase (fun c => ?_) (fun c => ?_) | refine bcase0 (fun c => ?_) (fun c => ?_) | refine bcase1 (fun c => ?_) (fun c => ?_)
  · exact kf S .rfl fun ⟨ns, h1, _, h2, _⟩ => c (by show (vs.length : Int) = lastE gs; rw [h1, List.length_map]; exact h2)
  · have c : (vs.length : Int) = lastE gs := c
    ((conv => whnf); (repeat ((first | refine ⟨(by show (0 : Int) < _; first | decide | omega), ?_⟩ | refine ⟨cmul_r (by decide) (by decide), ?_⟩ | refine ⟨cmul_l (by decide) (by decide), ?_⟩ | refine ⟨cmul_l (by omega) (by omega), ?_⟩ | refine ⟨cdiv_v (by omega) (by omega), ?_⟩ | refine ⟨cdiv_c (by decide) (by decide), ?_⟩ | refine ⟨(by decide), ?_⟩ | refine ⟨Nat.le_of_ble_eq_true rfl, ?_⟩ | refine ⟨⟨by decide, by decide, by decide⟩, ?_⟩); (conv => whnf))))
    rw [look_of e]
    conv => whnf
    refine ⟨fun i S' => S' = S ∧ ∀ (j : Nat) d, j < i → vs[j]? = some d → numB 0 65535 d = true, ⟨rfl, fun j d h => absurd h (Nat.not_lt_zero _)⟩, fun _ S' _ h => by rw [h.1]; exact look_of e, ?_, ?_⟩
    · rintro i x S' hx ⟨rfl, u⟩
      ((conv => whnf); (repeat ((first | refine ⟨(by show (0 : Int) < _; first | decide | omega), ?_⟩ | refine ⟨cmul_r (by decide) (by decide), ?_⟩ | refine ⟨cmul_l (by decide) (by decide), ?_⟩ | refine ⟨cmul_l (by omega) (by omega), ?_⟩ | refine ⟨cdiv_v (by omega) (by omega), ?_⟩ | refine ⟨cdiv_c (by decide) (by decide), ?_⟩ | refine ⟨(by decide), ?_⟩ | refine ⟨Nat.le_of_ble_eq_true rfl, ?_⟩ | refine ⟨⟨by decide, by decide, by decide⟩, ?_⟩); (conv => whnf))))
      refine p_int (.inr (.inr (hv x (List.mem_of_getElem? hx)))) ?_
      cases hb : numB 0 65535 x with
      | false =>
        refine kf _ .rfl fun ⟨ns, h1, h2, _⟩ => ?_
        rw [h1, List.getElem?_map] at hx
        obtain ⟨n, hn, rfl⟩ := Option.map_eq_some_iff.mp hx
        have := decide_eq_true (h2 n (List.mem_of_getElem? hn))
        rw [show numB 0 65535 (.int n) = decide (0 ≤ n ∧ n ≤ 65535) from rfl, this] at hb
        cases hb
      | true =>
        refine ⟨rfl, fun j d hj hd => ?_⟩
        by_cases z : j = i
        · subst z
          rw [hx] at hd
          cases hd
          exact hb
        · exact u j d (by omega) hd
    rintro S' ⟨rfl, u⟩
    obtain ⟨ns, rfl, hn⟩ := nums_of fun j d hd => u j d (List.getElem?_eq_some_iff.mp hd).1 hd
    rw [List.length_map] at c
    ((conv => whnf); (repeat ((first | refine ⟨(by show (0 : Int) < _; first | decide | omega), ?_⟩ | refine ⟨cmul_r (by decide) (by decide), ?_⟩ | refine ⟨cmul_l (by decide) (by decide), ?_⟩ | refine ⟨cmul_l (by omega) (by omega), ?_⟩ | refine ⟨cdiv_v (by omega) (by omega), ?_⟩ | refine ⟨cdiv_c (by decide) (by decide), ?_⟩ | refine ⟨(by decide), ?_⟩ | refine ⟨Nat.le_of_ble_eq_true rfl, ?_⟩ | refine ⟨⟨by decide, by decide, by decide⟩, ?_⟩); (conv => whnf))))
    refine ⟨fun i T => Kn S' T ∧ ∀ (j : Nat) g, j < i → gs[j]? = some g → ∀ x ∈ segM ns g, x ≤ g.most, ⟨.rfl, fun j d h => absurd h (Nat.not_lt_zero _)⟩, fun _ _ _ _ => trivial, ?_, ?_⟩
    · rintro i x T hx ⟨k1, u2⟩
      rw [List.getElem?_map] at hx
      obtain ⟨g, hg, rfl⟩ := Option.map_eq_some_iff.mp hx
      obtain ⟨cut, pos⟩ := seg_cut ly (List.mem_of_getElem? hg) c
      ((conv => whnf); (repeat ((first | refine ⟨(by show (0 : Int) < _; first | decide | omega), ?_⟩ | refine ⟨cmul_r (by decide) (by decide), ?_⟩ | refine ⟨cmul_l (by decide) (by decide), ?_⟩ | refine ⟨cmul_l (by omega) (by omega), ?_⟩ | refine ⟨cdiv_v (by omega) (by omega), ?_⟩ | refine ⟨cdiv_c (by decide) (by decide), ?_⟩ | refine ⟨(by decide), ?_⟩ | refine ⟨Nat.le_of_ble_eq_true rfl, ?_⟩ | refine ⟨⟨by decide, by decide, by decide⟩, ?_⟩); (conv => whnf))))
      refine p_region_end ?_
      ((conv => whnf); (repeat ((first | refine ⟨(by show (0 : Int) < _; first | decide | omega), ?_⟩ | refine ⟨cmul_r (by decide) (by decide), ?_⟩ | refine ⟨cmul_l (by decide) (by decide), ?_⟩ | refine ⟨cmul_l (by omega) (by omega), ?_⟩ | refine ⟨cdiv_v (by omega) (by omega), ?_⟩ | refine ⟨cdiv_c (by decide) (by decide), ?_⟩ | refine ⟨(by decide), ?_⟩ | refine ⟨Nat.le_of_ble_eq_true rfl, ?_⟩ | refine ⟨⟨by decide, by decide, by decide⟩, ?_⟩); (conv => whnf))))
      rw [look_of (k1.get e)]
      conv => whnf
      rw [cut]
      refine ⟨segM ns g, look_of (get_new _ _), pos, fun mx hm hle => ?_⟩
      ((conv => whnf); (repeat ((first | refine ⟨(by show (0 : Int) < _; first | decide | omega), ?_⟩ | refine ⟨cmul_r (by decide) (by decide), ?_⟩ | refine ⟨cmul_l (by decide) (by decide), ?_⟩ | refine ⟨cmul_l (by omega) (by omega), ?_⟩ | refine ⟨cdiv_v (by omega) (by omega), ?_⟩ | refine ⟨cdiv_c (by decide) (by decide), ?_⟩ | refine ⟨(by decide), ?_⟩ | refine ⟨Nat.le_of_ble_eq_true rfl, ?_⟩ | refine ⟨⟨by decide, by decide, by decide⟩, ?_⟩); (conv => whnf))))
      first | refine bcase (fun c2 => ?_) (fun c2 => ?_) | refine bcase0 (fun c2 => ?_) (fun c2 => ?_) | refine bcase1 (fun c2 => ?_) (fun c2 => ?_)
      · refine ⟨k1.add, fun j g' hj hg' y hy => ?_⟩
        by_cases z : j = i
        · subst z
          rw [hg] at hg'
          cases hg'
          exact Int.le_trans (hle y hy) c2
        · exact u2 j g' (by omega) hg' y hy
      · refine kf _ k1.add fun ⟨ns', h1, _, _, h4⟩ => c2 ?_
        rw [← ints_inj h1] at h4
        exact h4 g (List.mem_of_getElem? hg) mx hm
    · rintro T ⟨k1, u2⟩
      refine kt T k1 ⟨ns, rfl, hn, c, fun g hg => ?_⟩
      obtain ⟨j, hj⟩ := List.mem_iff_getElem?.mp hg
      exact u2 j g (by rw [List.length_map]; exact (List.getElem?_eq_some_iff.mp hj).1) hj
theorem p_law_is_memory {gs : List Rg} {S : Sto} {m : Nat} {vs : List D} {q : DK} (ly : Lay gs) (e : S[m]? = some (.lst vs)) (hv : ∀ d ∈ vs, Fl S d) (kt : ∀ S', Kn S S' → isMem gs vs → q (.bl true) S') (kf : ∀ S', Kn S S' → ¬ isMem gs vs → q (.bl false) S') : wp_law_is_memory [dLay gs, .ref m] S q := by
  have t1 : c_law_is_memory_1 { nx := fun _ S' => q .non S', rt := q } [some (dLay gs), some (.ref m), some (.int (lastE gs)), none, none, none, none, none] S := by
    rw [eqc_law_is_memory_1]
    ((conv => whnf); (repeat ((first | refine ⟨(by show (0 : Int) < _; first | decide | omega), ?_⟩ | refine ⟨cmul_r (by decide) (by decide), ?_⟩ | refine ⟨cmul_l (by decide) (by decide), ?_⟩ | refine ⟨cmul_l (by omega) (by omega), ?_⟩ | refine ⟨cdiv_v (by omega) (by omega), ?_⟩ | refine ⟨cdiv_c (by decide) (by decide), ?_⟩ | refine ⟨(by decide), ?_⟩ | refine ⟨Nat.le_of_ble_eq_true rfl, ?_⟩ | refine ⟨⟨by decide, by decide, by decide⟩, ?_⟩); (conv => whnf))))
    rw [kind_ref e]
    ((conv => whnf); (repeat ((first | refine ⟨(by show (0 : Int) < _; first | decide | omega), ?_⟩ | refine ⟨cmul_r (by decide) (by decide), ?_⟩ | refine ⟨cmul_l (by decide) (by decide), ?_⟩ | refine ⟨cmul_l (by omega) (by omega), ?_⟩ | refine ⟨cdiv_v (by omega) (by omega), ?_⟩ | refine ⟨cdiv_c (by decide) (by decide), ?_⟩ | refine ⟨(by decide), ?_⟩ | refine ⟨Nat.le_of_ble_eq_true rfl, ?_⟩ | refine ⟨⟨by decide, by decide, by decide⟩, ?_⟩); (conv => whnf))))
    rw [seqD_ref e]
    ((conv => whnf); (repeat ((first | refine ⟨(by show (0 : Int) < _; first | decide | omega), ?_⟩ | refine ⟨cmul_r (by decide) (by decide), ?_⟩ | refine ⟨cmul_l (by decide) (by decide), ?_⟩ | refine ⟨cmul_l (by omega) (by omega), ?_⟩ | refine ⟨cdiv_v (by omega) (by omega), ?_⟩ | refine ⟨cdiv_c (by decide) (by decide), ?_⟩ | refine ⟨(by decide), ?_⟩ | refine ⟨Nat.le_of_ble_eq_true rfl, ?_⟩ | refine ⟨⟨by decide, by decide, by decide⟩, ?_⟩); (conv => whnf))))
    first | refine bcase (fun c => ?_) (fun c => ?_) | refine bcase0 (fun c => ?_) (fun c => ?_) | refine bcase1 (fun c => ?_) (fun c => ?_)
    · exact kf S .rfl fun ⟨ns, h1, _, h2, _⟩ => c (by show (vs.length : Int) = lastE gs; rw [h1, List.length_map]; exact h2)
    · have c : (vs.length : Int) = lastE gs := c
      ((conv => whnf); (repeat ((first | refine ⟨(by show (0 : Int) < _; first | decide | omega), ?_⟩ | refine ⟨cmul_r (by decide) (by decide), ?_⟩ | refine ⟨cmul_l (by decide) (by decide), ?_⟩ | refine ⟨cmul_l (by omega) (by omega), ?_⟩ | refine ⟨cdiv_v (by omega) (by omega), ?_⟩ | refine ⟨cdiv_c (by decide) (by decide), ?_⟩ | refine ⟨(by decide), ?_⟩ | refine ⟨Nat.le_of_ble_eq_true rfl, ?_⟩ | refine ⟨⟨by decide, by decide, by decide⟩, ?_⟩); (conv => whnf))))
      rw [look_of e]
      conv => whnf
      refine ⟨fun i ρ S' => ∃ v3, ρ = [some (dLay gs), some (.ref m), some (.int (lastE gs)), v3, none, none, none, none] ∧ S' = S ∧ ∀ (j : Nat) d, j < i → vs[j]? = some d → numB 0 65535 d = true, ⟨none, rfl, rfl, fun j d h => absurd h (Nat.not_lt_zero _)⟩, fun _ _ S' _ ⟨_, _, h, _⟩ => by rw [h]; exact look_of e, ?_, ?_⟩
      · rintro i x ρ S' hx ⟨v3, rfl, rfl, u⟩
        ((conv => whnf); (repeat ((first | refine ⟨(by show (0 : Int) < _; first | decide | omega), ?_⟩ | refine ⟨cmul_r (by decide) (by decide), ?_⟩ | refine ⟨cmul_l (by decide) (by decide), ?_⟩ | refine ⟨cmul_l (by omega) (by omega), ?_⟩ | refine ⟨cdiv_v (by omega) (by omega), ?_⟩ | refine ⟨cdiv_c (by decide) (by decide), ?_⟩ | refine ⟨(by decide), ?_⟩ | refine ⟨Nat.le_of_ble_eq_true rfl, ?_⟩ | refine ⟨⟨by decide, by decide, by decide⟩, ?_⟩); (conv => whnf))))
        refine p_num (.inr (.inr (hv x (List.mem_of_getElem? hx)))) ?_
        cases hb : numB 0 65535 x with
        | false =>
          refine kf _ .rfl fun ⟨ns, h1, h2, _⟩ => ?_
          rw [h1, List.getElem?_map] at hx
          obtain ⟨n, hn, rfl⟩ := Option.map_eq_some_iff.mp hx
          have := decide_eq_true (h2 n (List.mem_of_getElem? hn))
          rw [show numB 0 65535 (.int n) = decide (0 ≤ n ∧ n ≤ 65535) from rfl, this] at hb
          cases hb
        | true =>
          refine ⟨_, rfl, rfl, fun j d hj hd => ?_⟩
          by_cases z : j = i
          · subst z
            rw [hx] at hd
            cases hd
            exact hb
          · exact u j d (by omega) hd
      rintro ρ S' ⟨v3, rfl, rfl, u⟩
      obtain ⟨ns, rfl, hn⟩ := nums_of fun j d hd => u j d (List.getElem?_eq_some_iff.mp hd).1 hd
      rw [List.length_map] at c
      ((conv => whnf); (repeat ((first | refine ⟨(by show (0 : Int) < _; first | decide | omega), ?_⟩ | refine ⟨cmul_r (by decide) (by decide), ?_⟩ | refine ⟨cmul_l (by decide) (by decide), ?_⟩ | refine ⟨cmul_l (by omega) (by omega), ?_⟩ | refine ⟨cdiv_v (by omega) (by omega), ?_⟩ | refine ⟨cdiv_c (by decide) (by decide), ?_⟩ | refine ⟨(by decide), ?_⟩ | refine ⟨Nat.le_of_ble_eq_true rfl, ?_⟩ | refine ⟨⟨by decide, by decide, by decide⟩, ?_⟩); (conv => whnf))))
      refine ⟨fun i ρ T => ∃ v4 v5 v6 v7, ρ = [some (dLay gs), some (.ref m), some (.int (lastE gs)), v3, v4, v5, v6, v7] ∧ Kn S' T ∧ ∀ (j : Nat) g, j < i → gs[j]? = some g → ∀ x ∈ segM ns g, x ≤ g.most, ⟨_, _, _, _, rfl, .rfl, fun j d h => absurd h (Nat.not_lt_zero _)⟩, fun _ _ _ _ _ => trivial, ?_, ?_⟩
      · rintro i x ρ T hx ⟨v4, v5, v6, v7, rfl, k1, u2⟩
        rw [List.getElem?_map] at hx
        obtain ⟨g, hg, rfl⟩ := Option.map_eq_some_iff.mp hx
        obtain ⟨cut, pos⟩ := seg_cut ly (List.mem_of_getElem? hg) c
        ((conv => whnf); (repeat ((first | refine ⟨(by show (0 : Int) < _; first | decide | omega), ?_⟩ | refine ⟨cmul_r (by decide) (by decide), ?_⟩ | refine ⟨cmul_l (by decide) (by decide), ?_⟩ | refine ⟨cmul_l (by omega) (by omega), ?_⟩ | refine ⟨cdiv_v (by omega) (by omega), ?_⟩ | refine ⟨cdiv_c (by decide) (by decide), ?_⟩ | refine ⟨(by decide), ?_⟩ | refine ⟨Nat.le_of_ble_eq_true rfl, ?_⟩ | refine ⟨⟨by decide, by decide, by decide⟩, ?_⟩); (conv => whnf))))
        rw [look_of (k1.get e)]
        conv => whnf
        rw [cut]
        refine ⟨segM ns g, look_of (get_new _ _), pos, fun mx hm hle => ?_⟩
        ((conv => whnf); (repeat ((first | refine ⟨(by show (0 : Int) < _; first | decide | omega), ?_⟩ | refine ⟨cmul_r (by decide) (by decide), ?_⟩ | refine ⟨cmul_l (by decide) (by decide), ?_⟩ | refine ⟨cmul_l (by omega) (by omega), ?_⟩ | refine ⟨cdiv_v (by omega) (by omega), ?_⟩ | refine ⟨cdiv_c (by decide) (by decide), ?_⟩ | refine ⟨(by decide), ?_⟩ | refine ⟨Nat.le_of_ble_eq_true rfl, ?_⟩ | refine ⟨⟨by decide, by decide, by decide⟩, ?_⟩); (conv => whnf))))
        first | refine bcase (fun c2 => ?_) (fun c2 => ?_) | refine bcase0 (fun c2 => ?_) (fun c2 => ?_) | refine bcase1 (fun c2 => ?_) (fun c2 => ?_)
        · refine kf _ k1.add fun ⟨ns', h1, _, _, h4⟩ => ?_
          rw [← ints_inj h1] at h4
          have := h4 g (List.mem_of_getElem? hg) mx hm
          have c2 : g.most < mx := c2
          omega
        · have c2 : ¬ g.most < mx := c2
          refine ⟨_, _, _, _, rfl, k1.add, fun j g' hj hg' y hy => ?_⟩
          by_cases z : j = i
          · subst z
            rw [hg] at hg'
            cases hg'
            exact Int.le_trans (hle y hy) (by omega)
          · exact u2 j g' (by omega) hg' y hy
      · rintro ρ T ⟨v4, v5, v6, v7, rfl, k1, u2⟩
        refine kt T k1 ⟨ns, rfl, hn, c, fun g hg => ?_⟩
        obtain ⟨j, hj⟩ := List.mem_iff_getElem?.mp hg
        exact u2 j g (by rw [List.length_map]; exact (List.getElem?_eq_some_iff.mp hj).1) hj
  rw [eq_law_is_memory]
  ((conv => whnf); (repeat ((first | refine ⟨(by show (0 : Int) < _; first | decide | omega), ?_⟩ | refine ⟨cmul_r (by decide) (by decide), ?_⟩ | refine ⟨cmul_l (by decide) (by decide), ?_⟩ | refine ⟨cmul_l (by omega) (by omega), ?_⟩ | refine ⟨cdiv_v (by omega) (by omega), ?_⟩ | refine ⟨cdiv_c (by decide) (by decide), ?_⟩ | refine ⟨(by decide), ?_⟩ | refine ⟨Nat.le_of_ble_eq_true rfl, ?_⟩ | refine ⟨⟨by decide, by decide, by decide⟩, ?_⟩); (conv => whnf))))
  rcases last_cases gs with ⟨rfl, e⟩ | ⟨g, hg, _, e, hp⟩
  · ((conv => whnf); (repeat ((first | refine ⟨(by show (0 : Int) < _; first | decide | omega), ?_⟩ | refine ⟨cmul_r (by decide) (by decide), ?_⟩ | refine ⟨cmul_l (by decide) (by decide), ?_⟩ | refine ⟨cmul_l (by omega) (by omega), ?_⟩ | refine ⟨cdiv_v (by omega) (by omega), ?_⟩ | refine ⟨cdiv_c (by decide) (by decide), ?_⟩ | refine ⟨(by decide), ?_⟩ | refine ⟨Nat.le_of_ble_eq_true rfl, ?_⟩ | refine ⟨⟨by decide, by decide, by decide⟩, ?_⟩); (conv => whnf))))
    rw [e] at t1
    exact t1
  · rw [lay_len]
    refine btrue (decide_eq_true (show (0 : Int) < (gs.length : Int) by omega)) ?_
    ((conv => whnf); (repeat ((first | refine ⟨(by show (0 : Int) < _; first | decide | omega), ?_⟩ | refine ⟨cmul_r (by decide) (by decide), ?_⟩ | refine ⟨cmul_l (by decide) (by decide), ?_⟩ | refine ⟨cmul_l (by omega) (by omega), ?_⟩ | refine ⟨cdiv_v (by omega) (by omega), ?_⟩ | refine ⟨cdiv_c (by decide) (by decide), ?_⟩ | refine ⟨(by decide), ?_⟩ | refine ⟨Nat.le_of_ble_eq_true rfl, ?_⟩ | refine ⟨⟨by decide, by decide, by decide⟩, ?_⟩); (conv => whnf))))
    rw [map_last hg]
    ((conv => whnf); (repeat ((first | refine ⟨(by show (0 : Int) < _; first | decide | omega), ?_⟩ | refine ⟨cmul_r (by decide) (by decide), ?_⟩ | refine ⟨cmul_l (by decide) (by decide), ?_⟩ | refine ⟨cmul_l (by omega) (by omega), ?_⟩ | refine ⟨cdiv_v (by omega) (by omega), ?_⟩ | refine ⟨cdiv_c (by decide) (by decide), ?_⟩ | refine ⟨(by decide), ?_⟩ | refine ⟨Nat.le_of_ble_eq_true rfl, ?_⟩ | refine ⟨⟨by decide, by decide, by decide⟩, ?_⟩); (conv => whnf))))
    rw [map_last hg]
    ((conv => whnf); (repeat ((first | refine ⟨(by show (0 : Int) < _; first | decide | omega), ?_⟩ | refine ⟨cmul_r (by decide) (by decide), ?_⟩ | refine ⟨cmul_l (by decide) (by decide), ?_⟩ | refine ⟨cmul_l (by omega) (by omega), ?_⟩ | refine ⟨cdiv_v (by omega) (by omega), ?_⟩ | refine ⟨cdiv_c (by decide) (by decide), ?_⟩ | refine ⟨(by decide), ?_⟩ | refine ⟨Nat.le_of_ble_eq_true rfl, ?_⟩ | refine ⟨⟨by decide, by decide, by decide⟩, ?_⟩); (conv => whnf))))
    rw [e] at t1
    exact t1
/-! ### a memory of the law -/
theorem p_memory {gs : List Rg} {S : Sto} {p : Nat} {q : DK} (ly : Lay gs) (hS : Src S p) (k : ∀ (ns : List Int) m S', S.length ≤ m → S'[m]? = some (.lst (ns.map D.int)) → ns.length ≤ 4096 → Src S' p → Kp (· = p) S S' → q (.ref m) S') : wp_law_memory [.ref p, dLay gs] S q := by
  have hp := hS.lt
  rw [eq_law_memory]
  ((conv => whnf); (repeat ((first | refine ⟨(by show (0 : Int) < _; first | decide | omega), ?_⟩ | refine ⟨cmul_r (by decide) (by decide), ?_⟩ | refine ⟨cmul_l (by decide) (by decide), ?_⟩ | refine ⟨cmul_l (by omega) (by omega), ?_⟩ | refine ⟨cdiv_v (by omega) (by omega), ?_⟩ | refine ⟨cdiv_c (by decide) (by decide), ?_⟩ | refine ⟨(by decide), ?_⟩ | refine ⟨Nat.le_of_ble_eq_true rfl, ?_⟩ | refine ⟨⟨by decide, by decide, by decide⟩, ?_⟩); (conv => whnf))))
  refine ⟨fun i ρ S' => ∃ (ns : List Int) (m : Nat) (v4 v5 v6 v7 v8 : Option D), ρ = [some (.ref p), some (dLay gs), some (.int (lastE (gs.take i))), some (.ref m), v4, v5, v6, v7, v8, none] ∧ S.length ≤ m ∧ S'[m]? = some (.lst (ns.map D.int)) ∧ (ns.length : Int) = lastE (gs.take i) ∧ Src S' p ∧ Kp (· = p) S S',
    ⟨[], S.length, _, _, _, _, _, rfl, Nat.le_refl _, get_new _ _, rfl, hS.keep (X := fun _ => False) .app id, .app⟩, fun _ _ _ _ _ => trivial, ?_, ?_⟩
  · rintro i x ρ S0 hx ⟨ns, m, v4, v5, v6, v7, v8, rfl, hm, em, hl, hS0, k0⟩
    rw [List.getElem?_map] at hx
    obtain ⟨g, hg, rfl⟩ := Option.map_eq_some_iff.mp hx
    obtain ⟨g0, g1, g2, g3, g4⟩ := ly.vr g (List.mem_of_getElem? hg)
    have ht : gs.take (i + 1) = gs.take i ++ [g] := by
      rw [List.take_add_one, hg]
      rfl
    have adj : lastE (gs.take i) ≤ g.start := by
      rcases last_cases (gs.take i) with ⟨_, e⟩ | ⟨h, hh, _, e, hp⟩
      · rw [e]
        exact g0
      · rw [e]
        have il := (List.getElem?_eq_some_iff.mp hg).1
        rw [List.getLast?_eq_getElem?, List.length_take, show min i gs.length = i by omega, List.getElem?_take] at hh
        split at hh
        · exact ly.adj (i - 1) h g hh (by rw [show i - 1 + 1 = i by omega]; exact hg)
        · cases hh
    have np : ¬ m = p := by omega
    ((conv => whnf); (repeat ((first | refine ⟨(by show (0 : Int) < _; first | decide | omega), ?_⟩ | refine ⟨cmul_r (by decide) (by decide), ?_⟩ | refine ⟨cmul_l (by decide) (by decide), ?_⟩ | refine ⟨cmul_l (by omega) (by omega), ?_⟩ | refine ⟨cdiv_v (by omega) (by omega), ?_⟩ | refine ⟨cdiv_c (by decide) (by decide), ?_⟩ | refine ⟨(by decide), ?_⟩ | refine ⟨Nat.le_of_ble_eq_true rfl, ?_⟩ | refine ⟨⟨by decide, by decide, by decide⟩, ?_⟩); (conv => whnf))))
    refine p_draw hS0 (by decide) (by decide) fun v1 S1 a1 b1 hS1 kk1 => ?_
    have k1 := k0.trans kk1
    ((conv => whnf); (repeat ((first | refine ⟨(by show (0 : Int) < _; first | decide | omega), ?_⟩ | refine ⟨cmul_r (by decide) (by decide), ?_⟩ | refine ⟨cmul_l (by decide) (by decide), ?_⟩ | refine ⟨cmul_l (by omega) (by omega), ?_⟩ | refine ⟨cdiv_v (by omega) (by omega), ?_⟩ | refine ⟨cdiv_c (by decide) (by decide), ?_⟩ | refine ⟨(by decide), ?_⟩ | refine ⟨Nat.le_of_ble_eq_true rfl, ?_⟩ | refine ⟨⟨by decide, by decide, by decide⟩, ?_⟩); (conv => whnf))))
    have e1 := kk1.get np em
    generalize hA : S1 ++ [Ob.lst [D.int v1]] = A
    have kA : Kn S1 A := by rw [← hA]; exact .app
    have eA : A[S1.length]? = some (.lst [.int v1]) := by rw [← hA]; exact get_new _ _
    ((conv => whnf); (repeat ((first | refine ⟨(by show (0 : Int) < _; first | decide | omega), ?_⟩ | refine ⟨cmul_r (by decide) (by decide), ?_⟩ | refine ⟨cmul_l (by decide) (by decide), ?_⟩ | refine ⟨cmul_l (by omega) (by omega), ?_⟩ | refine ⟨cdiv_v (by omega) (by omega), ?_⟩ | refine ⟨cdiv_c (by decide) (by decide), ?_⟩ | refine ⟨(by decide), ?_⟩ | refine ⟨Nat.le_of_ble_eq_true rfl, ?_⟩ | refine ⟨⟨by decide, by decide, by decide⟩, ?_⟩); (conv => whnf))))
    rw [look_of eA]
    conv => whnf
    refine ⟨⟨by show 0 ≤ g.start - lastE (gs.take i); omega, by show g.start - lastE (gs.take i) ≤ 1000000; omega, ?_⟩, ?_⟩
    · show 1 * (g.start - lastE (gs.take i)).toNat ≤ 1000000
      omega
    generalize hB : A ++ [Ob.lst _] = B
    have kB : Kn A B := by rw [← hB]; exact .app
    have eB : B[A.length]? = some (.lst (List.replicate (g.start - lastE (gs.take i)).toNat [D.int v1]).flatten) := by rw [← hB]; exact get_new _ _
    have ef : (List.replicate (g.start - lastE (gs.take i)).toNat [D.int v1]).flatten = (List.replicate (g.start - lastE (gs.take i)).toNat v1).map D.int := by
      generalize (g.start - lastE (gs.take i)).toNat = n
      induction n with
      | zero => rfl
      | succ n ih => rw [List.replicate_succ, List.flatten_cons, ih, List.replicate_succ]; rfl
    rw [ef] at eB
    ((conv => whnf); (repeat ((first | refine ⟨(by show (0 : Int) < _; first | decide | omega), ?_⟩ | refine ⟨cmul_r (by decide) (by decide), ?_⟩ | refine ⟨cmul_l (by decide) (by decide), ?_⟩ | refine ⟨cmul_l (by omega) (by omega), ?_⟩ | refine ⟨cdiv_v (by omega) (by omega), ?_⟩ | refine ⟨cdiv_c (by decide) (by decide), ?_⟩ | refine ⟨(by decide), ?_⟩ | refine ⟨Nat.le_of_ble_eq_true rfl, ?_⟩ | refine ⟨⟨by decide, by decide, by decide⟩, ?_⟩); (conv => whnf))))
    rw [look_of (kB.get (kA.get e1)), look_of eB]
    conv => whnf
    refine ⟨?_, ?_⟩
    · rw [List.length_map, List.length_map, List.length_replicate]
      omega
    generalize hC : B ++ [Ob.lst _] = C0
    have kC : Kn B C0 := by rw [← hC]; exact .app
    have eC : C0[B.length]? = some (.lst ((ns ++ List.replicate (g.start - lastE (gs.take i)).toNat v1).map D.int)) := by
      rw [← hC, get_new, List.map_append]
    have k1C : Kn S1 C0 := (kA.trans kB).trans kC
    have lC : (((ns ++ List.replicate (g.start - lastE (gs.take i)).toNat v1).length : Nat) : Int) = g.start := by
      rw [List.length_append, List.length_replicate]
      omega
    generalize ns ++ List.replicate (g.start - lastE (gs.take i)).toNat v1 = ns1 at eC lC
    have hB' : S.length ≤ B.length := by
      have := k1.len
      have := (kA.trans kB).len
      omega
    have nB : ¬ B.length = p := by omega
    have hS1 := hS1.keep k1C id
    have k1 := k1.trans (k1C.mono fun _ z => z.elim)
    generalize B.length = mB at eC hB' nB
    ((conv => whnf); (repeat ((first | refine ⟨(by show (0 : Int) < _; first | decide | omega), ?_⟩ | refine ⟨cmul_r (by decide) (by decide), ?_⟩ | refine ⟨cmul_l (by decide) (by decide), ?_⟩ | refine ⟨cmul_l (by omega) (by omega), ?_⟩ | refine ⟨cdiv_v (by omega) (by omega), ?_⟩ | refine ⟨cdiv_c (by decide) (by decide), ?_⟩ | refine ⟨(by decide), ?_⟩ | refine ⟨Nat.le_of_ble_eq_true rfl, ?_⟩ | refine ⟨⟨by decide, by decide, by decide⟩, ?_⟩); (conv => whnf))))
    refine p_draw hS1 (by decide) (by decide) fun v2 S2 a2 b2 hS2 kk2 => ?_
    have k2 := k1.trans kk2
    have e2 := kk2.get nB eC
    ((conv => whnf); (repeat ((first | refine ⟨(by show (0 : Int) < _; first | decide | omega), ?_⟩ | refine ⟨cmul_r (by decide) (by decide), ?_⟩ | refine ⟨cmul_l (by decide) (by decide), ?_⟩ | refine ⟨cmul_l (by omega) (by omega), ?_⟩ | refine ⟨cdiv_v (by omega) (by omega), ?_⟩ | refine ⟨cdiv_c (by decide) (by decide), ?_⟩ | refine ⟨(by decide), ?_⟩ | refine ⟨Nat.le_of_ble_eq_true rfl, ?_⟩ | refine ⟨⟨by decide, by decide, by decide⟩, ?_⟩); (conv => whnf))))
    refine ⟨⟨by show _ ≤ g.size; omega, by show g.size < _; omega⟩, ?_⟩
    refine ⟨fun j S' => ∃ xs : List Int, S'[S2.length]? = some (.lst (xs.map D.int)) ∧ xs.length = j ∧ Src S' p ∧ Kp (· = p) S2 S', ⟨[], get_new _ _, rfl, hS2.keep (X := fun _ => False) .app id, .app⟩, fun _ _ _ _ => trivial, ?_, ?_⟩
    · rintro j y S3 hy ⟨xs, e3, hx, hS3, k3⟩
      have hj : j < g.size.toNat := by
        have := (List.getElem?_eq_some_iff.mp hy).1
        rw [rngD_len] at this
        exact this
      rw [rngD_at hj, Int.zero_add] at hy
      cases hy
      ((conv => whnf); (repeat ((first | refine ⟨(by show (0 : Int) < _; first | decide | omega), ?_⟩ | refine ⟨cmul_r (by decide) (by decide), ?_⟩ | refine ⟨cmul_l (by decide) (by decide), ?_⟩ | refine ⟨cmul_l (by omega) (by omega), ?_⟩ | refine ⟨cdiv_v (by omega) (by omega), ?_⟩ | refine ⟨cdiv_c (by decide) (by decide), ?_⟩ | refine ⟨(by decide), ?_⟩ | refine ⟨Nat.le_of_ble_eq_true rfl, ?_⟩ | refine ⟨⟨by decide, by decide, by decide⟩, ?_⟩); (conv => whnf))))
      refine p_draw hS3 (by show (0 : Int) < g.most + 1; omega) (by show g.most + 1 ≤ _; omega) fun v4 S4 a4 b4 hS4 kk4 => ?_
      have l2 := hS2.lt
      have e4 := kk4.get (show ¬ S2.length = p by omega) e3
      ((conv => whnf); (repeat ((first | refine ⟨(by show (0 : Int) < _; first | decide | omega), ?_⟩ | refine ⟨cmul_r (by decide) (by decide), ?_⟩ | refine ⟨cmul_l (by decide) (by decide), ?_⟩ | refine ⟨cmul_l (by omega) (by omega), ?_⟩ | refine ⟨cdiv_v (by omega) (by omega), ?_⟩ | refine ⟨cdiv_c (by decide) (by decide), ?_⟩ | refine ⟨(by decide), ?_⟩ | refine ⟨Nat.le_of_ble_eq_true rfl, ?_⟩ | refine ⟨⟨by decide, by decide, by decide⟩, ?_⟩); (conv => whnf))))
      refine ix_all (fun d => ∃ i, d = .int i) ?_ a2 b2 ?_
      · intro d hd
        simp only [List.mem_cons, List.not_mem_nil, or_false] at hd
        rcases hd with rfl | rfl | rfl <;> exact ⟨_, rfl⟩
      rintro _ ⟨z, rfl⟩
      ((conv => whnf); (repeat ((first | refine ⟨(by show (0 : Int) < _; first | decide | omega), ?_⟩ | refine ⟨cmul_r (by decide) (by decide), ?_⟩ | refine ⟨cmul_l (by decide) (by decide), ?_⟩ | refine ⟨cmul_l (by omega) (by omega), ?_⟩ | refine ⟨cdiv_v (by omega) (by omega), ?_⟩ | refine ⟨cdiv_c (by decide) (by decide), ?_⟩ | refine ⟨(by decide), ?_⟩ | refine ⟨Nat.le_of_ble_eq_true rfl, ?_⟩ | refine ⟨⟨by decide, by decide, by decide⟩, ?_⟩); (conv => whnf))))
      rw [look_of e4]
      conv => whnf
      refine ⟨by rw [List.length_map]; omega, xs ++ [z], by rw [get_set e4, List.map_append]; rfl, by rw [List.length_append, hx]; rfl, hS4.keep (X := (· = S2.length)) (.set rfl) (by omega), (k3.trans kk4).put (Nat.le_refl _)⟩
    · rintro S3 ⟨xs, e3, hx, hS3, k3⟩
      rw [rngD_len] at hx
      have e4 := k3.get nB e2
      ((conv => whnf); (repeat ((first | refine ⟨(by show (0 : Int) < _; first | decide | omega), ?_⟩ | refine ⟨cmul_r (by decide) (by decide), ?_⟩ | refine ⟨cmul_l (by decide) (by decide), ?_⟩ | refine ⟨cmul_l (by omega) (by omega), ?_⟩ | refine ⟨cdiv_v (by omega) (by omega), ?_⟩ | refine ⟨cdiv_c (by decide) (by decide), ?_⟩ | refine ⟨(by decide), ?_⟩ | refine ⟨Nat.le_of_ble_eq_true rfl, ?_⟩ | refine ⟨⟨by decide, by decide, by decide⟩, ?_⟩); (conv => whnf))))
      rw [look_of e4, look_of e3]
      conv => whnf
      refine ⟨by rw [List.length_map, List.length_map]; omega, ?_⟩
      ((conv => whnf); (repeat ((first | refine ⟨(by show (0 : Int) < _; first | decide | omega), ?_⟩ | refine ⟨cmul_r (by decide) (by decide), ?_⟩ | refine ⟨cmul_l (by decide) (by decide), ?_⟩ | refine ⟨cmul_l (by omega) (by omega), ?_⟩ | refine ⟨cdiv_v (by omega) (by omega), ?_⟩ | refine ⟨cdiv_c (by decide) (by decide), ?_⟩ | refine ⟨(by decide), ?_⟩ | refine ⟨Nat.le_of_ble_eq_true rfl, ?_⟩ | refine ⟨⟨by decide, by decide, by decide⟩, ?_⟩); (conv => whnf))))
      have l2 := k2.len
      have l3 := k3.len
      refine ⟨ns1 ++ xs, S3.length, _, _, _, _, _, by rw [ht, lastE_snoc], by omega, by rw [get_new, List.map_append], ?_, hS3.keep (X := fun _ => False) .app id, (k2.trans k3).add⟩
      rw [ht, lastE_snoc, List.length_append]
      omega
  · rintro ρ S0 ⟨ns, m, v4, v5, v6, v7, v8, rfl, hm, em, hl, hS0, k0⟩
    rw [List.length_map, List.take_of_length_le (Nat.le_refl _)] at hl
    refine k ns m S0 hm em ?_ hS0 k0
    rcases last_cases gs with ⟨_, e⟩ | ⟨h, _, hmem, e, _⟩
    · omega
    · have := (ly.vr h hmem).2.2.1
      omega
end K27

set_option Elab.async false
set_option linter.all false
set_option maxRecDepth 100000
set_option maxHeartbeats 4000000
namespace K27
open PySem PySem.Spec PyProof.Rows L2 DT
theorem Wd.keep {S S' : Sto} {d : D} (h : Wd S d) (k : Kn S S') : Wd S' d := ⟨h.1.keep k, h.2⟩
theorem wd_int {S : Sto} (i : Int) : Wd S (.int i) := ⟨fl_int i, fun s z => by cases z⟩
theorem wd_data {S : Sto} : ∀ {vs : List D}, (∀ d ∈ vs, Wd S d) → ∃ ps, pds1 S vs = some ps ∧ PyData.canLayAll0 ps = true ∧ PyData.depthAll ps ≤ 2
  | [], _ => ⟨[], rfl, rfl, Nat.le_of_ble_eq_true rfl⟩
  | v :: vs, h => by
    obtain ⟨ps, e, l, d⟩ := wd_data fun d hd => h d (List.mem_cons_of_mem _ hd)
    have key : ∀ x, pd1 S v = some x → x.canLay0 = true → x.depth ≤ 2 → ∃ ps, pds1 S (v :: vs) = some ps ∧ PyData.canLayAll0 ps = true ∧ PyData.depthAll ps ≤ 2 := fun x e1 e2 e3 => by
      refine ⟨x :: ps, ?_, ?_, ?_⟩
      · unfold pds1
        rw [e1, e]
      · show (x.canLay0 && PyData.canLayAll0 ps) = true
        rw [e2, l]
        rfl
      · show max x.depth (PyData.depthAll ps) ≤ 2
        omega
    obtain ⟨hf, hs⟩ := h v (List.mem_cons_self ..)
    rcases hf with rfl | ⟨b, rfl⟩ | ⟨i, rfl⟩ | ⟨s, rfl⟩ | rfl | ⟨n, rfl, e1⟩
    · exact key .none rfl rfl (Nat.le_of_ble_eq_true rfl)
    · exact key (.bool b) rfl rfl (Nat.le_of_ble_eq_true rfl)
    · exact key (.int i) rfl rfl (Nat.le_of_ble_eq_true rfl)
    · exact key (.str s) rfl (hs s rfl) (Nat.le_of_ble_eq_true rfl)
    · exact key (.tuple []) rfl rfl (Nat.le_of_ble_eq_true rfl)
    · refine key (.list []) ?_ rfl (Nat.le_of_ble_eq_true rfl)
      unfold pd1
      dsimp only
      rw [look_of e1]
      rfl
theorem same_list {S : Sto} {n m : Nat} {vs : List D} (e1 : S[n]? = some (.lst vs)) (e2 : S[m]? = some (.lst vs)) (h : ∀ d ∈ vs, Wd S d) : ∃ p, pdt S (.ref n) = some p ∧ pdt S (.ref m) = some p ∧ SeqAt.shaped p = true ∧ PyData.eqv p p = true := by
  obtain ⟨ps, e, l, d⟩ := wd_data h
  have g : ∀ {k : Nat}, S[k]? = some (.lst vs) → pdt S (.ref k) = some (.list ps) := fun {k} ek => by
    unfold pdt
    dsimp only
    rw [look_of ek]
    dsimp only
    rw [e]
    rfl
  have lay : (PyData.list ps).canLay0 = true := by unfold PyData.canLay0; exact l
  exact ⟨_, g e1, g e2, WD.shaped_of lay (by unfold PyData.depth; omega), SeqAt.eqv_refl _ lay⟩
theorem p_memories {gs : List Rg} {S : Sto} {p : Nat} {q : DK} (ly : Lay gs) (hS : Src S p) (k : ∀ S', q (.bl true) S') : wp_law_memories_hold [.ref p, dLay gs] S q := by
  have t1 : ∀ (ns : List Int) (m n : Nat) (vs : List D) (a4 a5 a6 a7 : Option D) (S0 : Sto), S0[m]? = some (.lst (ns.map D.int)) → S0[n]? = some (.lst vs) → (∀ d ∈ vs, Wd S0 d) →
      c_law_memories_hold_1 { nx := fun _ S' => q .non S', rt := q } [some (.ref p), some (dLay gs), some (.ref m), some (.ref n), a4, a5, a6, a7] S0 := by
    intro ns m n vs a4 a5 a6 a7 S0 e1 e2 hv
    have hns : ∀ {T : Sto}, ∀ d ∈ ns.map D.int, Wd T d := fun {T} d hd => by
      obtain ⟨i, _, rfl⟩ := List.mem_map.mp hd
      exact wd_int i
    rw [eqc_law_memories_hold_1]
    ((conv => whnf); (repeat ((first | refine ⟨(by show (0 : Int) < _; first | decide | omega), ?_⟩ | refine ⟨cmul_r (by decide) (by decide), ?_⟩ | refine ⟨cmul_l (by decide) (by decide), ?_⟩ | refine ⟨cmul_l (by omega) (by omega), ?_⟩ | refine ⟨cdiv_v (by omega) (by omega), ?_⟩ | refine ⟨cdiv_c (by decide) (by decide), ?_⟩ | refine ⟨(by decide), ?_⟩ | refine ⟨Nat.le_of_ble_eq_true rfl, ?_⟩ | refine ⟨⟨by decide, by decide, by decide⟩, ?_⟩); (conv => whnf))))
    refine ⟨fun i ρ S' => ∃ v6 v7, ρ = [some (.ref p), some (dLay gs), some (.ref m), some (.ref n), a4, a5, v6, v7] ∧ Kn S0 S', ⟨_, _, rfl, .rfl⟩, fun _ _ _ _ _ => trivial, ?_, ?_⟩
    · rintro i x ρ S1 hx ⟨v6, v7, rfl, k1⟩
      have hx : ([.ref m, .ref n, .ref m] : List D)[i]? = some x := hx
      have key : ∃ z ws, x = .ref z ∧ S1[z]? = some (.lst ws) ∧ ∀ d ∈ ws, Wd S1 d := by
        match i, hx with
        | 0, hx => cases hx; exact ⟨m, _, rfl, k1.get e1, hns⟩
        | 1, hx => cases hx; exact ⟨n, _, rfl, k1.get e2, fun d hd => (hv d hd).keep k1⟩
        | 2, hx => cases hx; exact ⟨m, _, rfl, k1.get e1, hns⟩
      obtain ⟨z, ws, rfl, ez, hw⟩ := key
      ((conv => whnf); (repeat ((first | refine ⟨(by show (0 : Int) < _; first | decide | omega), ?_⟩ | refine ⟨cmul_r (by decide) (by decide), ?_⟩ | refine ⟨cmul_l (by decide) (by decide), ?_⟩ | refine ⟨cmul_l (by omega) (by omega), ?_⟩ | refine ⟨cdiv_v (by omega) (by omega), ?_⟩ | refine ⟨cdiv_c (by decide) (by decide), ?_⟩ | refine ⟨(by decide), ?_⟩ | refine ⟨Nat.le_of_ble_eq_true rfl, ?_⟩ | refine ⟨⟨by decide, by decide, by decide⟩, ?_⟩); (conv => whnf))))
      rw [seqD_ref ez]
      ((conv => whnf); (repeat ((first | refine ⟨(by show (0 : Int) < _; first | decide | omega), ?_⟩ | refine ⟨cmul_r (by decide) (by decide), ?_⟩ | refine ⟨cmul_l (by decide) (by decide), ?_⟩ | refine ⟨cmul_l (by omega) (by omega), ?_⟩ | refine ⟨cdiv_v (by omega) (by omega), ?_⟩ | refine ⟨cdiv_c (by decide) (by decide), ?_⟩ | refine ⟨(by decide), ?_⟩ | refine ⟨Nat.le_of_ble_eq_true rfl, ?_⟩ | refine ⟨⟨by decide, by decide, by decide⟩, ?_⟩); (conv => whnf))))
      generalize hX : S1 ++ [Ob.lst ws] = X
      have kX : Kn S1 X := by rw [← hX]; exact .app
      have eX : X[S1.length]? = some (.lst ws) := by rw [← hX]; exact get_new _ _
      have fin : ∀ (b : Bool) (T : Sto) (d : XD), d.nx = (fun ρ S' => ∃ v6 v7, ρ = [some (.ref p), some (dLay gs), some (.ref m), some (.ref n), a4, a5, v6, v7] ∧ Kn S0 S') → Kn X T →
          xIfS (xOr (xTest (xOp (gEq true) (xVar 6) (xVar 7))) (xTest (xOp (gEq true) (xCall fLen (xCons (xVar 6) xNil)) (xCall fLen (xCons (xVar 7) xNil))))) (xRet (xC (.bl false))) xNext d [some (.ref p), some (dLay gs), some (.ref m), some (.ref n), a4, a5, some (.ref z), some (.ref S1.length)] T := by
        intro b T d hd kT
        have ez2 := kT.get (kX.get ez)
        have eX2 := kT.get eX
        obtain ⟨p', h1, h2, h3, h4⟩ := same_list ez2 eX2 fun d hd => (hw d hd).keep (kX.trans kT)
        ((conv => whnf); (repeat ((first | refine ⟨(by show (0 : Int) < _; first | decide | omega), ?_⟩ | refine ⟨cmul_r (by decide) (by decide), ?_⟩ | refine ⟨cmul_l (by decide) (by decide), ?_⟩ | refine ⟨cmul_l (by omega) (by omega), ?_⟩ | refine ⟨cdiv_v (by omega) (by omega), ?_⟩ | refine ⟨cdiv_c (by decide) (by decide), ?_⟩ | refine ⟨(by decide), ?_⟩ | refine ⟨Nat.le_of_ble_eq_true rfl, ?_⟩ | refine ⟨⟨by decide, by decide, by decide⟩, ?_⟩); (conv => whnf))))
        refine ⟨p', p', h1, h2, h3, h3, ?_⟩
        rw [h4]
        ((conv => whnf); (repeat ((first | refine ⟨(by show (0 : Int) < _; first | decide | omega), ?_⟩ | refine ⟨cmul_r (by decide) (by decide), ?_⟩ | refine ⟨cmul_l (by decide) (by decide), ?_⟩ | refine ⟨cmul_l (by omega) (by omega), ?_⟩ | refine ⟨cdiv_v (by omega) (by omega), ?_⟩ | refine ⟨cdiv_c (by decide) (by decide), ?_⟩ | refine ⟨(by decide), ?_⟩ | refine ⟨Nat.le_of_ble_eq_true rfl, ?_⟩ | refine ⟨⟨by decide, by decide, by decide⟩, ?_⟩); (conv => whnf))))
        rw [seqD_ref ez2]
        ((conv => whnf); (repeat ((first | refine ⟨(by show (0 : Int) < _; first | decide | omega), ?_⟩ | refine ⟨cmul_r (by decide) (by decide), ?_⟩ | refine ⟨cmul_l (by decide) (by decide), ?_⟩ | refine ⟨cmul_l (by omega) (by omega), ?_⟩ | refine ⟨cdiv_v (by omega) (by omega), ?_⟩ | refine ⟨cdiv_c (by decide) (by decide), ?_⟩ | refine ⟨(by decide), ?_⟩ | refine ⟨Nat.le_of_ble_eq_true rfl, ?_⟩ | refine ⟨⟨by decide, by decide, by decide⟩, ?_⟩); (conv => whnf))))
        rw [seqD_ref eX2]
        ((conv => whnf); (repeat ((first | refine ⟨(by show (0 : Int) < _; first | decide | omega), ?_⟩ | refine ⟨cmul_r (by decide) (by decide), ?_⟩ | refine ⟨cmul_l (by decide) (by decide), ?_⟩ | refine ⟨cmul_l (by omega) (by omega), ?_⟩ | refine ⟨cdiv_v (by omega) (by omega), ?_⟩ | refine ⟨cdiv_c (by decide) (by decide), ?_⟩ | refine ⟨(by decide), ?_⟩ | refine ⟨Nat.le_of_ble_eq_true rfl, ?_⟩ | refine ⟨⟨by decide, by decide, by decide⟩, ?_⟩); (conv => whnf))))
        refine bcase1 (fun z => absurd rfl z) fun _ => ?_
        show d.nx _ _
        rw [hd]
        exact ⟨_, _, rfl, (k1.trans kX).trans kT⟩
      have hwX : ∀ d ∈ ws, Fl X d := fun d hd => ((hw d hd).keep kX).1
      refine p_is_memory ly (kX.get ez) hwX (fun T kT im => ?_) fun T kT im => ?_
      · ((conv => whnf); (repeat ((first | refine ⟨(by show (0 : Int) < _; first | decide | omega), ?_⟩ | refine ⟨cmul_r (by decide) (by decide), ?_⟩ | refine ⟨cmul_l (by decide) (by decide), ?_⟩ | refine ⟨cmul_l (by omega) (by omega), ?_⟩ | refine ⟨cdiv_v (by omega) (by omega), ?_⟩ | refine ⟨cdiv_c (by decide) (by decide), ?_⟩ | refine ⟨(by decide), ?_⟩ | refine ⟨Nat.le_of_ble_eq_true rfl, ?_⟩ | refine ⟨⟨by decide, by decide, by decide⟩, ?_⟩); (conv => whnf))))
        refine p_law_is_memory ly (kT.get eX) (fun d hd => (hwX d hd).keep kT) (fun U kU _ => ?_) fun U kU im2 => absurd im im2
        ((conv => whnf); (repeat ((first | refine ⟨(by show (0 : Int) < _; first | decide | omega), ?_⟩ | refine ⟨cmul_r (by decide) (by decide), ?_⟩ | refine ⟨cmul_l (by decide) (by decide), ?_⟩ | refine ⟨cmul_l (by omega) (by omega), ?_⟩ | refine ⟨cdiv_v (by omega) (by omega), ?_⟩ | refine ⟨cdiv_c (by decide) (by decide), ?_⟩ | refine ⟨(by decide), ?_⟩ | refine ⟨Nat.le_of_ble_eq_true rfl, ?_⟩ | refine ⟨⟨by decide, by decide, by decide⟩, ?_⟩); (conv => whnf))))
        refine p_ans ?_
        ((conv => whnf); (repeat ((first | refine ⟨(by show (0 : Int) < _; first | decide | omega), ?_⟩ | refine ⟨cmul_r (by decide) (by decide), ?_⟩ | refine ⟨cmul_l (by decide) (by decide), ?_⟩ | refine ⟨cmul_l (by omega) (by omega), ?_⟩ | refine ⟨cdiv_v (by omega) (by omega), ?_⟩ | refine ⟨cdiv_c (by decide) (by decide), ?_⟩ | refine ⟨(by decide), ?_⟩ | refine ⟨Nat.le_of_ble_eq_true rfl, ?_⟩ | refine ⟨⟨by decide, by decide, by decide⟩, ?_⟩); (conv => whnf))))
        exact fin true U _ rfl (kT.trans kU)
      · ((conv => whnf); (repeat ((first | refine ⟨(by show (0 : Int) < _; first | decide | omega), ?_⟩ | refine ⟨cmul_r (by decide) (by decide), ?_⟩ | refine ⟨cmul_l (by decide) (by decide), ?_⟩ | refine ⟨cmul_l (by omega) (by omega), ?_⟩ | refine ⟨cdiv_v (by omega) (by omega), ?_⟩ | refine ⟨cdiv_c (by decide) (by decide), ?_⟩ | refine ⟨(by decide), ?_⟩ | refine ⟨Nat.le_of_ble_eq_true rfl, ?_⟩ | refine ⟨⟨by decide, by decide, by decide⟩, ?_⟩); (conv => whnf))))
        refine p_law_is_memory ly (kT.get eX) (fun d hd => (hwX d hd).keep kT) (fun U kU im2 => absurd im2 im) fun U kU _ => ?_
        ((conv => whnf); (repeat ((first | refine ⟨(by show (0 : Int) < _; first | decide | omega), ?_⟩ | refine ⟨cmul_r (by decide) (by decide), ?_⟩ | refine ⟨cmul_l (by decide) (by decide), ?_⟩ | refine ⟨cmul_l (by omega) (by omega), ?_⟩ | refine ⟨cdiv_v (by omega) (by omega), ?_⟩ | refine ⟨cdiv_c (by decide) (by decide), ?_⟩ | refine ⟨(by decide), ?_⟩ | refine ⟨Nat.le_of_ble_eq_true rfl, ?_⟩ | refine ⟨⟨by decide, by decide, by decide⟩, ?_⟩); (conv => whnf))))
        refine p_ans ?_
        ((conv => whnf); (repeat ((first | refine ⟨(by show (0 : Int) < _; first | decide | omega), ?_⟩ | refine ⟨cmul_r (by decide) (by decide), ?_⟩ | refine ⟨cmul_l (by decide) (by decide), ?_⟩ | refine ⟨cmul_l (by omega) (by omega), ?_⟩ | refine ⟨cdiv_v (by omega) (by omega), ?_⟩ | refine ⟨cdiv_c (by decide) (by decide), ?_⟩ | refine ⟨(by decide), ?_⟩ | refine ⟨Nat.le_of_ble_eq_true rfl, ?_⟩ | refine ⟨⟨by decide, by decide, by decide⟩, ?_⟩); (conv => whnf))))
        exact fin true U _ rfl (kT.trans kU)
    · rintro ρ S1 ⟨v6, v7, rfl, k1⟩
      ((conv => whnf); (repeat ((first | refine ⟨(by show (0 : Int) < _; first | decide | omega), ?_⟩ | refine ⟨cmul_r (by decide) (by decide), ?_⟩ | refine ⟨cmul_l (by decide) (by decide), ?_⟩ | refine ⟨cmul_l (by omega) (by omega), ?_⟩ | refine ⟨cdiv_v (by omega) (by omega), ?_⟩ | refine ⟨cdiv_c (by decide) (by decide), ?_⟩ | refine ⟨(by decide), ?_⟩ | refine ⟨Nat.le_of_ble_eq_true rfl, ?_⟩ | refine ⟨⟨by decide, by decide, by decide⟩, ?_⟩); (conv => whnf))))
      rw [seqD_ref (k1.get e1)]
      ((conv => whnf); (repeat ((first | refine ⟨(by show (0 : Int) < _; first | decide | omega), ?_⟩ | refine ⟨cmul_r (by decide) (by decide), ?_⟩ | refine ⟨cmul_l (by decide) (by decide), ?_⟩ | refine ⟨cmul_l (by omega) (by omega), ?_⟩ | refine ⟨cdiv_v (by omega) (by omega), ?_⟩ | refine ⟨cdiv_c (by decide) (by decide), ?_⟩ | refine ⟨(by decide), ?_⟩ | refine ⟨Nat.le_of_ble_eq_true rfl, ?_⟩ | refine ⟨⟨by decide, by decide, by decide⟩, ?_⟩); (conv => whnf))))
      rw [eq_is_memory]
      ((conv => whnf); (repeat ((first | refine ⟨(by show (0 : Int) < _; first | decide | omega), ?_⟩ | refine ⟨cmul_r (by decide) (by decide), ?_⟩ | refine ⟨cmul_l (by decide) (by decide), ?_⟩ | refine ⟨cmul_l (by omega) (by omega), ?_⟩ | refine ⟨cdiv_v (by omega) (by omega), ?_⟩ | refine ⟨cdiv_c (by decide) (by decide), ?_⟩ | refine ⟨(by decide), ?_⟩ | refine ⟨Nat.le_of_ble_eq_true rfl, ?_⟩ | refine ⟨⟨by decide, by decide, by decide⟩, ?_⟩); (conv => whnf))))
      refine p_ans ?_
      exact k _
  rw [eq_law_memories_hold]
  ((conv => whnf); (repeat ((first | refine ⟨(by show (0 : Int) < _; first | decide | omega), ?_⟩ | refine ⟨cmul_r (by decide) (by decide), ?_⟩ | refine ⟨cmul_l (by decide) (by decide), ?_⟩ | refine ⟨cmul_l (by omega) (by omega), ?_⟩ | refine ⟨cdiv_v (by omega) (by omega), ?_⟩ | refine ⟨cdiv_c (by decide) (by decide), ?_⟩ | refine ⟨(by decide), ?_⟩ | refine ⟨Nat.le_of_ble_eq_true rfl, ?_⟩ | refine ⟨⟨by decide, by decide, by decide⟩, ?_⟩); (conv => whnf))))
  refine p_memory ly hS fun ns m S0 hm em hl hS0 k0 => ?_
  ((conv => whnf); (repeat ((first | refine ⟨(by show (0 : Int) < _; first | decide | omega), ?_⟩ | refine ⟨cmul_r (by decide) (by decide), ?_⟩ | refine ⟨cmul_l (by decide) (by decide), ?_⟩ | refine ⟨cmul_l (by omega) (by omega), ?_⟩ | refine ⟨cdiv_v (by omega) (by omega), ?_⟩ | refine ⟨cdiv_c (by decide) (by decide), ?_⟩ | refine ⟨(by decide), ?_⟩ | refine ⟨Nat.le_of_ble_eq_true rfl, ?_⟩ | refine ⟨⟨by decide, by decide, by decide⟩, ?_⟩); (conv => whnf))))
  rw [seqD_ref em]
  ((conv => whnf); (repeat ((first | refine ⟨(by show (0 : Int) < _; first | decide | omega), ?_⟩ | refine ⟨cmul_r (by decide) (by decide), ?_⟩ | refine ⟨cmul_l (by decide) (by decide), ?_⟩ | refine ⟨cmul_l (by omega) (by omega), ?_⟩ | refine ⟨cdiv_v (by omega) (by omega), ?_⟩ | refine ⟨cdiv_c (by decide) (by decide), ?_⟩ | refine ⟨(by decide), ?_⟩ | refine ⟨Nat.le_of_ble_eq_true rfl, ?_⟩ | refine ⟨⟨by decide, by decide, by decide⟩, ?_⟩); (conv => whnf))))
  generalize hX : S0 ++ [Ob.lst (ns.map D.int)] = X
  have kX : Kn S0 X := by rw [← hX]; exact .app
  have eX : X[S0.length]? = some (.lst (ns.map D.int)) := by rw [← hX]; exact get_new _ _
  have emX := kX.get em
  have hSX := hS0.keep kX id
  have hp := hS0.lt
  have lm := lt_of_get em
  have mp : ¬ m = p := by
    have := hS.lt
    omega
  have np : ¬ S0.length = p := by omega
  have hns : ∀ {T : Sto}, ∀ d ∈ ns.map D.int, Wd T d := fun {T} d hd => by
    obtain ⟨i, _, rfl⟩ := List.mem_map.mp hd
    exact wd_int i
  ((conv => whnf); (repeat ((first | refine ⟨(by show (0 : Int) < _; first | decide | omega), ?_⟩ | refine ⟨cmul_r (by decide) (by decide), ?_⟩ | refine ⟨cmul_l (by decide) (by decide), ?_⟩ | refine ⟨cmul_l (by omega) (by omega), ?_⟩ | refine ⟨cdiv_v (by omega) (by omega), ?_⟩ | refine ⟨cdiv_c (by decide) (by decide), ?_⟩ | refine ⟨(by decide), ?_⟩ | refine ⟨Nat.le_of_ble_eq_true rfl, ?_⟩ | refine ⟨⟨by decide, by decide, by decide⟩, ?_⟩); (conv => whnf))))
  refine p_draw hSX (by decide) (by decide) fun v1 S1 a1 b1 hS1 k1 => ?_
  have em1 := k1.get mp emX
  have eX1 := k1.get np eX
  ((conv => whnf); (repeat ((first | refine ⟨(by show (0 : Int) < _; first | decide | omega), ?_⟩ | refine ⟨cmul_r (by decide) (by decide), ?_⟩ | refine ⟨cmul_l (by decide) (by decide), ?_⟩ | refine ⟨cmul_l (by omega) (by omega), ?_⟩ | refine ⟨cdiv_v (by omega) (by omega), ?_⟩ | refine ⟨cdiv_c (by decide) (by decide), ?_⟩ | refine ⟨(by decide), ?_⟩ | refine ⟨Nat.le_of_ble_eq_true rfl, ?_⟩ | refine ⟨⟨by decide, by decide, by decide⟩, ?_⟩); (conv => whnf))))
  first | refine bcase (fun z0 => ?_) (fun z0 => ?_) | refine bcase0 (fun z0 => ?_) (fun z0 => ?_) | refine bcase1 (fun z0 => ?_) (fun z0 => ?_)
  · ((conv => whnf); (repeat ((first | refine ⟨(by show (0 : Int) < _; first | decide | omega), ?_⟩ | refine ⟨cmul_r (by decide) (by decide), ?_⟩ | refine ⟨cmul_l (by decide) (by decide), ?_⟩ | refine ⟨cmul_l (by omega) (by omega), ?_⟩ | refine ⟨cdiv_v (by omega) (by omega), ?_⟩ | refine ⟨cdiv_c (by decide) (by decide), ?_⟩ | refine ⟨(by decide), ?_⟩ | refine ⟨Nat.le_of_ble_eq_true rfl, ?_⟩ | refine ⟨⟨by decide, by decide, by decide⟩, ?_⟩); (conv => whnf))))
    have nl : ∀ o, (S1 ++ [o])[S1.length]? = some o := get_new S1
    rw [look_of (Kn.get .app eX1), look_of (nl _)]
    conv => whnf
    refine ⟨by rw [List.length_map]; show ns.length + 1 ≤ 1000000; omega, ?_⟩
    ((conv => whnf); (repeat ((first | refine ⟨(by show (0 : Int) < _; first | decide | omega), ?_⟩ | refine ⟨cmul_r (by decide) (by decide), ?_⟩ | refine ⟨cmul_l (by decide) (by decide), ?_⟩ | refine ⟨cmul_l (by omega) (by omega), ?_⟩ | refine ⟨cdiv_v (by omega) (by omega), ?_⟩ | refine ⟨cdiv_c (by decide) (by decide), ?_⟩ | refine ⟨(by decide), ?_⟩ | refine ⟨Nat.le_of_ble_eq_true rfl, ?_⟩ | refine ⟨⟨by decide, by decide, by decide⟩, ?_⟩); (conv => whnf))))
    refine t1 ns m _ _ _ _ _ _ _ (Kn.get (.trans .app .app) em1) (get_new _ _) fun d hd => ?_
    rcases List.mem_append.mp hd with hd | hd
    · exact hns d hd
    · rw [List.mem_singleton.mp hd]
      exact wd_int 0
  · ((conv => whnf); (repeat ((first | refine ⟨(by show (0 : Int) < _; first | decide | omega), ?_⟩ | refine ⟨cmul_r (by decide) (by decide), ?_⟩ | refine ⟨cmul_l (by decide) (by decide), ?_⟩ | refine ⟨cmul_l (by omega) (by omega), ?_⟩ | refine ⟨cdiv_v (by omega) (by omega), ?_⟩ | refine ⟨cdiv_c (by decide) (by decide), ?_⟩ | refine ⟨(by decide), ?_⟩ | refine ⟨Nat.le_of_ble_eq_true rfl, ?_⟩ | refine ⟨⟨by decide, by decide, by decide⟩, ?_⟩); (conv => whnf))))
    first | refine bcase (fun z1 => ?_) (fun z1 => ?_) | refine bcase0 (fun z1 => ?_) (fun z1 => ?_) | refine bcase1 (fun z1 => ?_) (fun z1 => ?_)
    · ((conv => whnf); (repeat ((first | refine ⟨(by show (0 : Int) < _; first | decide | omega), ?_⟩ | refine ⟨cmul_r (by decide) (by decide), ?_⟩ | refine ⟨cmul_l (by decide) (by decide), ?_⟩ | refine ⟨cmul_l (by omega) (by omega), ?_⟩ | refine ⟨cdiv_v (by omega) (by omega), ?_⟩ | refine ⟨cdiv_c (by decide) (by decide), ?_⟩ | refine ⟨(by decide), ?_⟩ | refine ⟨Nat.le_of_ble_eq_true rfl, ?_⟩ | refine ⟨⟨by decide, by decide, by decide⟩, ?_⟩); (conv => whnf))))
      rw [look_of eX1]
      ((conv => whnf); (repeat ((first | refine ⟨(by show (0 : Int) < _; first | decide | omega), ?_⟩ | refine ⟨cmul_r (by decide) (by decide), ?_⟩ | refine ⟨cmul_l (by decide) (by decide), ?_⟩ | refine ⟨cmul_l (by omega) (by omega), ?_⟩ | refine ⟨cdiv_v (by omega) (by omega), ?_⟩ | refine ⟨cdiv_c (by decide) (by decide), ?_⟩ | refine ⟨(by decide), ?_⟩ | refine ⟨Nat.le_of_ble_eq_true rfl, ?_⟩ | refine ⟨⟨by decide, by decide, by decide⟩, ?_⟩); (conv => whnf))))
      exact t1 ns m _ _ _ _ _ _ _ (Kn.get .app em1) (get_new _ _) fun d hd => hns d (mem_cut hd)
    · ((conv => whnf); (repeat ((first | refine ⟨(by show (0 : Int) < _; first | decide | omega), ?_⟩ | refine ⟨cmul_r (by decide) (by decide), ?_⟩ | refine ⟨cmul_l (by decide) (by decide), ?_⟩ | refine ⟨cmul_l (by omega) (by omega), ?_⟩ | refine ⟨cdiv_v (by omega) (by omega), ?_⟩ | refine ⟨cdiv_c (by decide) (by decide), ?_⟩ | refine ⟨(by decide), ?_⟩ | refine ⟨Nat.le_of_ble_eq_true rfl, ?_⟩ | refine ⟨⟨by decide, by decide, by decide⟩, ?_⟩); (conv => whnf))))
      rw [seqD_ref eX1]
      ((conv => whnf); (repeat ((first | refine ⟨(by show (0 : Int) < _; first | decide | omega), ?_⟩ | refine ⟨cmul_r (by decide) (by decide), ?_⟩ | refine ⟨cmul_l (by decide) (by decide), ?_⟩ | refine ⟨cmul_l (by omega) (by omega), ?_⟩ | refine ⟨cdiv_v (by omega) (by omega), ?_⟩ | refine ⟨cdiv_c (by decide) (by decide), ?_⟩ | refine ⟨(by decide), ?_⟩ | refine ⟨Nat.le_of_ble_eq_true rfl, ?_⟩ | refine ⟨⟨by decide, by decide, by decide⟩, ?_⟩); (conv => whnf))))
      first | refine bcase (fun z2 => ?_) (fun z2 => ?_) | refine bcase0 (fun z2 => ?_) (fun z2 => ?_) | refine bcase1 (fun z2 => ?_) (fun z2 => ?_)
      · have z2 : 0 < ((ns.map D.int).length : Int) := z2
        rw [List.length_map] at z2
        ((conv => whnf); (repeat ((first | refine ⟨(by show (0 : Int) < _; first | decide | omega), ?_⟩ | refine ⟨cmul_r (by decide) (by decide), ?_⟩ | refine ⟨cmul_l (by decide) (by decide), ?_⟩ | refine ⟨cmul_l (by omega) (by omega), ?_⟩ | refine ⟨cdiv_v (by omega) (by omega), ?_⟩ | refine ⟨cdiv_c (by decide) (by decide), ?_⟩ | refine ⟨(by decide), ?_⟩ | refine ⟨Nat.le_of_ble_eq_true rfl, ?_⟩ | refine ⟨⟨by decide, by decide, by decide⟩, ?_⟩); (conv => whnf))))
        rw [seqD_ref eX1]
        ((conv => whnf); (repeat ((first | refine ⟨(by show (0 : Int) < _; first | decide | omega), ?_⟩ | refine ⟨cmul_r (by decide) (by decide), ?_⟩ | refine ⟨cmul_l (by decide) (by decide), ?_⟩ | refine ⟨cmul_l (by omega) (by omega), ?_⟩ | refine ⟨cdiv_v (by omega) (by omega), ?_⟩ | refine ⟨cdiv_c (by decide) (by decide), ?_⟩ | refine ⟨(by decide), ?_⟩ | refine ⟨Nat.le_of_ble_eq_true rfl, ?_⟩ | refine ⟨⟨by decide, by decide, by decide⟩, ?_⟩); (conv => whnf))))
        refine p_draw hS1 (by show (0 : Int) < ((ns.map D.int).length : Int); rw [List.length_map]; omega) (by show ((ns.map D.int).length : Int) ≤ _; rw [List.length_map]; omega) fun v2 S2 a2 b2 hS2 k2 => ?_
        have b2 : v2 < ((ns.map D.int).length : Int) := b2
        rw [List.length_map] at b2
        have em2 := k2.get mp em1
        have eX2 := k2.get np eX1
        have hn := List.getElem?_eq_getElem (show v2.toNat < ns.length by omega)
        generalize ns[v2.toNat]'(by omega) = w at hn
        ((conv => whnf); (repeat ((first | refine ⟨(by show (0 : Int) < _; first | decide | omega), ?_⟩ | refine ⟨cmul_r (by decide) (by decide), ?_⟩ | refine ⟨cmul_l (by decide) (by decide), ?_⟩ | refine ⟨cmul_l (by omega) (by omega), ?_⟩ | refine ⟨cdiv_v (by omega) (by omega), ?_⟩ | refine ⟨cdiv_c (by decide) (by decide), ?_⟩ | refine ⟨(by decide), ?_⟩ | refine ⟨Nat.le_of_ble_eq_true rfl, ?_⟩ | refine ⟨⟨by decide, by decide, by decide⟩, ?_⟩); (conv => whnf))))
        rw [seqD_ref eX2]
        ((conv => whnf); (repeat ((first | refine ⟨(by show (0 : Int) < _; first | decide | omega), ?_⟩ | refine ⟨cmul_r (by decide) (by decide), ?_⟩ | refine ⟨cmul_l (by decide) (by decide), ?_⟩ | refine ⟨cmul_l (by omega) (by omega), ?_⟩ | refine ⟨cdiv_v (by omega) (by omega), ?_⟩ | refine ⟨cdiv_c (by decide) (by decide), ?_⟩ | refine ⟨(by decide), ?_⟩ | refine ⟨Nat.le_of_ble_eq_true rfl, ?_⟩ | refine ⟨⟨by decide, by decide, by decide⟩, ?_⟩); (conv => whnf))))
        rw [atI_pos a2 (show (ns.map D.int)[v2.toNat]? = some (.int w) by rw [List.getElem?_map, hn]; rfl)]
        ((conv => whnf); (repeat ((first | refine ⟨(by show (0 : Int) < _; first | decide | omega), ?_⟩ | refine ⟨cmul_r (by decide) (by decide), ?_⟩ | refine ⟨cmul_l (by decide) (by decide), ?_⟩ | refine ⟨cmul_l (by omega) (by omega), ?_⟩ | refine ⟨cdiv_v (by omega) (by omega), ?_⟩ | refine ⟨cdiv_c (by decide) (by decide), ?_⟩ | refine ⟨(by decide), ?_⟩ | refine ⟨Nat.le_of_ble_eq_true rfl, ?_⟩ | refine ⟨⟨by decide, by decide, by decide⟩, ?_⟩); (conv => whnf))))
        refine p_draw hS2 (by decide) (by decide) fun v3 S3 a3 b3 hS3 k3 => ?_
        ((conv => whnf); (repeat ((first | refine ⟨(by show (0 : Int) < _; first | decide | omega), ?_⟩ | refine ⟨cmul_r (by decide) (by decide), ?_⟩ | refine ⟨cmul_l (by decide) (by decide), ?_⟩ | refine ⟨cmul_l (by omega) (by omega), ?_⟩ | refine ⟨cdiv_v (by omega) (by omega), ?_⟩ | refine ⟨cdiv_c (by decide) (by decide), ?_⟩ | refine ⟨(by decide), ?_⟩ | refine ⟨Nat.le_of_ble_eq_true rfl, ?_⟩ | refine ⟨⟨by decide, by decide, by decide⟩, ?_⟩); (conv => whnf))))
        refine p_other hS3 fun d S4 hd hl4 _ hS4 k4 => ?_
        ((conv => whnf); (repeat ((first | refine ⟨(by show (0 : Int) < _; first | decide | omega), ?_⟩ | refine ⟨cmul_r (by decide) (by decide), ?_⟩ | refine ⟨cmul_l (by decide) (by decide), ?_⟩ | refine ⟨cmul_l (by omega) (by omega), ?_⟩ | refine ⟨cdiv_v (by omega) (by omega), ?_⟩ | refine ⟨cdiv_c (by decide) (by decide), ?_⟩ | refine ⟨(by decide), ?_⟩ | refine ⟨Nat.le_of_ble_eq_true rfl, ?_⟩ | refine ⟨⟨by decide, by decide, by decide⟩, ?_⟩); (conv => whnf))))
        refine p_draw hS4 (by decide) (by decide) fun v5 S5 a5 b5 hS5 k5 => ?_
        have k25 := (k3.trans k4).trans k5
        have em5 := k25.get mp em2
        have eX5 := k25.get np eX2
        refine ix_all (fun d => Wd S5 d) ?_ a5 b5 fun d' hd' => ?_
        · intro d' hd'
          simp only [List.mem_cons, List.not_mem_nil, or_false] at hd'
          rcases hd' with rfl | rfl | rfl
          · exact wd_int _
          · exact wd_int _
          · exact ⟨hd.kp hS4 k5, hl4⟩
        ((conv => whnf); (repeat ((first | refine ⟨(by show (0 : Int) < _; first | decide | omega), ?_⟩ | refine ⟨cmul_r (by decide) (by decide), ?_⟩ | refine ⟨cmul_l (by decide) (by decide), ?_⟩ | refine ⟨cmul_l (by omega) (by omega), ?_⟩ | refine ⟨cdiv_v (by omega) (by omega), ?_⟩ | refine ⟨cdiv_c (by decide) (by decide), ?_⟩ | refine ⟨(by decide), ?_⟩ | refine ⟨Nat.le_of_ble_eq_true rfl, ?_⟩ | refine ⟨⟨by decide, by decide, by decide⟩, ?_⟩); (conv => whnf))))
        rw [look_of eX5]
        conv => whnf
        rw [show ixN (ns.map D.int).length v2 = some v2.toNat from by
          unfold ixN
          rw [List.length_map, if_pos a2, if_pos b2]]
        conv => whnf
        have ne : ¬ m = S0.length := by omega
        have kk : Kp (· = S0.length) S5 (S5.set S0.length (.lst ((ns.map D.int).set v2.toNat d'))) := .set rfl
        refine t1 ns m S0.length _ _ _ _ _ _ (kk.get ne em5) (get_set eX5) fun d hd => ?_
        rcases List.mem_or_eq_of_mem_set hd with hd | rfl
        · exact hns d hd
        · obtain ⟨hf, hl⟩ := hd'
          refine ⟨?_, hl⟩
          rcases hf with h | h | h | h | h | ⟨n, h, e⟩
          · exact .inl h
          · exact .inr (.inl h)
          · exact .inr (.inr (.inl h))
          · exact .inr (.inr (.inr (.inl h)))
          · exact .inr (.inr (.inr (.inr (.inl h))))
          · refine .inr (.inr (.inr (.inr (.inr ⟨n, h, kk.get ?_ e⟩))))
            rintro rfl
            rw [eX5] at e
            have := congrArg (fun o : Option Ob => match o with | some (.lst l) => l.length | _ => 0) e
            simp at this
            subst this
            simp at b2
            omega
      · exact t1 ns m _ _ _ _ _ _ _ em1 eX1 hns
end K27

set_option Elab.async false
set_option linter.all false
set_option maxRecDepth 100000
set_option maxHeartbeats 4000000
namespace K27
open PySem PySem.Spec PyProof.Rows L2 DT
theorem isLay_of {l : List D} (h : isLay l) : ∃ gs, l = gs.map dRg ∧ Lay gs := by
  obtain ⟨h1, gs, u⟩ := h
  have e := u.at_
  rw [List.take_length] at e
  exact ⟨gs, e, u.vr, u.adj, by rw [u.len (Nat.le_refl _)]; exact h1⟩
theorem not_lay {d : D} {l : List D} (h : ∀ g, d ≠ dRg g) : ¬ isLay (d :: l) := fun z => by
  obtain ⟨_, gs, u⟩ := z
  obtain ⟨g, e, _⟩ := u.item (i := 0) (d := d) rfl
  exact h g e
theorem p_code_nil {S : Sto} {q : DK} (k : q (.bl false) S) : wp_is_code [.tup []] S q := by
  rw [eq_is_code]
  ((conv => whnf); (repeat ((first | refine ⟨(by show (0 : Int) < _; first | decide | omega), ?_⟩ | refine ⟨cmul_r (by decide) (by decide), ?_⟩ | refine ⟨cmul_l (by decide) (by decide), ?_⟩ | refine ⟨cmul_l (by omega) (by omega), ?_⟩ | refine ⟨cdiv_v (by omega) (by omega), ?_⟩ | refine ⟨cdiv_c (by decide) (by decide), ?_⟩ | refine ⟨(by decide), ?_⟩ | refine ⟨Nat.le_of_ble_eq_true rfl, ?_⟩ | refine ⟨⟨by decide, by decide, by decide⟩, ?_⟩); (conv => whnf))))
  exact k
theorem halt_it {S : Sto} : ∀ d ∈ ([.tup [.str "halt"]] : List D), It S d := fun d hd => by
  rw [List.mem_singleton.mp hd]
  exact .inl ⟨_, rfl, fun x hx => by rw [List.mem_singleton.mp hx]; exact fl_str _⟩
theorem halt_no : ¬ isLay [.tup [.str "halt"]] := not_lay fun g z => by cases z
theorem fr.mono {a b : Nat} {d : D} (h : fr a d) (l : b ≤ a) : fr b d := ⟨fun m z => Nat.le_trans l (h.1 m z), fun ds z m hm => Nat.le_trans l (h.2 ds z m hm)⟩
theorem Fl.set {S : Sto} {b : Nat} {o : Ob} {d : D} (h : Fl S d) (f : ∀ m, d = .ref m → b + 1 ≤ m) : Fl (S.set b o) d := by
  rcases h with h | h | h | h | h | ⟨n, rfl, e⟩
  · exact .inl h
  · exact .inr (.inl h)
  · exact .inr (.inr (.inl h))
  · exact .inr (.inr (.inr (.inl h)))
  · exact .inr (.inr (.inr (.inr (.inl h))))
  · have := f n rfl
    exact .inr (.inr (.inr (.inr (.inr ⟨n, rfl, (Kp.set (X := (· = b)) rfl).get (show ¬ n = b by omega) e⟩))))
theorem It.set {S : Sto} {b : Nat} {o : Ob} {d : D} (h : It S d) (f : fr (b + 1) d) : It (S.set b o) d := by
  rcases h with ⟨ds, rfl, hx⟩ | ⟨n, es, rfl, e⟩ | h
  · exact .inl ⟨ds, rfl, fun x hx' => (hx x hx').set fun m z => f.2 ds rfl m (z ▸ hx')⟩
  · have := f.1 n rfl
    exact .inr (.inl ⟨n, es, rfl, (Kp.set (X := (· = b)) rfl).get (show ¬ n = b by omega) e⟩)
  · exact .inr (.inr (h.set f.1))
theorem law_true (ns : List Int) (h : ns.length ≤ 63) : wp_law [.ro (ns.map D.int)] [] (fun d _ => d = .bl true) := by
  rw [eq_law]
  ((conv => whnf); (repeat ((first | refine ⟨(by show (0 : Int) < _; first | decide | omega), ?_⟩ | refine ⟨cmul_r (by decide) (by decide), ?_⟩ | refine ⟨cmul_l (by decide) (by decide), ?_⟩ | refine ⟨cmul_l (by omega) (by omega), ?_⟩ | refine ⟨cdiv_v (by omega) (by omega), ?_⟩ | refine ⟨cdiv_c (by decide) (by decide), ?_⟩ | refine ⟨(by decide), ?_⟩ | refine ⟨Nat.le_of_ble_eq_true rfl, ?_⟩ | refine ⟨⟨by decide, by decide, by decide⟩, ?_⟩); (conv => whnf))))
  refine p_source (Int.le_refl _) fun x y x0 => ?_
  ((conv => whnf); (repeat ((first | refine ⟨(by show (0 : Int) < _; first | decide | omega), ?_⟩ | refine ⟨cmul_r (by decide) (by decide), ?_⟩ | refine ⟨cmul_l (by decide) (by decide), ?_⟩ | refine ⟨cmul_l (by omega) (by omega), ?_⟩ | refine ⟨cdiv_v (by omega) (by omega), ?_⟩ | refine ⟨cdiv_c (by decide) (by decide), ?_⟩ | refine ⟨(by decide), ?_⟩ | refine ⟨Nat.le_of_ble_eq_true rfl, ?_⟩ | refine ⟨⟨by decide, by decide, by decide⟩, ?_⟩); (conv => whnf))))
  refine p_layout ⟨x, y, x0, get_new _ _⟩ fun n l gs S1 _ en u hl hS1 k1 => ?_
  ((conv => whnf); (repeat ((first | refine ⟨(by show (0 : Int) < _; first | decide | omega), ?_⟩ | refine ⟨cmul_r (by decide) (by decide), ?_⟩ | refine ⟨cmul_l (by decide) (by decide), ?_⟩ | refine ⟨cmul_l (by omega) (by omega), ?_⟩ | refine ⟨cdiv_v (by omega) (by omega), ?_⟩ | refine ⟨cdiv_c (by decide) (by decide), ?_⟩ | refine ⟨(by decide), ?_⟩ | refine ⟨Nat.le_of_ble_eq_true rfl, ?_⟩ | refine ⟨⟨by decide, by decide, by decide⟩, ?_⟩); (conv => whnf))))
  refine ⟨fun i S' => ∃ cs : List (List D), S'[S1.length]? = some (.lst (cs.map D.tup)) ∧ cs.length = i ∧ (∀ c ∈ cs, ∀ d ∈ c, It S' d ∧ fr (S1.length + 1) d) ∧ (∀ c ∈ cs, c.length ≤ 1000) ∧ Kn S1 S', ⟨[], get_new _ _, rfl, fun c hc => (by cases hc), fun c hc => (by cases hc), .app⟩, fun _ _ _ _ => trivial, ?_, ?_⟩
  · rintro i z S2 hz ⟨cs, e2, lc, hc, hl2, k2⟩
    have hi : i < 6 := by
      have := (List.getElem?_eq_some_iff.mp hz).1
      rw [rngD_len] at this
      exact this
    have hz : (rngD 0 6)[i]? = some z := hz
    rw [rngD_at hi, Int.zero_add] at hz
    cases hz
    ((conv => whnf); (repeat ((first | refine ⟨(by show (0 : Int) < _; first | decide | omega), ?_⟩ | refine ⟨cmul_r (by decide) (by decide), ?_⟩ | refine ⟨cmul_l (by decide) (by decide), ?_⟩ | refine ⟨cmul_l (by omega) (by omega), ?_⟩ | refine ⟨cdiv_v (by omega) (by omega), ?_⟩ | refine ⟨cdiv_c (by decide) (by decide), ?_⟩ | refine ⟨(by decide), ?_⟩ | refine ⟨Nat.le_of_ble_eq_true rfl, ?_⟩ | refine ⟨⟨by decide, by decide, by decide⟩, ?_⟩); (conv => whnf))))
    refine p_source (by omega) fun x y x0 => ?_
    ((conv => whnf); (repeat ((first | refine ⟨(by show (0 : Int) < _; first | decide | omega), ?_⟩ | refine ⟨cmul_r (by decide) (by decide), ?_⟩ | refine ⟨cmul_l (by decide) (by decide), ?_⟩ | refine ⟨cmul_l (by omega) (by omega), ?_⟩ | refine ⟨cdiv_v (by omega) (by omega), ?_⟩ | refine ⟨cdiv_c (by decide) (by decide), ?_⟩ | refine ⟨(by decide), ?_⟩ | refine ⟨Nat.le_of_ble_eq_true rfl, ?_⟩ | refine ⟨⟨by decide, by decide, by decide⟩, ?_⟩); (conv => whnf))))
    generalize hX : S2 ++ [Ob.lst [D.int x, D.int y]] = X
    have kX : Kn S2 X := by rw [← hX]; exact .app
    have sX : Src X S2.length := ⟨x, y, x0, by rw [← hX]; exact get_new _ _⟩
    have l2 := lt_of_get e2
    have ln := lt_of_get en
    have lX := kX.len
    have l12 := k2.len
    refine p_changed sX (kX.get (k2.get en)) u hl (by omega) fun m l' S3 hm e3 hit hfr hl3 hS3 k3 => ?_
    have k23 : Kn S2 S3 := ((kX.mono fun _ z => z.elim).trans k3).old fun m z hz => by
      have z : m = S2.length := z
      omega
    ((conv => whnf); (repeat ((first | refine ⟨(by show (0 : Int) < _; first | decide | omega), ?_⟩ | refine ⟨cmul_r (by decide) (by decide), ?_⟩ | refine ⟨cmul_l (by decide) (by decide), ?_⟩ | refine ⟨cmul_l (by omega) (by omega), ?_⟩ | refine ⟨cdiv_v (by omega) (by omega), ?_⟩ | refine ⟨cdiv_c (by decide) (by decide), ?_⟩ | refine ⟨(by decide), ?_⟩ | refine ⟨Nat.le_of_ble_eq_true rfl, ?_⟩ | refine ⟨⟨by decide, by decide, by decide⟩, ?_⟩); (conv => whnf))))
    rw [seqD_ref e3]
    ((conv => whnf); (repeat ((first | refine ⟨(by show (0 : Int) < _; first | decide | omega), ?_⟩ | refine ⟨cmul_r (by decide) (by decide), ?_⟩ | refine ⟨cmul_l (by decide) (by decide), ?_⟩ | refine ⟨cmul_l (by omega) (by omega), ?_⟩ | refine ⟨cdiv_v (by omega) (by omega), ?_⟩ | refine ⟨cdiv_c (by decide) (by decide), ?_⟩ | refine ⟨(by decide), ?_⟩ | refine ⟨Nat.le_of_ble_eq_true rfl, ?_⟩ | refine ⟨⟨by decide, by decide, by decide⟩, ?_⟩); (conv => whnf))))
    have e4 := k23.get e2
    rw [look_of e4]
    conv => whnf
    refine ⟨by rw [List.length_map]; omega, cs ++ [l'], by rw [get_set e4, List.map_append]; rfl, by rw [List.length_append, lc]; rfl, ?_, ?_, (k2.trans k23).put (Nat.le_refl _)⟩
    · intro c hc' d hd
      rcases List.mem_append.mp hc' with hc' | hc'
      · obtain ⟨h1, h2⟩ := hc c hc' d hd
        exact ⟨(h1.keep k23).set h2, h2⟩
      · rw [List.mem_singleton.mp hc'] at hd
        have h2 := (hfr d hd).mono (show S1.length + 1 ≤ X.length by omega)
        exact ⟨(hit d hd).set h2, h2⟩
    · intro c hc'
      rcases List.mem_append.mp hc' with hc' | hc'
      · exact hl2 c hc'
      · rw [List.mem_singleton.mp hc']
        exact hl3
  · rintro S2 ⟨cs, e2, lc, hc, hl2, k2⟩
    have lc : cs.length = 6 := lc
    have en2 := k2.get en
    ((conv => whnf); (repeat ((first | refine ⟨(by show (0 : Int) < _; first | decide | omega), ?_⟩ | refine ⟨cmul_r (by decide) (by decide), ?_⟩ | refine ⟨cmul_l (by decide) (by decide), ?_⟩ | refine ⟨cmul_l (by omega) (by omega), ?_⟩ | refine ⟨cdiv_v (by omega) (by omega), ?_⟩ | refine ⟨cdiv_c (by decide) (by decide), ?_⟩ | refine ⟨(by decide), ?_⟩ | refine ⟨Nat.le_of_ble_eq_true rfl, ?_⟩ | refine ⟨⟨by decide, by decide, by decide⟩, ?_⟩); (conv => whnf))))
    rw [seqD_ref en2]
    ((conv => whnf); (repeat ((first | refine ⟨(by show (0 : Int) < _; first | decide | omega), ?_⟩ | refine ⟨cmul_r (by decide) (by decide), ?_⟩ | refine ⟨cmul_l (by decide) (by decide), ?_⟩ | refine ⟨cmul_l (by omega) (by omega), ?_⟩ | refine ⟨cdiv_v (by omega) (by omega), ?_⟩ | refine ⟨cdiv_c (by decide) (by decide), ?_⟩ | refine ⟨(by decide), ?_⟩ | refine ⟨Nat.le_of_ble_eq_true rfl, ?_⟩ | refine ⟨⟨by decide, by decide, by decide⟩, ?_⟩); (conv => whnf))))
    have nA : ∀ (S : Sto) (o : Ob), (S ++ [o])[S.length]? = some o := get_new
    rw [look_of (nA _ _), look_of (Kn.get .app e2)]
    conv => whnf
    refine ⟨by show 1 + (cs.map D.tup).length ≤ 1000000; rw [List.length_map]; omega, ?_⟩
    generalize hB : S2 ++ [Ob.lst [D.tup l]] ++ [Ob.lst _] = B
    have kB : Kn S2 B := by rw [← hB]; exact .trans .app .app
    have eB : B[(S2 ++ [Ob.lst [D.tup l]]).length]? = some (.lst (.tup l :: cs.map D.tup)) := by rw [← hB]; exact get_new _ _
    ((conv => whnf); (repeat ((first | refine ⟨(by show (0 : Int) < _; first | decide | omega), ?_⟩ | refine ⟨cmul_r (by decide) (by decide), ?_⟩ | refine ⟨cmul_l (by decide) (by decide), ?_⟩ | refine ⟨cmul_l (by omega) (by omega), ?_⟩ | refine ⟨cdiv_v (by omega) (by omega), ?_⟩ | refine ⟨cdiv_c (by decide) (by decide), ?_⟩ | refine ⟨(by decide), ?_⟩ | refine ⟨Nat.le_of_ble_eq_true rfl, ?_⟩ | refine ⟨⟨by decide, by decide, by decide⟩, ?_⟩); (conv => whnf))))
    rw [seqD_ref (kB.get en2)]
    ((conv => whnf); (repeat ((first | refine ⟨(by show (0 : Int) < _; first | decide | omega), ?_⟩ | refine ⟨cmul_r (by decide) (by decide), ?_⟩ | refine ⟨cmul_l (by decide) (by decide), ?_⟩ | refine ⟨cmul_l (by omega) (by omega), ?_⟩ | refine ⟨cdiv_v (by omega) (by omega), ?_⟩ | refine ⟨cdiv_c (by decide) (by decide), ?_⟩ | refine ⟨(by decide), ?_⟩ | refine ⟨Nat.le_of_ble_eq_true rfl, ?_⟩ | refine ⟨⟨by decide, by decide, by decide⟩, ?_⟩); (conv => whnf))))
    generalize hE : B ++ [Ob.lst l] = E
    have kE : Kn B E := by rw [← hE]; exact .app
    have eE : E[B.length]? = some (.lst l) := by rw [← hE]; exact get_new _ _
    ((conv => whnf); (repeat ((first | refine ⟨(by show (0 : Int) < _; first | decide | omega), ?_⟩ | refine ⟨cmul_r (by decide) (by decide), ?_⟩ | refine ⟨cmul_l (by decide) (by decide), ?_⟩ | refine ⟨cmul_l (by omega) (by omega), ?_⟩ | refine ⟨cdiv_v (by omega) (by omega), ?_⟩ | refine ⟨cdiv_c (by decide) (by decide), ?_⟩ | refine ⟨(by decide), ?_⟩ | refine ⟨Nat.le_of_ble_eq_true rfl, ?_⟩ | refine ⟨⟨by decide, by decide, by decide⟩, ?_⟩); (conv => whnf))))
    rw [seqD_ref (kE.get (kB.get en2))]
    ((conv => whnf); (repeat ((first | refine ⟨(by show (0 : Int) < _; first | decide | omega), ?_⟩ | refine ⟨cmul_r (by decide) (by decide), ?_⟩ | refine ⟨cmul_l (by decide) (by decide), ?_⟩ | refine ⟨cmul_l (by omega) (by omega), ?_⟩ | refine ⟨cdiv_v (by omega) (by omega), ?_⟩ | refine ⟨cdiv_c (by decide) (by decide), ?_⟩ | refine ⟨(by decide), ?_⟩ | refine ⟨Nat.le_of_ble_eq_true rfl, ?_⟩ | refine ⟨⟨by decide, by decide, by decide⟩, ?_⟩); (conv => whnf))))
    rw [look_of (Kn.get .app (kE.get eB)), look_of (nA _ _)]
    conv => whnf
    refine ⟨by show (cs.map D.tup).length + 1 + 2 ≤ 1000000; rw [List.length_map]; omega, ?_⟩
    generalize hF : E ++ [Ob.lst [D.ref B.length, D.tup l]] ++ [Ob.lst _] = F
    have kF : Kn E F := by rw [← hF]; exact .trans .app .app
    have eF : F[(E ++ [Ob.lst [D.ref B.length, D.tup l]]).length]? = some (.lst ((.tup l :: cs.map D.tup) ++ [.ref B.length, .tup l])) := by rw [← hF]; exact get_new _ _
    have kk : Kn S2 F := (kB.trans kE).trans kF
    generalize (E ++ [Ob.lst [D.ref B.length, D.tup l]]).length = mF at eF
    ((conv => whnf); (repeat ((first | refine ⟨(by show (0 : Int) < _; first | decide | omega), ?_⟩ | refine ⟨cmul_r (by decide) (by decide), ?_⟩ | refine ⟨cmul_l (by decide) (by decide), ?_⟩ | refine ⟨cmul_l (by omega) (by omega), ?_⟩ | refine ⟨cdiv_v (by omega) (by omega), ?_⟩ | refine ⟨cdiv_c (by decide) (by decide), ?_⟩ | refine ⟨(by decide), ?_⟩ | refine ⟨Nat.le_of_ble_eq_true rfl, ?_⟩ | refine ⟨⟨by decide, by decide, by decide⟩, ?_⟩); (conv => whnf))))
    rw [look_of eF]
    conv => whnf
    refine ⟨fun i ρ S' => ∃ v5 v6, ρ = [some (.ro (ns.map D.int)), some (.ref 0), some (.ref n), some (.ref S1.length), some haltD, v5, v6, none, none] ∧ Kn F S', ⟨_, _, rfl, .rfl⟩, fun _ _ S' _ ⟨_, _, _, hh⟩ => look_of (hh.get eF), ?_, ?_⟩
    · rintro i z ρ S3 hz ⟨v5, v6, rfl, k3⟩
      have hm := List.mem_of_getElem? hz
      have key : (∃ v, z = .tup v ∧ ∀ d ∈ v, It S3 d) ∨ (∃ m es, z = .ref m ∧ S3[m]? = some (.lst es)) := by
        rcases List.mem_append.mp hm with hm | hm
        · rcases List.mem_cons.mp hm with rfl | hm
          · exact .inl ⟨l, rfl, rows_it u⟩
          · obtain ⟨c, hc', rfl⟩ := List.mem_map.mp hm
            exact .inl ⟨c, rfl, fun d hd => ((hc c hc' d hd).1.keep kk).keep k3⟩
        · simp only [List.mem_cons, List.not_mem_nil, or_false] at hm
          rcases hm with rfl | rfl
          · exact .inr ⟨_, _, rfl, k3.get (kF.get eE)⟩
          · exact .inl ⟨l, rfl, rows_it u⟩
      rcases key with ⟨v, rfl, hv⟩ | ⟨m, es, rfl, em⟩
      · ((conv => whnf); (repeat ((first | refine ⟨(by show (0 : Int) < _; first | decide | omega), ?_⟩ | refine ⟨cmul_r (by decide) (by decide), ?_⟩ | refine ⟨cmul_l (by decide) (by decide), ?_⟩ | refine ⟨cmul_l (by omega) (by omega), ?_⟩ | refine ⟨cdiv_v (by omega) (by omega), ?_⟩ | refine ⟨cdiv_c (by decide) (by decide), ?_⟩ | refine ⟨(by decide), ?_⟩ | refine ⟨Nat.le_of_ble_eq_true rfl, ?_⟩ | refine ⟨⟨by decide, by decide, by decide⟩, ?_⟩); (conv => whnf))))
        refine p_law_is_layout hv (fun h1 => ?_) fun h1 => ?_
        · ((conv => whnf); (repeat ((first | refine ⟨(by show (0 : Int) < _; first | decide | omega), ?_⟩ | refine ⟨cmul_r (by decide) (by decide), ?_⟩ | refine ⟨cmul_l (by decide) (by decide), ?_⟩ | refine ⟨cmul_l (by omega) (by omega), ?_⟩ | refine ⟨cdiv_v (by omega) (by omega), ?_⟩ | refine ⟨cdiv_c (by decide) (by decide), ?_⟩ | refine ⟨(by decide), ?_⟩ | refine ⟨Nat.le_of_ble_eq_true rfl, ?_⟩ | refine ⟨⟨by decide, by decide, by decide⟩, ?_⟩); (conv => whnf))))
          refine p_is_layout hv (fun _ => ?_) fun h2 => absurd h1 h2
          ((conv => whnf); (repeat ((first | refine ⟨(by show (0 : Int) < _; first | decide | omega), ?_⟩ | refine ⟨cmul_r (by decide) (by decide), ?_⟩ | refine ⟨cmul_l (by decide) (by decide), ?_⟩ | refine ⟨cmul_l (by omega) (by omega), ?_⟩ | refine ⟨cdiv_v (by omega) (by omega), ?_⟩ | refine ⟨cdiv_c (by decide) (by decide), ?_⟩ | refine ⟨(by decide), ?_⟩ | refine ⟨Nat.le_of_ble_eq_true rfl, ?_⟩ | refine ⟨⟨by decide, by decide, by decide⟩, ?_⟩); (conv => whnf))))
          refine p_ans ?_
          ((conv => whnf); (repeat ((first | refine ⟨(by show (0 : Int) < _; first | decide | omega), ?_⟩ | refine ⟨cmul_r (by decide) (by decide), ?_⟩ | refine ⟨cmul_l (by decide) (by decide), ?_⟩ | refine ⟨cmul_l (by omega) (by omega), ?_⟩ | refine ⟨cdiv_v (by omega) (by omega), ?_⟩ | refine ⟨cdiv_c (by decide) (by decide), ?_⟩ | refine ⟨(by decide), ?_⟩ | refine ⟨Nat.le_of_ble_eq_true rfl, ?_⟩ | refine ⟨⟨by decide, by decide, by decide⟩, ?_⟩); (conv => whnf))))
          refine p_file hv (fun _ => ?_) fun h2 => absurd h1 h2
          ((conv => whnf); (repeat ((first | refine ⟨(by show (0 : Int) < _; first | decide | omega), ?_⟩ | refine ⟨cmul_r (by decide) (by decide), ?_⟩ | refine ⟨cmul_l (by decide) (by decide), ?_⟩ | refine ⟨cmul_l (by omega) (by omega), ?_⟩ | refine ⟨cdiv_v (by omega) (by omega), ?_⟩ | refine ⟨cdiv_c (by decide) (by decide), ?_⟩ | refine ⟨(by decide), ?_⟩ | refine ⟨Nat.le_of_ble_eq_true rfl, ?_⟩ | refine ⟨⟨by decide, by decide, by decide⟩, ?_⟩); (conv => whnf))))
          refine p_ans ?_
          exact ⟨_, _, rfl, k3⟩
        · ((conv => whnf); (repeat ((first | refine ⟨(by show (0 : Int) < _; first | decide | omega), ?_⟩ | refine ⟨cmul_r (by decide) (by decide), ?_⟩ | refine ⟨cmul_l (by decide) (by decide), ?_⟩ | refine ⟨cmul_l (by omega) (by omega), ?_⟩ | refine ⟨cdiv_v (by omega) (by omega), ?_⟩ | refine ⟨cdiv_c (by decide) (by decide), ?_⟩ | refine ⟨(by decide), ?_⟩ | refine ⟨Nat.le_of_ble_eq_true rfl, ?_⟩ | refine ⟨⟨by decide, by decide, by decide⟩, ?_⟩); (conv => whnf))))
          refine p_is_layout hv (fun h2 => absurd h2 h1) fun _ => ?_
          ((conv => whnf); (repeat ((first | refine ⟨(by show (0 : Int) < _; first | decide | omega), ?_⟩ | refine ⟨cmul_r (by decide) (by decide), ?_⟩ | refine ⟨cmul_l (by decide) (by decide), ?_⟩ | refine ⟨cmul_l (by omega) (by omega), ?_⟩ | refine ⟨cdiv_v (by omega) (by omega), ?_⟩ | refine ⟨cdiv_c (by decide) (by decide), ?_⟩ | refine ⟨(by decide), ?_⟩ | refine ⟨Nat.le_of_ble_eq_true rfl, ?_⟩ | refine ⟨⟨by decide, by decide, by decide⟩, ?_⟩); (conv => whnf))))
          refine p_ans ?_
          ((conv => whnf); (repeat ((first | refine ⟨(by show (0 : Int) < _; first | decide | omega), ?_⟩ | refine ⟨cmul_r (by decide) (by decide), ?_⟩ | refine ⟨cmul_l (by decide) (by decide), ?_⟩ | refine ⟨cmul_l (by omega) (by omega), ?_⟩ | refine ⟨cdiv_v (by omega) (by omega), ?_⟩ | refine ⟨cdiv_c (by decide) (by decide), ?_⟩ | refine ⟨(by decide), ?_⟩ | refine ⟨Nat.le_of_ble_eq_true rfl, ?_⟩ | refine ⟨⟨by decide, by decide, by decide⟩, ?_⟩); (conv => whnf))))
          refine p_file hv (fun h2 => absurd h2 h1) fun _ => ?_
          ((conv => whnf); (repeat ((first | refine ⟨(by show (0 : Int) < _; first | decide | omega), ?_⟩ | refine ⟨cmul_r (by decide) (by decide), ?_⟩ | refine ⟨cmul_l (by decide) (by decide), ?_⟩ | refine ⟨cmul_l (by omega) (by omega), ?_⟩ | refine ⟨cdiv_v (by omega) (by omega), ?_⟩ | refine ⟨cdiv_c (by decide) (by decide), ?_⟩ | refine ⟨(by decide), ?_⟩ | refine ⟨Nat.le_of_ble_eq_true rfl, ?_⟩ | refine ⟨⟨by decide, by decide, by decide⟩, ?_⟩); (conv => whnf))))
          refine p_ans ?_
          exact ⟨_, _, rfl, k3⟩
      · ((conv => whnf); (repeat ((first | refine ⟨(by show (0 : Int) < _; first | decide | omega), ?_⟩ | refine ⟨cmul_r (by decide) (by decide), ?_⟩ | refine ⟨cmul_l (by decide) (by decide), ?_⟩ | refine ⟨cmul_l (by omega) (by omega), ?_⟩ | refine ⟨cdiv_v (by omega) (by omega), ?_⟩ | refine ⟨cdiv_c (by decide) (by decide), ?_⟩ | refine ⟨(by decide), ?_⟩ | refine ⟨Nat.le_of_ble_eq_true rfl, ?_⟩ | refine ⟨⟨by decide, by decide, by decide⟩, ?_⟩); (conv => whnf))))
        refine p_list_llay em ?_
        ((conv => whnf); (repeat ((first | refine ⟨(by show (0 : Int) < _; first | decide | omega), ?_⟩ | refine ⟨cmul_r (by decide) (by decide), ?_⟩ | refine ⟨cmul_l (by decide) (by decide), ?_⟩ | refine ⟨cmul_l (by omega) (by omega), ?_⟩ | refine ⟨cdiv_v (by omega) (by omega), ?_⟩ | refine ⟨cdiv_c (by decide) (by decide), ?_⟩ | refine ⟨(by decide), ?_⟩ | refine ⟨Nat.le_of_ble_eq_true rfl, ?_⟩ | refine ⟨⟨by decide, by decide, by decide⟩, ?_⟩); (conv => whnf))))
        refine p_list_lay em ?_
        ((conv => whnf); (repeat ((first | refine ⟨(by show (0 : Int) < _; first | decide | omega), ?_⟩ | refine ⟨cmul_r (by decide) (by decide), ?_⟩ | refine ⟨cmul_l (by decide) (by decide), ?_⟩ | refine ⟨cmul_l (by omega) (by omega), ?_⟩ | refine ⟨cdiv_v (by omega) (by omega), ?_⟩ | refine ⟨cdiv_c (by decide) (by decide), ?_⟩ | refine ⟨(by decide), ?_⟩ | refine ⟨Nat.le_of_ble_eq_true rfl, ?_⟩ | refine ⟨⟨by decide, by decide, by decide⟩, ?_⟩); (conv => whnf))))
        refine p_ans ?_
        ((conv => whnf); (repeat ((first | refine ⟨(by show (0 : Int) < _; first | decide | omega), ?_⟩ | refine ⟨cmul_r (by decide) (by decide), ?_⟩ | refine ⟨cmul_l (by decide) (by decide), ?_⟩ | refine ⟨cmul_l (by omega) (by omega), ?_⟩ | refine ⟨cdiv_v (by omega) (by omega), ?_⟩ | refine ⟨cdiv_c (by decide) (by decide), ?_⟩ | refine ⟨(by decide), ?_⟩ | refine ⟨Nat.le_of_ble_eq_true rfl, ?_⟩ | refine ⟨⟨by decide, by decide, by decide⟩, ?_⟩); (conv => whnf))))
        refine p_list_file em ?_
        ((conv => whnf); (repeat ((first | refine ⟨(by show (0 : Int) < _; first | decide | omega), ?_⟩ | refine ⟨cmul_r (by decide) (by decide), ?_⟩ | refine ⟨cmul_l (by decide) (by decide), ?_⟩ | refine ⟨cmul_l (by omega) (by omega), ?_⟩ | refine ⟨cdiv_v (by omega) (by omega), ?_⟩ | refine ⟨cdiv_c (by decide) (by decide), ?_⟩ | refine ⟨(by decide), ?_⟩ | refine ⟨Nat.le_of_ble_eq_true rfl, ?_⟩ | refine ⟨⟨by decide, by decide, by decide⟩, ?_⟩); (conv => whnf))))
        refine p_ans ?_
        exact ⟨_, _, rfl, k3⟩
    · rintro ρ S3 ⟨v5, v6, rfl, k3⟩
      have en3 := k3.get (kk.get en2)
      ((conv => whnf); (repeat ((first | refine ⟨(by show (0 : Int) < _; first | decide | omega), ?_⟩ | refine ⟨cmul_r (by decide) (by decide), ?_⟩ | refine ⟨cmul_l (by decide) (by decide), ?_⟩ | refine ⟨cmul_l (by omega) (by omega), ?_⟩ | refine ⟨cdiv_v (by omega) (by omega), ?_⟩ | refine ⟨cdiv_c (by decide) (by decide), ?_⟩ | refine ⟨(by decide), ?_⟩ | refine ⟨Nat.le_of_ble_eq_true rfl, ?_⟩ | refine ⟨⟨by decide, by decide, by decide⟩, ?_⟩); (conv => whnf))))
      rw [seqD_ref en3]
      ((conv => whnf); (repeat ((first | refine ⟨(by show (0 : Int) < _; first | decide | omega), ?_⟩ | refine ⟨cmul_r (by decide) (by decide), ?_⟩ | refine ⟨cmul_l (by decide) (by decide), ?_⟩ | refine ⟨cmul_l (by omega) (by omega), ?_⟩ | refine ⟨cdiv_v (by omega) (by omega), ?_⟩ | refine ⟨cdiv_c (by decide) (by decide), ?_⟩ | refine ⟨(by decide), ?_⟩ | refine ⟨Nat.le_of_ble_eq_true rfl, ?_⟩ | refine ⟨⟨by decide, by decide, by decide⟩, ?_⟩); (conv => whnf))))
      refine p_law_is_layout (rows_it u) (fun h1 => ?_) fun h1 => ?_
      · obtain ⟨gs', rfl, ly⟩ := isLay_of h1
        ((conv => whnf); (repeat ((first | refine ⟨(by show (0 : Int) < _; first | decide | omega), ?_⟩ | refine ⟨cmul_r (by decide) (by decide), ?_⟩ | refine ⟨cmul_l (by decide) (by decide), ?_⟩ | refine ⟨cmul_l (by omega) (by omega), ?_⟩ | refine ⟨cdiv_v (by omega) (by omega), ?_⟩ | refine ⟨cdiv_c (by decide) (by decide), ?_⟩ | refine ⟨(by decide), ?_⟩ | refine ⟨Nat.le_of_ble_eq_true rfl, ?_⟩ | refine ⟨⟨by decide, by decide, by decide⟩, ?_⟩); (conv => whnf))))
        rw [seqD_ref en3]
        ((conv => whnf); (repeat ((first | refine ⟨(by show (0 : Int) < _; first | decide | omega), ?_⟩ | refine ⟨cmul_r (by decide) (by decide), ?_⟩ | refine ⟨cmul_l (by decide) (by decide), ?_⟩ | refine ⟨cmul_l (by omega) (by omega), ?_⟩ | refine ⟨cdiv_v (by omega) (by omega), ?_⟩ | refine ⟨cdiv_c (by decide) (by decide), ?_⟩ | refine ⟨(by decide), ?_⟩ | refine ⟨Nat.le_of_ble_eq_true rfl, ?_⟩ | refine ⟨⟨by decide, by decide, by decide⟩, ?_⟩); (conv => whnf))))
        refine ⟨fun i ρ S' => ∃ v5, ρ = [some (.ro (ns.map D.int)), some (.ref 0), some (.ref n), some (.ref S1.length), some haltD, v5, v6, some (dLay gs'), none] ∧ Kn (S3 ++ [Ob.lst [dLay gs', haltD]]) S', ⟨_, rfl, .rfl⟩, fun _ _ _ _ _ => trivial, ?_, ?_⟩
        · rintro i z ρ S4 hz ⟨v5, rfl, k4⟩
          have eL := k4.get (get_new S3 (Ob.lst [dLay gs', haltD]))
          have fin : ∀ T : Sto, Kn S4 T → ∃ v5', [some (D.ro (ns.map D.int)), some (.ref 0), some (.ref n), some (.ref S1.length), some haltD, some z, v6, some (dLay gs'), none] = [some (.ro (ns.map D.int)), some (.ref 0), some (.ref n), some (.ref S1.length), some haltD, v5', v6, some (dLay gs'), none] ∧ Kn (S3 ++ [Ob.lst [dLay gs', haltD]]) T := fun T kT => ⟨_, rfl, k4.trans kT⟩
          have hz : ([.tup [dLay gs'], .ref S3.length, .tup [dLay gs', .tup []], .tup [dLay gs', haltD, haltD], .tup [haltD, dLay gs'], dLay gs', .non] : List D)[i]? = some z := hz
          ((conv => whnf); (repeat ((first | refine ⟨(by show (0 : Int) < _; first | decide | omega), ?_⟩ | refine ⟨cmul_r (by decide) (by decide), ?_⟩ | refine ⟨cmul_l (by decide) (by decide), ?_⟩ | refine ⟨cmul_l (by omega) (by omega), ?_⟩ | refine ⟨cdiv_v (by omega) (by omega), ?_⟩ | refine ⟨cdiv_c (by decide) (by decide), ?_⟩ | refine ⟨(by decide), ?_⟩ | refine ⟨Nat.le_of_ble_eq_true rfl, ?_⟩ | refine ⟨⟨by decide, by decide, by decide⟩, ?_⟩); (conv => whnf))))
          rw [eq_is_code_file]
          have hm := List.mem_of_getElem? hz
          simp only [List.mem_cons, List.not_mem_nil, or_false] at hm
          rcases hm with rfl | rfl | rfl | rfl | rfl | rfl | rfl
          · ((conv => whnf); (repeat ((first | refine ⟨(by show (0 : Int) < _; first | decide | omega), ?_⟩ | refine ⟨cmul_r (by decide) (by decide), ?_⟩ | refine ⟨cmul_l (by decide) (by decide), ?_⟩ | refine ⟨cmul_l (by omega) (by omega), ?_⟩ | refine ⟨cdiv_v (by omega) (by omega), ?_⟩ | refine ⟨cdiv_c (by decide) (by decide), ?_⟩ | refine ⟨(by decide), ?_⟩ | refine ⟨Nat.le_of_ble_eq_true rfl, ?_⟩ | refine ⟨⟨by decide, by decide, by decide⟩, ?_⟩); (conv => whnf))))
            refine p_ans ?_
            exact fin S4 .rfl
          · ((conv => whnf); (repeat ((first | refine ⟨(by show (0 : Int) < _; first | decide | omega), ?_⟩ | refine ⟨cmul_r (by decide) (by decide), ?_⟩ | refine ⟨cmul_l (by decide) (by decide), ?_⟩ | refine ⟨cmul_l (by omega) (by omega), ?_⟩ | refine ⟨cdiv_v (by omega) (by omega), ?_⟩ | refine ⟨cdiv_c (by decide) (by decide), ?_⟩ | refine ⟨(by decide), ?_⟩ | refine ⟨Nat.le_of_ble_eq_true rfl, ?_⟩ | refine ⟨⟨by decide, by decide, by decide⟩, ?_⟩); (conv => whnf))))
            rw [kind_ref eL]
            ((conv => whnf); (repeat ((first | refine ⟨(by show (0 : Int) < _; first | decide | omega), ?_⟩ | refine ⟨cmul_r (by decide) (by decide), ?_⟩ | refine ⟨cmul_l (by decide) (by decide), ?_⟩ | refine ⟨cmul_l (by omega) (by omega), ?_⟩ | refine ⟨cdiv_v (by omega) (by omega), ?_⟩ | refine ⟨cdiv_c (by decide) (by decide), ?_⟩ | refine ⟨(by decide), ?_⟩ | refine ⟨Nat.le_of_ble_eq_true rfl, ?_⟩ | refine ⟨⟨by decide, by decide, by decide⟩, ?_⟩); (conv => whnf))))
            refine p_ans ?_
            exact fin S4 .rfl
          · ((conv => whnf); (repeat ((first | refine ⟨(by show (0 : Int) < _; first | decide | omega), ?_⟩ | refine ⟨cmul_r (by decide) (by decide), ?_⟩ | refine ⟨cmul_l (by decide) (by decide), ?_⟩ | refine ⟨cmul_l (by omega) (by omega), ?_⟩ | refine ⟨cdiv_v (by omega) (by omega), ?_⟩ | refine ⟨cdiv_c (by decide) (by decide), ?_⟩ | refine ⟨(by decide), ?_⟩ | refine ⟨Nat.le_of_ble_eq_true rfl, ?_⟩ | refine ⟨⟨by decide, by decide, by decide⟩, ?_⟩); (conv => whnf))))
            refine p_is_layout (rows_it u) (fun _ => ?_) fun h2 => absurd h1 h2
            ((conv => whnf); (repeat ((first | refine ⟨(by show (0 : Int) < _; first | decide | omega), ?_⟩ | refine ⟨cmul_r (by decide) (by decide), ?_⟩ | refine ⟨cmul_l (by decide) (by decide), ?_⟩ | refine ⟨cmul_l (by omega) (by omega), ?_⟩ | refine ⟨cdiv_v (by omega) (by omega), ?_⟩ | refine ⟨cdiv_c (by decide) (by decide), ?_⟩ | refine ⟨(by decide), ?_⟩ | refine ⟨Nat.le_of_ble_eq_true rfl, ?_⟩ | refine ⟨⟨by decide, by decide, by decide⟩, ?_⟩); (conv => whnf))))
            refine p_code_nil ?_
            ((conv => whnf); (repeat ((first | refine ⟨(by show (0 : Int) < _; first | decide | omega), ?_⟩ | refine ⟨cmul_r (by decide) (by decide), ?_⟩ | refine ⟨cmul_l (by decide) (by decide), ?_⟩ | refine ⟨cmul_l (by omega) (by omega), ?_⟩ | refine ⟨cdiv_v (by omega) (by omega), ?_⟩ | refine ⟨cdiv_c (by decide) (by decide), ?_⟩ | refine ⟨(by decide), ?_⟩ | refine ⟨Nat.le_of_ble_eq_true rfl, ?_⟩ | refine ⟨⟨by decide, by decide, by decide⟩, ?_⟩); (conv => whnf))))
            refine p_ans ?_
            exact fin S4 .rfl
          · ((conv => whnf); (repeat ((first | refine ⟨(by show (0 : Int) < _; first | decide | omega), ?_⟩ | refine ⟨cmul_r (by decide) (by decide), ?_⟩ | refine ⟨cmul_l (by decide) (by decide), ?_⟩ | refine ⟨cmul_l (by omega) (by omega), ?_⟩ | refine ⟨cdiv_v (by omega) (by omega), ?_⟩ | refine ⟨cdiv_c (by decide) (by decide), ?_⟩ | refine ⟨(by decide), ?_⟩ | refine ⟨Nat.le_of_ble_eq_true rfl, ?_⟩ | refine ⟨⟨by decide, by decide, by decide⟩, ?_⟩); (conv => whnf))))
            refine p_ans ?_
            exact fin S4 .rfl
          · ((conv => whnf); (repeat ((first | refine ⟨(by show (0 : Int) < _; first | decide | omega), ?_⟩ | refine ⟨cmul_r (by decide) (by decide), ?_⟩ | refine ⟨cmul_l (by decide) (by decide), ?_⟩ | refine ⟨cmul_l (by omega) (by omega), ?_⟩ | refine ⟨cdiv_v (by omega) (by omega), ?_⟩ | refine ⟨cdiv_c (by decide) (by decide), ?_⟩ | refine ⟨(by decide), ?_⟩ | refine ⟨Nat.le_of_ble_eq_true rfl, ?_⟩ | refine ⟨⟨by decide, by decide, by decide⟩, ?_⟩); (conv => whnf))))
            refine p_is_layout halt_it (fun h2 => absurd h2 halt_no) fun _ => ?_
            ((conv => whnf); (repeat ((first | refine ⟨(by show (0 : Int) < _; first | decide | omega), ?_⟩ | refine ⟨cmul_r (by decide) (by decide), ?_⟩ | refine ⟨cmul_l (by decide) (by decide), ?_⟩ | refine ⟨cmul_l (by omega) (by omega), ?_⟩ | refine ⟨cdiv_v (by omega) (by omega), ?_⟩ | refine ⟨cdiv_c (by decide) (by decide), ?_⟩ | refine ⟨(by decide), ?_⟩ | refine ⟨Nat.le_of_ble_eq_true rfl, ?_⟩ | refine ⟨⟨by decide, by decide, by decide⟩, ?_⟩); (conv => whnf))))
            refine p_ans ?_
            exact fin S4 .rfl
          · ((conv => whnf); (repeat ((first | refine ⟨(by show (0 : Int) < _; first | decide | omega), ?_⟩ | refine ⟨cmul_r (by decide) (by decide), ?_⟩ | refine ⟨cmul_l (by decide) (by decide), ?_⟩ | refine ⟨cmul_l (by omega) (by omega), ?_⟩ | refine ⟨cdiv_v (by omega) (by omega), ?_⟩ | refine ⟨cdiv_c (by decide) (by decide), ?_⟩ | refine ⟨(by decide), ?_⟩ | refine ⟨Nat.le_of_ble_eq_true rfl, ?_⟩ | refine ⟨⟨by decide, by decide, by decide⟩, ?_⟩); (conv => whnf))))
            rw [lay_len]
            by_cases z2 : (gs'.length : Int) = 2
            · rw [decide_eq_true z2]
              have hg := List.getElem?_eq_getElem (show 0 < gs'.length by omega)
              generalize gs'[0]'(by omega) = g0 at hg
              ((conv => whnf); (repeat ((first | refine ⟨(by show (0 : Int) < _; first | decide | omega), ?_⟩ | refine ⟨cmul_r (by decide) (by decide), ?_⟩ | refine ⟨cmul_l (by decide) (by decide), ?_⟩ | refine ⟨cmul_l (by omega) (by omega), ?_⟩ | refine ⟨cdiv_v (by omega) (by omega), ?_⟩ | refine ⟨cdiv_c (by decide) (by decide), ?_⟩ | refine ⟨(by decide), ?_⟩ | refine ⟨Nat.le_of_ble_eq_true rfl, ?_⟩ | refine ⟨⟨by decide, by decide, by decide⟩, ?_⟩); (conv => whnf))))
              rw [show atI (gs'.map dRg) 0 = some (dRg g0) from atI_cast (j := 0) (by rw [List.getElem?_map, hg]; rfl)]
              ((conv => whnf); (repeat ((first | refine ⟨(by show (0 : Int) < _; first | decide | omega), ?_⟩ | refine ⟨cmul_r (by decide) (by decide), ?_⟩ | refine ⟨cmul_l (by decide) (by decide), ?_⟩ | refine ⟨cmul_l (by omega) (by omega), ?_⟩ | refine ⟨cdiv_v (by omega) (by omega), ?_⟩ | refine ⟨cdiv_c (by decide) (by decide), ?_⟩ | refine ⟨(by decide), ?_⟩ | refine ⟨Nat.le_of_ble_eq_true rfl, ?_⟩ | refine ⟨⟨by decide, by decide, by decide⟩, ?_⟩); (conv => whnf))))
              refine p_is_layout (l := [.int g0.start, .int g0.size, .str (fl g0.sec), .int g0.most]) (fun d hd => ?_) (fun h2 => absurd h2 (not_lay fun g z => by cases z)) fun _ => ?_
              · simp only [List.mem_cons, List.not_mem_nil, or_false] at hd
                rcases hd with rfl | rfl | rfl | rfl
                · exact .inr (.inr (fl_int _))
                · exact .inr (.inr (fl_int _))
                · exact .inr (.inr (fl_str _))
                · exact .inr (.inr (fl_int _))
              · ((conv => whnf); (repeat ((first | refine ⟨(by show (0 : Int) < _; first | decide | omega), ?_⟩ | refine ⟨cmul_r (by decide) (by decide), ?_⟩ | refine ⟨cmul_l (by decide) (by decide), ?_⟩ | refine ⟨cmul_l (by omega) (by omega), ?_⟩ | refine ⟨cdiv_v (by omega) (by omega), ?_⟩ | refine ⟨cdiv_c (by decide) (by decide), ?_⟩ | refine ⟨(by decide), ?_⟩ | refine ⟨Nat.le_of_ble_eq_true rfl, ?_⟩ | refine ⟨⟨by decide, by decide, by decide⟩, ?_⟩); (conv => whnf))))
                refine p_ans ?_
                exact fin S4 .rfl
            · rw [decide_eq_false z2]
              ((conv => whnf); (repeat ((first | refine ⟨(by show (0 : Int) < _; first | decide | omega), ?_⟩ | refine ⟨cmul_r (by decide) (by decide), ?_⟩ | refine ⟨cmul_l (by decide) (by decide), ?_⟩ | refine ⟨cmul_l (by omega) (by omega), ?_⟩ | refine ⟨cdiv_v (by omega) (by omega), ?_⟩ | refine ⟨cdiv_c (by decide) (by decide), ?_⟩ | refine ⟨(by decide), ?_⟩ | refine ⟨Nat.le_of_ble_eq_true rfl, ?_⟩ | refine ⟨⟨by decide, by decide, by decide⟩, ?_⟩); (conv => whnf))))
              refine p_ans ?_
              exact fin S4 .rfl
          · ((conv => whnf); (repeat ((first | refine ⟨(by show (0 : Int) < _; first | decide | omega), ?_⟩ | refine ⟨cmul_r (by decide) (by decide), ?_⟩ | refine ⟨cmul_l (by decide) (by decide), ?_⟩ | refine ⟨cmul_l (by omega) (by omega), ?_⟩ | refine ⟨cdiv_v (by omega) (by omega), ?_⟩ | refine ⟨cdiv_c (by decide) (by decide), ?_⟩ | refine ⟨(by decide), ?_⟩ | refine ⟨Nat.le_of_ble_eq_true rfl, ?_⟩ | refine ⟨⟨by decide, by decide, by decide⟩, ?_⟩); (conv => whnf))))
            refine p_ans ?_
            exact fin S4 .rfl
        · rintro ρ S4 ⟨v5, rfl, k4⟩
          ((conv => whnf); (repeat ((first | refine ⟨(by show (0 : Int) < _; first | decide | omega), ?_⟩ | refine ⟨cmul_r (by decide) (by decide), ?_⟩ | refine ⟨cmul_l (by decide) (by decide), ?_⟩ | refine ⟨cmul_l (by omega) (by omega), ?_⟩ | refine ⟨cdiv_v (by omega) (by omega), ?_⟩ | refine ⟨cdiv_c (by decide) (by decide), ?_⟩ | refine ⟨(by decide), ?_⟩ | refine ⟨Nat.le_of_ble_eq_true rfl, ?_⟩ | refine ⟨⟨by decide, by decide, by decide⟩, ?_⟩); (conv => whnf))))
          refine p_source (by decide) fun x y x0 => ?_
          ((conv => whnf); (repeat ((first | refine ⟨(by show (0 : Int) < _; first | decide | omega), ?_⟩ | refine ⟨cmul_r (by decide) (by decide), ?_⟩ | refine ⟨cmul_l (by decide) (by decide), ?_⟩ | refine ⟨cmul_l (by omega) (by omega), ?_⟩ | refine ⟨cdiv_v (by omega) (by omega), ?_⟩ | refine ⟨cdiv_c (by decide) (by decide), ?_⟩ | refine ⟨(by decide), ?_⟩ | refine ⟨Nat.le_of_ble_eq_true rfl, ?_⟩ | refine ⟨⟨by decide, by decide, by decide⟩, ?_⟩); (conv => whnf))))
          refine p_regions ly ⟨x, y, x0, get_new _ _⟩ fun S5 hS5 k5 => ?_
          ((conv => whnf); (repeat ((first | refine ⟨(by show (0 : Int) < _; first | decide | omega), ?_⟩ | refine ⟨cmul_r (by decide) (by decide), ?_⟩ | refine ⟨cmul_l (by decide) (by decide), ?_⟩ | refine ⟨cmul_l (by omega) (by omega), ?_⟩ | refine ⟨cdiv_v (by omega) (by omega), ?_⟩ | refine ⟨cdiv_c (by decide) (by decide), ?_⟩ | refine ⟨(by decide), ?_⟩ | refine ⟨Nat.le_of_ble_eq_true rfl, ?_⟩ | refine ⟨⟨by decide, by decide, by decide⟩, ?_⟩); (conv => whnf))))
          refine p_memories ly hS5 fun S6 => ?_
          rfl
      · rfl
end K27

set_option Elab.async false
set_option linter.all false
set_option maxRecDepth 100000
set_option maxHeartbeats 4000000
namespace K27
open PySem PySem.Spec PyProof.Rows L2 QX DT
def topS (i : Nat) : Stmt := PySem.Challenge.pw_quietsmith_k27_layout_forms.main.body.getD i (.Pass ⟨0, 0, 0, 0⟩)
abbrev s_is_integer : Stmt := topS 2
abbrev n_is_integer : List Str := ["value", "least", "greatest"]
theorem sc_is_integer : FnScope ["value", "least", "greatest"] ["value", "least", "greatest"] (defScope s_is_integer) := ⟨rfl, rfl, rfl, by decide +kernel, rfl, by decide +kernel, by decide +kernel⟩
abbrev s_is_instruction : Stmt := topS 7
abbrev n_is_instruction : List Str := ["value", "kinds", "kind", "number"]
theorem sc_is_instruction : FnScope ["value", "kinds", "kind", "number"] ["value"] (defScope s_is_instruction) := ⟨rfl, rfl, rfl, by decide +kernel, rfl, by decide +kernel, by decide +kernel⟩
abbrev s_is_code : Stmt := topS 8
abbrev n_is_code : List Str := ["value", "item"]
theorem sc_is_code : FnScope ["value", "item"] ["value"] (defScope s_is_code) := ⟨rfl, rfl, rfl, by decide +kernel, rfl, by decide +kernel, by decide +kernel⟩
abbrev s_is_region : Stmt := topS 13
abbrev n_is_region : List Str := ["value", "start", "size", "flow", "most"]
theorem sc_is_region : FnScope ["value", "start", "size", "flow", "most"] ["value"] (defScope s_is_region) := ⟨rfl, rfl, rfl, by decide +kernel, rfl, by decide +kernel, by decide +kernel⟩
abbrev s_is_layout : Stmt := topS 14
abbrev n_is_layout : List Str := ["value", "end", "region"]
theorem sc_is_layout : FnScope ["value", "end", "region"] ["value"] (defScope s_is_layout) := ⟨rfl, rfl, rfl, by decide +kernel, rfl, by decide +kernel, by decide +kernel⟩
abbrev s_is_code_file : Stmt := topS 15
abbrev n_is_code_file : List Str := ["value"]
theorem sc_is_code_file : FnScope ["value"] ["value"] (defScope s_is_code_file) := ⟨rfl, rfl, rfl, by decide +kernel, rfl, by decide +kernel, by decide +kernel⟩
abbrev s_region_end : Stmt := topS 16
abbrev n_region_end : List Str := ["region"]
theorem sc_region_end : FnScope ["region"] ["region"] (defScope s_region_end) := ⟨rfl, rfl, rfl, by decide +kernel, rfl, by decide +kernel, by decide +kernel⟩
abbrev s_layout_end : Stmt := topS 17
abbrev n_layout_end : List Str := ["layout"]
theorem sc_layout_end : FnScope ["layout"] ["layout"] (defScope s_layout_end) := ⟨rfl, rfl, rfl, by decide +kernel, rfl, by decide +kernel, by decide +kernel⟩
abbrev s_region_at : Stmt := topS 18
abbrev n_region_at : List Str := ["layout", "address", "low", "high", "middle"]
theorem sc_region_at : FnScope ["layout", "address", "low", "high", "middle"] ["layout", "address"] (defScope s_region_at) := ⟨rfl, rfl, rfl, by decide +kernel, rfl, by decide +kernel, by decide +kernel⟩
abbrev s_is_memory : Stmt := topS 19
abbrev n_is_memory : List Str := ["layout", "value", "region", "word"]
theorem sc_is_memory : FnScope ["layout", "value", "region", "word"] ["layout", "value"] (defScope s_is_memory) := ⟨rfl, rfl, rfl, by decide +kernel, rfl, by decide +kernel, by decide +kernel⟩
abbrev s_law_source : Stmt := topS 21
abbrev n_law_source : List Str := ["script", "k", "cell", "state"]
theorem sc_law_source : FnScope ["script", "k", "cell", "state"] ["script", "k"] (defScope s_law_source) := ⟨rfl, rfl, rfl, by decide +kernel, rfl, by decide +kernel, by decide +kernel⟩
abbrev s_law_draw : Stmt := topS 22
abbrev n_law_draw : List Str := ["source", "many", "worth"]
theorem sc_law_draw : FnScope ["source", "many", "worth"] ["source", "many"] (defScope s_law_draw) := ⟨rfl, rfl, rfl, by decide +kernel, rfl, by decide +kernel, by decide +kernel⟩
abbrev s_law_is_number : Stmt := topS 23
abbrev n_law_is_number : List Str := ["value", "least", "greatest"]
theorem sc_law_is_number : FnScope ["value", "least", "greatest"] ["value", "least", "greatest"] (defScope s_law_is_number) := ⟨rfl, rfl, rfl, by decide +kernel, rfl, by decide +kernel, by decide +kernel⟩
abbrev s_law_layout : Stmt := topS 24
abbrev n_law_layout : List Str := ["source", "layout", "end", "k", "start", "size", "most", "many", "step"]
theorem sc_law_layout : FnScope ["source", "layout", "end", "k", "start", "size", "most", "many", "step"] ["source"] (defScope s_law_layout) := ⟨rfl, rfl, rfl, by decide +kernel, rfl, by decide +kernel, by decide +kernel⟩
abbrev s_law_is_region : Stmt := topS 25
abbrev n_law_is_region : List Str := ["region"]
theorem sc_law_is_region : FnScope ["region"] ["region"] (defScope s_law_is_region) := ⟨rfl, rfl, rfl, by decide +kernel, rfl, by decide +kernel, by decide +kernel⟩
abbrev s_law_is_layout : Stmt := topS 26
abbrev n_law_is_layout : List Str := ["value", "region", "k"]
theorem sc_law_is_layout : FnScope ["value", "region", "k"] ["value"] (defScope s_law_is_layout) := ⟨rfl, rfl, rfl, by decide +kernel, rfl, by decide +kernel, by decide +kernel⟩
abbrev s_law_other : Stmt := topS 27
abbrev n_law_other : List Str := ["source", "shape"]
theorem sc_law_other : FnScope ["source", "shape"] ["source"] (defScope s_law_other) := ⟨rfl, rfl, rfl, by decide +kernel, rfl, by decide +kernel, by decide +kernel⟩
abbrev s_law_changed : Stmt := topS 28
abbrev n_law_changed : List Str := ["source", "layout", "rows", "at", "region", "change", "field", "other"]
theorem sc_law_changed : FnScope ["source", "layout", "rows", "at", "region", "change", "field", "other"] ["source", "layout"] (defScope s_law_changed) := ⟨rfl, rfl, rfl, by decide +kernel, rfl, by decide +kernel, by decide +kernel⟩
abbrev s_law_answers : Stmt := topS 29
abbrev n_law_answers : List Str := ["value", "due"]
theorem sc_law_answers : FnScope ["value", "due"] ["value", "due"] (defScope s_law_answers) := ⟨rfl, rfl, rfl, by decide +kernel, rfl, by decide +kernel, by decide +kernel⟩
abbrev s_law_regions_hold : Stmt := topS 30
abbrev n_law_regions_hold : List Str := ["source", "layout", "end", "due", "asked", "k", "region", "address", "found"]
theorem sc_law_regions_hold : FnScope ["source", "layout", "end", "due", "asked", "k", "region", "address", "found"] ["source", "layout"] (defScope s_law_regions_hold) := ⟨rfl, rfl, rfl, by decide +kernel, rfl, by decide +kernel, by decide +kernel⟩
abbrev s_law_memory : Stmt := topS 31
abbrev n_law_memory : List Str := ["source", "layout", "end", "memory", "start", "size", "flow", "most", "edge", "k"]
theorem sc_law_memory : FnScope ["source", "layout", "end", "memory", "start", "size", "flow", "most", "edge", "k"] ["source", "layout"] (defScope s_law_memory) := ⟨rfl, rfl, rfl, by decide +kernel, rfl, by decide +kernel, by decide +kernel⟩
abbrev s_law_is_memory : Stmt := topS 32
abbrev n_law_is_memory : List Str := ["layout", "value", "end", "word", "start", "size", "flow", "most"]
theorem sc_law_is_memory : FnScope ["layout", "value", "end", "word", "start", "size", "flow", "most"] ["layout", "value"] (defScope s_law_is_memory) := ⟨rfl, rfl, rfl, by decide +kernel, rfl, by decide +kernel, by decide +kernel⟩
abbrev s_law_memories_hold : Stmt := topS 33
abbrev n_law_memories_hold : List Str := ["source", "layout", "good", "changed", "change", "at", "value", "kept"]
theorem sc_law_memories_hold : FnScope ["source", "layout", "good", "changed", "change", "at", "value", "kept"] ["source", "layout"] (defScope s_law_memories_hold) := ⟨rfl, rfl, rfl, by decide +kernel, rfl, by decide +kernel, by decide +kernel⟩
abbrev s_law : Stmt := topS 34
abbrev n_law : List Str := ["script", "source", "rows", "changed", "code", "value", "due", "layout", "k"]
theorem sc_law : FnScope ["script", "source", "rows", "changed", "code", "value", "due", "layout", "k"] ["script"] (defScope s_law) := ⟨rfl, rfl, rfl, by decide +kernel, rfl, by decide +kernel, by decide +kernel⟩
structure Tx (w : World) (K : PySem.W.Frag) (mg : Str → Option Value) where
  a_is_integer : Addr
  d_is_integer : FuncData
  F_is_integer : Fun K "is_integer" "is_integer" s_is_integer a_is_integer d_is_integer
  b_is_integer : Binds K d_is_integer ["value", "least", "greatest"] []
  g_is_integer : mg "is_integer" = some (.ref a_is_integer)
  a_is_instruction : Addr
  d_is_instruction : FuncData
  cc_is_instruction : Addr
  P_is_instruction : Addr
  F_is_instruction : GA.FunC K "is_instruction" "is_instruction" s_is_instruction a_is_instruction d_is_instruction cc_is_instruction
  b_is_instruction : Binds K d_is_instruction ["value"] []
  g_is_instruction : mg "is_instruction" = some (.ref a_is_instruction)
  a_is_code : Addr
  d_is_code : FuncData
  cc_is_code : Addr
  P_is_code : Addr
  F_is_code : GA.FunC K "is_code" "is_code" s_is_code a_is_code d_is_code cc_is_code
  b_is_code : Binds K d_is_code ["value"] []
  g_is_code : mg "is_code" = some (.ref a_is_code)
  a_is_region : Addr
  d_is_region : FuncData
  F_is_region : Fun K "is_region" "is_region" s_is_region a_is_region d_is_region
  b_is_region : Binds K d_is_region ["value"] []
  g_is_region : mg "is_region" = some (.ref a_is_region)
  a_is_layout : Addr
  d_is_layout : FuncData
  F_is_layout : Fun K "is_layout" "is_layout" s_is_layout a_is_layout d_is_layout
  b_is_layout : Binds K d_is_layout ["value"] []
  g_is_layout : mg "is_layout" = some (.ref a_is_layout)
  a_is_code_file : Addr
  d_is_code_file : FuncData
  F_is_code_file : Fun K "is_code_file" "is_code_file" s_is_code_file a_is_code_file d_is_code_file
  b_is_code_file : Binds K d_is_code_file ["value"] []
  g_is_code_file : mg "is_code_file" = some (.ref a_is_code_file)
  a_region_end : Addr
  d_region_end : FuncData
  F_region_end : Fun K "region_end" "region_end" s_region_end a_region_end d_region_end
  b_region_end : Binds K d_region_end ["region"] []
  g_region_end : mg "region_end" = some (.ref a_region_end)
  a_layout_end : Addr
  d_layout_end : FuncData
  F_layout_end : Fun K "layout_end" "layout_end" s_layout_end a_layout_end d_layout_end
  b_layout_end : Binds K d_layout_end ["layout"] []
  g_layout_end : mg "layout_end" = some (.ref a_layout_end)
  a_region_at : Addr
  d_region_at : FuncData
  F_region_at : Fun K "region_at" "region_at" s_region_at a_region_at d_region_at
  b_region_at : Binds K d_region_at ["layout", "address"] []
  g_region_at : mg "region_at" = some (.ref a_region_at)
  a_is_memory : Addr
  d_is_memory : FuncData
  cc_is_memory : Addr
  P_is_memory : Addr
  F_is_memory : GA.FunC K "is_memory" "is_memory" s_is_memory a_is_memory d_is_memory cc_is_memory
  b_is_memory : Binds K d_is_memory ["layout", "value"] []
  g_is_memory : mg "is_memory" = some (.ref a_is_memory)
  a_law_source : Addr
  d_law_source : FuncData
  F_law_source : Fun K "_law_source" "_law_source" s_law_source a_law_source d_law_source
  b_law_source : Binds K d_law_source ["script", "k"] []
  g_law_source : mg "_law_source" = some (.ref a_law_source)
  a_law_draw : Addr
  d_law_draw : FuncData
  F_law_draw : Fun K "_law_draw" "_law_draw" s_law_draw a_law_draw d_law_draw
  b_law_draw : Binds K d_law_draw ["source", "many"] []
  g_law_draw : mg "_law_draw" = some (.ref a_law_draw)
  a_law_is_number : Addr
  d_law_is_number : FuncData
  F_law_is_number : Fun K "_law_is_number" "_law_is_number" s_law_is_number a_law_is_number d_law_is_number
  b_law_is_number : Binds K d_law_is_number ["value", "least", "greatest"] []
  g_law_is_number : mg "_law_is_number" = some (.ref a_law_is_number)
  a_law_layout : Addr
  d_law_layout : FuncData
  F_law_layout : Fun K "_law_layout" "_law_layout" s_law_layout a_law_layout d_law_layout
  b_law_layout : Binds K d_law_layout ["source"] []
  g_law_layout : mg "_law_layout" = some (.ref a_law_layout)
  a_law_is_region : Addr
  d_law_is_region : FuncData
  F_law_is_region : Fun K "_law_is_region" "_law_is_region" s_law_is_region a_law_is_region d_law_is_region
  b_law_is_region : Binds K d_law_is_region ["region"] []
  g_law_is_region : mg "_law_is_region" = some (.ref a_law_is_region)
  a_law_is_layout : Addr
  d_law_is_layout : FuncData
  F_law_is_layout : Fun K "_law_is_layout" "_law_is_layout" s_law_is_layout a_law_is_layout d_law_is_layout
  b_law_is_layout : Binds K d_law_is_layout ["value"] []
  g_law_is_layout : mg "_law_is_layout" = some (.ref a_law_is_layout)
  a_law_other : Addr
  d_law_other : FuncData
  F_law_other : Fun K "_law_other" "_law_other" s_law_other a_law_other d_law_other
  b_law_other : Binds K d_law_other ["source"] []
  g_law_other : mg "_law_other" = some (.ref a_law_other)
  a_law_changed : Addr
  d_law_changed : FuncData
  F_law_changed : Fun K "_law_changed" "_law_changed" s_law_changed a_law_changed d_law_changed
  b_law_changed : Binds K d_law_changed ["source", "layout"] []
  g_law_changed : mg "_law_changed" = some (.ref a_law_changed)
  a_law_answers : Addr
  d_law_answers : FuncData
  F_law_answers : Fun K "_law_answers" "_law_answers" s_law_answers a_law_answers d_law_answers
  b_law_answers : Binds K d_law_answers ["value", "due"] []
  g_law_answers : mg "_law_answers" = some (.ref a_law_answers)
  a_law_regions_hold : Addr
  d_law_regions_hold : FuncData
  F_law_regions_hold : Fun K "_law_regions_hold" "_law_regions_hold" s_law_regions_hold a_law_regions_hold d_law_regions_hold
  b_law_regions_hold : Binds K d_law_regions_hold ["source", "layout"] []
  g_law_regions_hold : mg "_law_regions_hold" = some (.ref a_law_regions_hold)
  a_law_memory : Addr
  d_law_memory : FuncData
  F_law_memory : Fun K "_law_memory" "_law_memory" s_law_memory a_law_memory d_law_memory
  b_law_memory : Binds K d_law_memory ["source", "layout"] []
  g_law_memory : mg "_law_memory" = some (.ref a_law_memory)
  a_law_is_memory : Addr
  d_law_is_memory : FuncData
  F_law_is_memory : Fun K "_law_is_memory" "_law_is_memory" s_law_is_memory a_law_is_memory d_law_is_memory
  b_law_is_memory : Binds K d_law_is_memory ["layout", "value"] []
  g_law_is_memory : mg "_law_is_memory" = some (.ref a_law_is_memory)
  a_law_memories_hold : Addr
  d_law_memories_hold : FuncData
  F_law_memories_hold : Fun K "_law_memories_hold" "_law_memories_hold" s_law_memories_hold a_law_memories_hold d_law_memories_hold
  b_law_memories_hold : Binds K d_law_memories_hold ["source", "layout"] []
  g_law_memories_hold : mg "_law_memories_hold" = some (.ref a_law_memories_hold)
  a_law : Addr
  d_law : FuncData
  F_law : Fun K "law" "law" s_law a_law d_law
  b_law : Binds K d_law ["script"] []
  g_law : mg "law" = some (.ref a_law)
  c_FLOWS : Addr
  g_FLOWS : mg "FLOWS" = some (.ref c_FLOWS)
  r_FLOWS : RelV (.ref c_FLOWS) (.ref c_FLOWS)
  t_MOST_INSTRUCTIONS : Tok
  g_MOST_INSTRUCTIONS : mg "MOST_INSTRUCTIONS" = some (.int (20000) t_MOST_INSTRUCTIONS)
  r_MOST_INSTRUCTIONS : RelV (.int (20000)) (.int (20000) t_MOST_INSTRUCTIONS)
  c_NUMBERS : Addr
  g_NUMBERS : mg "NUMBERS" = some (.ref c_NUMBERS)
  r_NUMBERS : RelV (.ref c_NUMBERS) (.ref c_NUMBERS)
  es_NUMBERS : Array DictEntry
  n_NUMBERS : Nat
  D_NUMBERS : KDict K w c_NUMBERS es_NUMBERS n_NUMBERS
  c_GREATEST : Addr
  g_GREATEST : mg "GREATEST" = some (.ref c_GREATEST)
  r_GREATEST : RelV (.ref c_GREATEST) (.ref c_GREATEST)
  es_GREATEST : Array DictEntry
  n_GREATEST : Nat
  D_GREATEST : KDict K w c_GREATEST es_GREATEST n_GREATEST
  t_MOST_REGIONS : Tok
  g_MOST_REGIONS : mg "MOST_REGIONS" = some (.int (256) t_MOST_REGIONS)
  r_MOST_REGIONS : RelV (.int (256)) (.int (256) t_MOST_REGIONS)
  t_MOST_ADDRESSES : Tok
  g_MOST_ADDRESSES : mg "MOST_ADDRESSES" = some (.int (4096) t_MOST_ADDRESSES)
  r_MOST_ADDRESSES : RelV (.int (4096)) (.int (4096) t_MOST_ADDRESSES)
  t_GREATEST_WORD : Tok
  g_GREATEST_WORD : mg "GREATEST_WORD" = some (.int (65535) t_GREATEST_WORD)
  r_GREATEST_WORD : RelV (.int (65535)) (.int (65535) t_GREATEST_WORD)
  z_abs : mg "abs" = none
  z_all : mg "all" = none
  z_bool : mg "bool" = none
  z_int : mg "int" = none
  z_isinstance : mg "isinstance" = none
  z_len : mg "len" = none
  z_list : mg "list" = none
  z_max : mg "max" = none
  z_min : mg "min" = none
  z_range : mg "range" = none
  z_str : mg "str" = none
  z_tuple : mg "tuple" = none
  z_zip : mg "zip" = none
  kitd_FLOWS : repB K 6 (.ref c_FLOWS) d_FLOWS = true
  kit_NUMBERS : kdB K c_NUMBERS kd_NUMBERS = true
  kit_GREATEST : kdB K c_GREATEST kd_GREATEST = true
abbrev cx {w : World} {K : PySem.W.Frag} {mg : Str → Option Value} (T : Tx w K mg) : DT.Ctx := ⟨K, mg, [T.P_is_instruction, T.P_is_code, T.P_is_memory]⟩
section
variable {P : Program} {w : World} {K : PySem.W.Frag} {mg : Str → Option Value} {base : Heap}
theorem ok_is_integer (T : Tx w K mg) (B_is_instruction : LamX.TabB base mg T.cc_is_instruction T.P_is_instruction) (B_is_code : LamX.TabB base mg T.cc_is_code T.P_is_code) (B_is_memory : LamX.TabB base mg T.cc_is_memory T.P_is_memory) : FnOk P w K mg base CX0 1 T.a_is_integer T.d_is_integer ["value", "least", "greatest"] (spOf (cx T) 3 wp_is_integer) := by
  refine T.F_is_integer.ok sc_is_integer (fun vs H Q E h => spOf_len h) (fun cdv A outer s H vs Q E hr h => ?_)
  rw [eq_is_integer] at h
  exact ⟨_, (pss_cons (ps_if (PW.pt (pw_or (pt_not (pt_truth (pe_callB call_isi (by rfl) T.z_isinstance (by decide +kernel) (pa_cons (pv 0) (pa_cons (pe_bltn (v := .ty "int") (u := .type "int") (by rfl) T.z_int (by decide +kernel) rfl) pa_nil))) (by intro _; rfl))) (pw_or1 (pt_truth (pe_callB call_isi (by rfl) T.z_isinstance (by decide +kernel) (pa_cons (pv 0) (pa_cons (pe_bltn (v := .ty "bool") (u := .type "bool") (by rfl) T.z_bool (by decide +kernel) rfl) pa_nil))) (by intro _; rfl)))))
(pss_one (ps_ret pe_bl))
pss_nil)
(pss_one (ps_ret (pe_chain op_le op_le (pv 1) (pv 0) (pv 2))))), fn_body (N := n_is_integer) (C := cx T) (b := b_is_integer)
    (ss_seq (ss_if (st_or (st_not (st_tru (se_cb sc_isi (sa_cons (se_var 0) (sa_cons se_con sa_nil))))) (st_tru (se_cb sc_isi (sa_cons (se_var 0) (sa_cons se_con sa_nil)))))
(ss_ret se_bl)
ss_next)
(ss_ret (se_chain s2_le s2_le (se_var 1) (se_var 0) (se_var 2)))) h rfl⟩
theorem ok_region_end (T : Tx w K mg) (B_is_instruction : LamX.TabB base mg T.cc_is_instruction T.P_is_instruction) (B_is_code : LamX.TabB base mg T.cc_is_code T.P_is_code) (B_is_memory : LamX.TabB base mg T.cc_is_memory T.P_is_memory) : FnOk P w K mg base CX0 1 T.a_region_end T.d_region_end ["region"] (spOf (cx T) 1 wp_region_end) := by
  refine T.F_region_end.ok sc_region_end (fun vs H Q E h => spOf_len h) (fun cdv A outer s H vs Q E hr h => ?_)
  rw [eq_region_end] at h
  exact ⟨_, (pss_one (ps_ret (pe_op op_addA (pe_ix ix_seq (pv 0) pe_int (fun _ _ => rfl)) (pe_ix ix_seq (pv 0) pe_int (fun _ _ => rfl))))), fn_body (N := n_region_end) (C := cx T) (b := b_region_end)
    (ss_ret (se_op s2_addA (se_op s2_ix (se_var 0) se_int) (se_op s2_ix (se_var 0) se_int))) h rfl⟩
theorem ok_law_source (T : Tx w K mg) (B_is_instruction : LamX.TabB base mg T.cc_is_instruction T.P_is_instruction) (B_is_code : LamX.TabB base mg T.cc_is_code T.P_is_code) (B_is_memory : LamX.TabB base mg T.cc_is_memory T.P_is_memory) : FnOk P w K mg base CX0 1 T.a_law_source T.d_law_source ["script", "k"] (spOf (cx T) 2 wp_law_source) := by
  refine T.F_law_source.ok sc_law_source (fun vs H Q E h => spOf_len h) (fun cdv A outer s H vs Q E hr h => ?_)
  rw [eq_law_source] at h
  exact ⟨_, (pss_cons (ps_set (i := 2) sc_law_source.nd rfl (.inl rfl) pe_int)
(pss_cons (ps_if (pt_cmpR op_gt (pe_callB call_len (by rfl) T.z_len (by decide +kernel) (pa_cons (pv 0) pa_nil)) pe_int (nomark _))
(pss_one (ps_set (i := 2) sc_law_source.nd rfl (.inl rfl) (pe_callB call_abs (by rfl) T.z_abs (by decide +kernel) (pa_cons (pe_ix ix_seq (pv 0) (pe_op op_mod (pv 1) (pe_callB call_len (by rfl) T.z_len (by decide +kernel) (pa_cons (pv 0) pa_nil))) (fun _ _ => rfl)) pa_nil))))
pss_nil)
(pss_cons (ps_set (i := 3) sc_law_source.nd rfl (.inl rfl) (pe_op op_mod (pe_callTy call_int1 (by rfl) T.z_int (by decide +kernel) (pa_cons (pe_op op_addA (pe_op op_addA (pe_op op_mulA (pv 2) pe_int) (pe_op op_mulA (pv 1) pe_int)) pe_int) pa_nil)) pe_int))
(pss_cons (ps_if (pt_cmpR op_lt (pv 2) (pe_op op_pow pe_int pe_int) (nomark _))
(pss_one (ps_ret (pe_lst (pa_cons pe_int (pa_cons (pv 3) pa_nil)))))
pss_nil)
(pss_one (ps_ret (pe_lst (pa_cons (pv 2) (pa_cons (pv 3) pa_nil))))))))), fn_body (N := n_law_source) (C := cx T) (b := b_law_source)
    (ss_seq (ss_asg se_int sg_name)
(ss_seq (ss_if (st_test (se_op s2_gt (se_cb sc_len (sa_cons (se_var 0) sa_nil)) se_int))
(ss_asg (se_cb sc_abs (sa_cons (se_op s2_ix (se_var 0) (se_op s2_mod (se_var 1) (se_cb sc_len (sa_cons (se_var 0) sa_nil)))) sa_nil)) sg_name)
ss_next)
(ss_cut eqc_law_source_1
(ss_seq (ss_asg (se_op s2_mod (se_cb sc_int (sa_cons (se_op s2_addA (se_op s2_addA (se_op s2_mulAA (se_var 2) se_int) (se_op s2_mulAA (se_var 1) se_int)) se_int) sa_nil)) se_int) sg_name)
(ss_seq (ss_if (st_test (se_op s2_lt (se_var 2) (se_op s2_pow se_int se_int)))
(ss_ret (se_lst (n := 2) (sa_cons se_int (sa_cons (se_var 3) sa_nil)) (by decide)))
ss_next)
(ss_ret (se_lst (n := 2) (sa_cons (se_var 2) (sa_cons (se_var 3) sa_nil)) (by decide)))))))) h rfl⟩
theorem ok_law_draw (T : Tx w K mg) (B_is_instruction : LamX.TabB base mg T.cc_is_instruction T.P_is_instruction) (B_is_code : LamX.TabB base mg T.cc_is_code T.P_is_code) (B_is_memory : LamX.TabB base mg T.cc_is_memory T.P_is_memory) : FnOk P w K mg base CX0 1 T.a_law_draw T.d_law_draw ["source", "many"] (spOf (cx T) 2 wp_law_draw) := by
  refine T.F_law_draw.ok sc_law_draw (fun vs H Q E h => spOf_len h) (fun cdv A outer s H vs Q E hr h => ?_)
  rw [eq_law_draw] at h
  exact ⟨_, (pss_cons (ps_if (pt_cmpR op_gt (pe_ix ix_seq (pv 0) pe_int (fun _ _ => rfl)) pe_int (nomark _))
(pss_cons (ps_set (i := 2) sc_law_draw.nd rfl (.inl rfl) (pe_op op_mod (pe_callTy call_int1 (by rfl) T.z_int (by decide +kernel) (pa_cons (pe_ix ix_seq (pv 0) pe_int (fun _ _ => rfl)) pa_nil)) (pv 1)))
(pss_cons (ps_asg (pe_op op_fdivW (pe_ix ix_seq (pv 0) pe_int (fun _ _ => rfl)) (pv 1)) (pg_sub (pv 0) pe_int set_list))
(pss_one (ps_ret (pv 2)))))
pss_nil)
(pss_cons (ps_asg (pe_op op_mod (pe_callTy call_int1 (by rfl) T.z_int (by decide +kernel) (pa_cons (pe_op op_addA (pe_op op_mulA (pe_ix ix_seq (pv 0) pe_int (fun _ _ => rfl)) pe_int) pe_int) pa_nil)) pe_int) (pg_sub (pv 0) pe_int set_list))
(pss_one (ps_ret (pe_op op_mod (pe_op op_mod (pe_callTy call_int1 (by rfl) T.z_int (by decide +kernel) (pa_cons (pe_op op_addA (pe_op op_mulA (pe_op op_fdivW (pe_ix ix_seq (pv 0) pe_int (fun _ _ => rfl)) pe_int) pe_int) (pe_op op_mulA (pe_op op_mod (pe_ix ix_seq (pv 0) pe_int (fun _ _ => rfl)) pe_int) pe_int)) pa_nil)) pe_int) (pv 1)))))), fn_body (N := n_law_draw) (C := cx T) (b := b_law_draw)
    (ss_seq (ss_if (st_test (se_op s2_gt (se_op s2_ix (se_var 0) se_int) se_int))
(ss_seq (ss_asg (se_op s2_mod (se_cb sc_int (sa_cons (se_op s2_ix (se_var 0) se_int) sa_nil)) (se_var 1)) sg_name)
(ss_seq (ss_asg (se_op s2_fdiv (se_op s2_ix (se_var 0) se_int) (se_var 1)) (sg_sub (se_var 0) se_int))
(ss_ret (se_var 2))))
ss_next)
(ss_seq (ss_asg (se_op s2_mod (se_cb sc_int (sa_cons (se_op s2_addA (se_op s2_mulAA (se_op s2_ix (se_var 0) se_int) se_int) se_int) sa_nil)) se_int) (sg_sub (se_var 0) se_int))
(ss_ret (se_op s2_mod (se_op s2_mod (se_cb sc_int (sa_cons (se_op s2_addA (se_op s2_mulAA (se_op s2_fdiv (se_op s2_ix (se_var 0) se_int) se_int) se_int) (se_op s2_mulAA (se_op s2_mod (se_op s2_ix (se_var 0) se_int) se_int) se_int)) sa_nil)) se_int) (se_var 1))))) h rfl⟩
theorem ok_law_is_number (T : Tx w K mg) (B_is_instruction : LamX.TabB base mg T.cc_is_instruction T.P_is_instruction) (B_is_code : LamX.TabB base mg T.cc_is_code T.P_is_code) (B_is_memory : LamX.TabB base mg T.cc_is_memory T.P_is_memory) : FnOk P w K mg base CX0 1 T.a_law_is_number T.d_law_is_number ["value", "least", "greatest"] (spOf (cx T) 3 wp_law_is_number) := by
  refine T.F_law_is_number.ok sc_law_is_number (fun vs H Q E h => spOf_len h) (fun cdv A outer s H vs Q E hr h => ?_)
  rw [eq_law_is_number] at h
  exact ⟨_, (pss_one (ps_ret (pe_andT (pe_callB call_isi (by rfl) T.z_isinstance (by decide +kernel) (pa_cons (pv 0) (pa_cons (pe_bltn (v := .ty "int") (u := .type "int") (by rfl) T.z_int (by decide +kernel) rfl) pa_nil))) (pe_andT (pe_notT (pe_callB call_isi (by rfl) T.z_isinstance (by decide +kernel) (pa_cons (pv 0) (pa_cons (pe_bltn (v := .ty "bool") (u := .type "bool") (by rfl) T.z_bool (by decide +kernel) rfl) pa_nil)))) (pe_one (pe_chain op_le op_le (pv 1) (pv 0) (pv 2))))))), fn_body (N := n_law_is_number) (C := cx T) (b := b_law_is_number)
    (ss_ret (se_andT (se_cb sc_isi (sa_cons (se_var 0) (sa_cons se_con sa_nil))) (se_andT (se_notT (se_cb sc_isi (sa_cons (se_var 0) (sa_cons se_con sa_nil)))) (se_chain s2_le s2_le (se_var 1) (se_var 0) (se_var 2))))) h rfl⟩
theorem ok_law_answers (T : Tx w K mg) (B_is_instruction : LamX.TabB base mg T.cc_is_instruction T.P_is_instruction) (B_is_code : LamX.TabB base mg T.cc_is_code T.P_is_code) (B_is_memory : LamX.TabB base mg T.cc_is_memory T.P_is_memory) : FnOk P w K mg base CX0 1 T.a_law_answers T.d_law_answers ["value", "due"] (spOf (cx T) 2 wp_law_answers) := by
  refine T.F_law_answers.ok sc_law_answers (fun vs H Q E h => spOf_len h) (fun cdv A outer s H vs Q E hr h => ?_)
  rw [eq_law_answers] at h
  exact ⟨_, (pss_one (ps_ret (pe_andT (pe_callB call_isi (by rfl) T.z_isinstance (by decide +kernel) (pa_cons (pv 0) (pa_cons (pe_bltn (v := .ty "bool") (u := .type "bool") (by rfl) T.z_bool (by decide +kernel) rfl) pa_nil))) (pe_one (pe_cmpR (op_eqA hr.units) (pv 0) (pv 1) (nomark _)))))), fn_body (N := n_law_answers) (C := cx T) (b := b_law_answers)
    (ss_ret (se_andT (se_cb sc_isi (sa_cons (se_var 0) (sa_cons se_con sa_nil))) (se_op s2_eqA (se_var 0) (se_var 1)))) h rfl⟩
theorem ok_is_region (T : Tx w K mg) (B_is_instruction : LamX.TabB base mg T.cc_is_instruction T.P_is_instruction) (B_is_code : LamX.TabB base mg T.cc_is_code T.P_is_code) (B_is_memory : LamX.TabB base mg T.cc_is_memory T.P_is_memory) : FnOk P w K mg base CX0 2 T.a_is_region T.d_is_region ["value"] (spOf (cx T) 1 wp_is_region) := by
  have G_is_integer := ok_is_integer (P := P) (w := w) (base := base) T B_is_instruction B_is_code B_is_memory
  refine T.F_is_region.ok sc_is_region (fun vs H Q E h => spOf_len h) (fun cdv A outer s H vs Q E hr h => ?_)
  have hr_is_integer : Room 1 _ := hr.mono (by decide)
  rw [eq_is_region] at h
  exact ⟨_, (pss_cons (ps_if (PW.pt (pw_or (pt_not (pt_truth (pe_callB call_isi (by rfl) T.z_isinstance (by decide +kernel) (pa_cons (pv 0) (pa_cons (pe_bltn (v := .ty "tuple") (u := .type "tuple") (by rfl) T.z_tuple (by decide +kernel) rfl) pa_nil))) (by intro _; rfl))) (pw_or1 (pt_cmpR (op_neA hr.units) (pe_callB call_len (by rfl) T.z_len (by decide +kernel) (pa_cons (pv 0) pa_nil)) pe_int (nomark _)))))
(pss_one (ps_ret pe_bl))
pss_nil)
(pss_cons (ps_asg (pv 0) (pg_tup rfl (pgs_cons (pg_name (i := 1) sc_is_region.nd rfl (.inl rfl)) (pgs_cons (pg_name (i := 2) sc_is_region.nd rfl (.inl rfl)) (pgs_cons (pg_name (i := 3) sc_is_region.nd rfl (.inl rfl)) (pgs_cons (pg_name (i := 4) sc_is_region.nd rfl (.inl rfl)) pgs_nil))))))
(pss_cons (ps_if (PW.pt (pw_or (pt_not (pt_truth (pe_call G_is_integer hr_is_integer (by rfl) T.g_is_integer T.F_is_integer.kp T.b_is_integer .nil pass0 (pa_cons (pv 1) (pa_cons pe_int (pa_cons (pe_op op_sub (pe_glob rfl T.g_MOST_ADDRESSES T.r_MOST_ADDRESSES) pe_int) pa_nil)))) (by intro _; rfl))) (pw_or1 (pt_not (pt_truth (pe_call G_is_integer hr_is_integer (by rfl) T.g_is_integer T.F_is_integer.kp T.b_is_integer .nil pass0 (pa_cons (pv 2) (pa_cons pe_int (pa_cons (pe_op op_sub (pe_glob rfl T.g_MOST_ADDRESSES T.r_MOST_ADDRESSES) (pv 1)) pa_nil)))) (by intro _; rfl))))))
(pss_one (ps_ret pe_bl))
pss_nil)
(pss_one (ps_ret (pe_andT (pe_cmpR (op_inA (IT.hu65 hr)) (pv 3) (pe_glob rfl T.g_FLOWS T.r_FLOWS) (by rfl)) (pe_one (pe_call G_is_integer hr_is_integer (by rfl) T.g_is_integer T.F_is_integer.kp T.b_is_integer .nil pass0 (pa_cons (pv 4) (pa_cons pe_int (pa_cons (pe_glob rfl T.g_GREATEST_WORD T.r_GREATEST_WORD) pa_nil))))))))))), fn_body (N := n_is_region) (C := cx T) (b := b_is_region)
    (ss_seq (ss_if (st_or (st_not (st_tru (se_cb sc_isi (sa_cons (se_var 0) (sa_cons se_con sa_nil))))) (st_test (se_op s2_neA (se_cb sc_len (sa_cons (se_var 0) sa_nil)) se_int)))
(ss_ret se_bl)
ss_next)
(ss_seq (ss_asg (se_var 0) (sg_tup (sgs_cons sg_name (sgs_cons sg_name (sgs_cons sg_name (sgs_cons sg_name sgs_nil))))))
(ss_seq (ss_if (st_or (st_not (st_tru (se_call (m := 3) (sa_cons (se_var 1) (sa_cons se_int (sa_cons (se_op s2_sub se_int se_int) sa_nil)))))) (st_not (st_tru (se_call (m := 3) (sa_cons (se_var 2) (sa_cons se_int (sa_cons (se_op s2_sub se_int (se_var 1)) sa_nil)))))))
(ss_ret se_bl)
ss_next)
(ss_ret (se_andT (se_op s2_inA (se_var 3) (se_c fun w => rep_const T.kitd_FLOWS w)) (se_call (m := 3) (sa_cons (se_var 4) (sa_cons se_int (sa_cons se_int sa_nil))))))))) h rfl⟩
theorem ok_layout_end (T : Tx w K mg) (B_is_instruction : LamX.TabB base mg T.cc_is_instruction T.P_is_instruction) (B_is_code : LamX.TabB base mg T.cc_is_code T.P_is_code) (B_is_memory : LamX.TabB base mg T.cc_is_memory T.P_is_memory) : FnOk P w K mg base CX0 2 T.a_layout_end T.d_layout_end ["layout"] (spOf (cx T) 1 wp_layout_end) := by
  have G_region_end := ok_region_end (P := P) (w := w) (base := base) T B_is_instruction B_is_code B_is_memory
  refine T.F_layout_end.ok sc_layout_end (fun vs H Q E h => spOf_len h) (fun cdv A outer s H vs Q E hr h => ?_)
  have hr_region_end : Room 1 _ := hr.mono (by decide)
  rw [eq_layout_end] at h
  exact ⟨_, (pss_cons (ps_if (pt_cmpR (op_eqA hr.units) (pe_callB call_len (by rfl) T.z_len (by decide +kernel) (pa_cons (pv 0) pa_nil)) pe_int (nomark _))
(pss_one (ps_ret pe_int))
pss_nil)
(pss_one (ps_ret (pe_call G_region_end hr_region_end (by rfl) T.g_region_end T.F_region_end.kp T.b_region_end .nil pass0 (pa_cons (pe_ix ix_seq (pv 0) (pe_un un_neg pe_int) (fun _ _ => rfl)) pa_nil))))), fn_body (N := n_layout_end) (C := cx T) (b := b_layout_end)
    (ss_seq (ss_if (st_test (se_op s2_eqA (se_cb sc_len (sa_cons (se_var 0) sa_nil)) se_int))
(ss_ret se_int)
ss_next)
(ss_ret (se_call (m := 1) (sa_cons (se_op s2_ix (se_var 0) (se_un s1_neg se_int)) sa_nil)))) h rfl⟩
theorem ok_region_at (T : Tx w K mg) (B_is_instruction : LamX.TabB base mg T.cc_is_instruction T.P_is_instruction) (B_is_code : LamX.TabB base mg T.cc_is_code T.P_is_code) (B_is_memory : LamX.TabB base mg T.cc_is_memory T.P_is_memory) : FnOk P w K mg base CX0 2 T.a_region_at T.d_region_at ["layout", "address"] (spOf (cx T) 2 wp_region_at) := by
  have G_region_end := ok_region_end (P := P) (w := w) (base := base) T B_is_instruction B_is_code B_is_memory
  refine T.F_region_at.ok sc_region_at (fun vs H Q E h => spOf_len h) (fun cdv A outer s H vs Q E hr h => ?_)
  have hr_region_end : Room 1 _ := hr.mono (by decide)
  rw [eq_region_at] at h
  exact ⟨_, (pss_cons (ps_set (i := 2) sc_region_at.nd rfl (.inl rfl) pe_int)
(pss_cons (ps_set (i := 3) sc_region_at.nd rfl (.inl rfl) (pe_callB call_len (by rfl) T.z_len (by decide +kernel) (pa_cons (pv 0) pa_nil)))
(pss_cons (ps_while PassesOwn.never (pt_cmpR op_lt (pv 2) (pv 3) (nomark _))
(pss_cons (ps_set (i := 4) sc_region_at.nd rfl (.inl rfl) (pe_op op_fdivW (pe_op op_addA (pv 2) (pv 3)) pe_int))
(pss_one (ps_if (pt_cmpR op_le (pe_ix ix_seq (pe_ix ix_seq (pv 0) (pv 4) (fun _ _ => rfl)) pe_int (fun _ _ => rfl)) (pv 1) (nomark _))
(pss_one (ps_set (i := 2) sc_region_at.nd rfl (.inl rfl) (pe_op op_addA (pv 4) pe_int)))
(pss_one (ps_set (i := 3) sc_region_at.nd rfl (.inl rfl) (pv 4)))))))
(pss_cons (ps_if (PW.pt (pw_or (pt_cmpR (op_eqA hr.units) (pv 2) pe_int (nomark _)) (pw_or1 (pt_cmpR op_ge (pv 1) (pe_call G_region_end hr_region_end (by rfl) T.g_region_end T.F_region_end.kp T.b_region_end .nil pass0 (pa_cons (pe_ix ix_seq (pv 0) (pe_op op_sub (pv 2) pe_int) (fun _ _ => rfl)) pa_nil)) (nomark _)))))
(pss_one (ps_ret (pe_un un_neg pe_int)))
pss_nil)
(pss_one (ps_ret (pe_op op_sub (pv 2) pe_int))))))), fn_body (N := n_region_at) (C := cx T) (b := b_region_at)
    (ss_seq (ss_asg se_int sg_name)
(ss_seq (ss_asg (se_cb sc_len (sa_cons (se_var 0) sa_nil)) sg_name)
(ss_seq (ss_while (st_test (se_op s2_lt (se_var 2) (se_var 3)))
(ss_seq (ss_asg (se_op s2_fdiv (se_op s2_addA (se_var 2) (se_var 3)) se_int) sg_name)
(ss_if (st_test (se_op s2_le (se_op s2_ix (se_op s2_ix (se_var 0) (se_var 4)) se_int) (se_var 1)))
(ss_asg (se_op s2_addA (se_var 4) se_int) sg_name)
(ss_asg (se_var 4) sg_name))))
(ss_seq (ss_if (st_or (st_test (se_op s2_eqA (se_var 2) se_int)) (st_test (se_op s2_ge (se_var 1) (se_call (m := 1) (sa_cons (se_op s2_ix (se_var 0) (se_op s2_sub (se_var 2) se_int)) sa_nil)))))
(ss_ret (se_un s1_neg se_int))
ss_next)
(ss_ret (se_op s2_sub (se_var 2) se_int)))))) h rfl⟩
theorem ok_law_layout (T : Tx w K mg) (B_is_instruction : LamX.TabB base mg T.cc_is_instruction T.P_is_instruction) (B_is_code : LamX.TabB base mg T.cc_is_code T.P_is_code) (B_is_memory : LamX.TabB base mg T.cc_is_memory T.P_is_memory) : FnOk P w K mg base CX0 2 T.a_law_layout T.d_law_layout ["source"] (spOf (cx T) 1 wp_law_layout) := by
  have G_law_draw := ok_law_draw (P := P) (w := w) (base := base) T B_is_instruction B_is_code B_is_memory
  refine T.F_law_layout.ok sc_law_layout (fun vs H Q E h => spOf_len h) (fun cdv A outer s H vs Q E hr h => ?_)
  have hr_law_draw : Room 1 _ := hr.mono (by decide)
  rw [eq_law_layout] at h
  exact ⟨_, (pss_cons (ps_set (i := 1) sc_law_layout.nd rfl (.inl rfl) (pe_lst pa_nil))
(pss_cons (ps_set (i := 2) sc_law_layout.nd rfl (.inl rfl) pe_int)
(pss_cons (ps_for PassesOwn.never rfl (pi_range1 rfl T.z_range (pa_cons (pe_call G_law_draw hr_law_draw (by rfl) T.g_law_draw T.F_law_draw.kp T.b_law_draw .nil pass0 (pa_cons (pv 0) (pa_cons pe_int pa_nil))) pa_nil)) (pg_name (i := 3) sc_law_layout.nd rfl (.inl rfl))
(pss_cons (ps_set (i := 4) sc_law_layout.nd rfl (.inl rfl) (pe_op op_addA (pv 2) (pe_ix ix_seq (pe_lst (pa_cons pe_int (pa_cons pe_int (pa_cons (pe_call G_law_draw hr_law_draw (by rfl) T.g_law_draw T.F_law_draw.kp T.b_law_draw .nil pass0 (pa_cons (pv 0) (pa_cons pe_int pa_nil))) (pa_cons (pe_call G_law_draw hr_law_draw (by rfl) T.g_law_draw T.F_law_draw.kp T.b_law_draw .nil pass0 (pa_cons (pv 0) (pa_cons pe_int pa_nil))) pa_nil))))) (pe_call G_law_draw hr_law_draw (by rfl) T.g_law_draw T.F_law_draw.kp T.b_law_draw .nil pass0 (pa_cons (pv 0) (pa_cons pe_int pa_nil))) (fun _ _ => rfl))))
(pss_cons (ps_if (pt_cmpR op_ge (pv 4) pe_int (nomark _))
(pss_one ps_break)
pss_nil)
(pss_cons (ps_set (i := 5) sc_law_layout.nd rfl (.inl rfl) (pe_op op_addA pe_int (pe_call G_law_draw hr_law_draw (by rfl) T.g_law_draw T.F_law_draw.kp T.b_law_draw .nil pass0 (pa_cons (pv 0) (pa_cons pe_int pa_nil)))))
(pss_cons (ps_if (pt_cmpR (op_eqA hr.units) (pe_call G_law_draw hr_law_draw (by rfl) T.g_law_draw T.F_law_draw.kp T.b_law_draw .nil pass0 (pa_cons (pv 0) (pa_cons pe_int pa_nil))) pe_int (nomark _))
(pss_one (ps_set (i := 5) sc_law_layout.nd rfl (.inl rfl) (pe_op op_addA pe_int (pe_call G_law_draw hr_law_draw (by rfl) T.g_law_draw T.F_law_draw.kp T.b_law_draw .nil pass0 (pa_cons (pv 0) (pa_cons (pe_op op_sub pe_int (pv 4)) pa_nil))))))
pss_nil)
(pss_cons (ps_if (pt_cmpR (op_eqA hr.units) (pe_call G_law_draw hr_law_draw (by rfl) T.g_law_draw T.F_law_draw.kp T.b_law_draw .nil pass0 (pa_cons (pv 0) (pa_cons pe_int pa_nil))) pe_int (nomark _))
(pss_one (ps_set (i := 5) sc_law_layout.nd rfl (.inl rfl) (pe_op op_sub pe_int (pv 4))))
pss_nil)
(pss_cons (ps_set (i := 5) sc_law_layout.nd rfl (.inl rfl) (pe_callB (call_min2 rfl) (by rfl) T.z_min (by decide +kernel) (pa_cons (pv 5) (pa_cons (pe_op op_sub pe_int (pv 4)) pa_nil))))
(pss_cons (ps_set (i := 6) sc_law_layout.nd rfl (.inl rfl) (pe_ix ix_seq (pe_lst (pa_cons pe_int (pa_cons (pe_call G_law_draw hr_law_draw (by rfl) T.g_law_draw T.F_law_draw.kp T.b_law_draw .nil pass0 (pa_cons (pv 0) (pa_cons pe_int pa_nil))) (pa_cons (pe_call G_law_draw hr_law_draw (by rfl) T.g_law_draw T.F_law_draw.kp T.b_law_draw .nil pass0 (pa_cons (pv 0) (pa_cons pe_int pa_nil))) pa_nil)))) (pe_call G_law_draw hr_law_draw (by rfl) T.g_law_draw T.F_law_draw.kp T.b_law_draw .nil pass0 (pa_cons (pv 0) (pa_cons pe_int pa_nil))) (fun _ _ => rfl)))
(pss_cons (ps_expr (pe_bm PySem.F.plainAttrs_list PySem.F.slot_list_append PySem.F.type_list_append mt_append (pv 1) (pa_cons (pe_tup (pa_cons (pv 4) (pa_cons (pv 5) (pa_cons (pe_ix ix_seq (pe_lst (pa_cons pe_str (pa_cons pe_str pa_nil))) (pe_call G_law_draw hr_law_draw (by rfl) T.g_law_draw T.F_law_draw.kp T.b_law_draw .nil pass0 (pa_cons (pv 0) (pa_cons pe_int pa_nil))) (fun _ _ => rfl)) (pa_cons (pv 6) pa_nil))))) pa_nil)))
(pss_one (ps_set (i := 2) sc_law_layout.nd rfl (.inl rfl) (pe_op op_addA (pv 4) (pv 5)))))))))))))
(pss_cons (ps_if (pt_cmpR (op_eqA hr.units) (pe_call G_law_draw hr_law_draw (by rfl) T.g_law_draw T.F_law_draw.kp T.b_law_draw .nil pass0 (pa_cons (pv 0) (pa_cons pe_int pa_nil))) pe_int (nomark _))
(pss_cons (ps_set (i := 7) sc_law_layout.nd rfl (.inl rfl) (pe_ix ix_seq (pe_lst (pa_cons pe_int (pa_cons pe_int (pa_cons pe_int (pa_cons pe_int (pa_cons pe_int pa_nil)))))) (pe_call G_law_draw hr_law_draw (by rfl) T.g_law_draw T.F_law_draw.kp T.b_law_draw .nil pass0 (pa_cons (pv 0) (pa_cons pe_int pa_nil))) (fun _ _ => rfl)))
(pss_cons (ps_set (i := 8) sc_law_layout.nd rfl (.inr rfl) (pe_op op_addA pe_int (pe_call G_law_draw hr_law_draw (by rfl) T.g_law_draw T.F_law_draw.kp T.b_law_draw .nil pass0 (pa_cons (pv 0) (pa_cons (pe_op op_fdivW pe_int (pv 7)) pa_nil)))))
(pss_one (ps_setLc (i := 1) (own := [("k", 3)]) (g := gName 3) (by rfl) sc_law_layout.nd rfl rfl (sw_true rfl rfl rfl (by decide +kernel)) (pi_range1 rfl T.z_range (pa_cons (pv 7) pa_nil)) (blkOk_by (N := n_law_layout) (sc := defScope s_law_layout) (by decide +kernel)) (fun _ _ _ _ _ => (pg_name (i := 3) sc_law_layout.nd rfl (Or.inl rfl))) (fun _ _ _ _ _ => pts_nil) (fun _ _ _ _ _ => (pe_tup (pa_cons (pe_op (show OpR _ _ (rMulA K) from op_mulA) (pv 3) (pv 8)) (pa_cons (pe_op (show OpR _ _ (rAddA K) from op_addA) pe_int (pe_call G_law_draw hr_law_draw (by rfl) T.g_law_draw T.F_law_draw.kp T.b_law_draw .nil pass0 (pa_cons (pv 0) (pa_cons (pv 8) pa_nil)))) (pa_cons pe_str (pa_cons pe_int pa_nil))))))))))
pss_nil)
(pss_one (ps_ret (pv 1))))))), fn_body (N := n_law_layout) (C := cx T) (b := b_law_layout)
    (ss_seq (ss_asg (se_lst (n := 0) sa_nil (by decide)) sg_name)
(ss_seq (ss_asg se_int sg_name)
(ss_seq (ss_for (si_rng1 (sa_cons (se_call (m := 2) (sa_cons (se_var 0) (sa_cons se_int sa_nil))) sa_nil)) sg_name
(ss_seq (ss_asg (se_op s2_addA (se_var 2) (se_op s2_ix (se_ro (n := 4) (sa_cons se_int (sa_cons se_int (sa_cons (se_call (m := 2) (sa_cons (se_var 0) (sa_cons se_int sa_nil))) (sa_cons (se_call (m := 2) (sa_cons (se_var 0) (sa_cons se_int sa_nil))) sa_nil)))) (by decide)) (se_call (m := 2) (sa_cons (se_var 0) (sa_cons se_int sa_nil))))) sg_name)
(ss_seq (ss_if (st_test (se_op s2_ge (se_var 4) se_int))
ss_break
ss_next)
(ss_seq (ss_asg (se_op s2_addA se_int (se_call (m := 2) (sa_cons (se_var 0) (sa_cons se_int sa_nil)))) sg_name)
(ss_seq (ss_if (st_test (se_op s2_eqA (se_call (m := 2) (sa_cons (se_var 0) (sa_cons se_int sa_nil))) se_int))
(ss_asg (se_op s2_addA se_int (se_call (m := 2) (sa_cons (se_var 0) (sa_cons (se_op s2_sub se_int (se_var 4)) sa_nil)))) sg_name)
ss_next)
(ss_cut eqc_law_layout_3
(ss_seq (ss_if (st_test (se_op s2_eqA (se_call (m := 2) (sa_cons (se_var 0) (sa_cons se_int sa_nil))) se_int))
(ss_asg (se_op s2_sub se_int (se_var 4)) sg_name)
ss_next)
(ss_cut eqc_law_layout_2
(ss_seq (ss_asg (se_cb sc_min (sa_cons (se_var 5) (sa_cons (se_op s2_sub se_int (se_var 4)) sa_nil))) sg_name)
(ss_seq (ss_asg (se_op s2_ix (se_ro (n := 3) (sa_cons se_int (sa_cons (se_call (m := 2) (sa_cons (se_var 0) (sa_cons se_int sa_nil))) (sa_cons (se_call (m := 2) (sa_cons (se_var 0) (sa_cons se_int sa_nil))) sa_nil))) (by decide)) (se_call (m := 2) (sa_cons (se_var 0) (sa_cons se_int sa_nil)))) sg_name)
(ss_seq (ss_drop (se_bl' sl_append (se_var 1) (sa_cons (se_tup (n := 4) (sa_cons (se_var 4) (sa_cons (se_var 5) (sa_cons (se_op s2_ix (se_ro (n := 2) (sa_cons se_str (sa_cons se_str sa_nil)) (by decide)) (se_call (m := 2) (sa_cons (se_var 0) (sa_cons se_int sa_nil)))) (sa_cons (se_var 6) sa_nil)))) (by decide)) sa_nil)))
(ss_asg (se_op s2_addA (se_var 4) (se_var 5)) sg_name))))))))))))
(ss_cut eqc_law_layout_4
(ss_seq (ss_if (st_test (se_op s2_eqA (se_call (m := 2) (sa_cons (se_var 0) (sa_cons se_int sa_nil))) se_int))
(ss_seq (ss_asg (se_op s2_ix (se_ro (n := 5) (sa_cons se_int (sa_cons se_int (sa_cons se_int (sa_cons se_int (sa_cons se_int sa_nil))))) (by decide)) (se_call (m := 2) (sa_cons (se_var 0) (sa_cons se_int sa_nil)))) sg_name)
(ss_seq (ss_asg (se_op s2_addA se_int (se_call (m := 2) (sa_cons (se_var 0) (sa_cons (se_op s2_fdiv se_int (se_var 7)) sa_nil)))) sg_name)
(ss_asg (se_lc (si_rng1 (sa_cons (se_var 7) sa_nil)) sg_name (kw_name (by decide)) st_yes (se_tup (n := 4) (sa_cons (se_op s2_mulAA (se_var 3) (se_var 8)) (sa_cons (se_op s2_addA se_int (se_call (m := 2) (sa_cons (se_var 0) (sa_cons (se_var 8) sa_nil)))) (sa_cons se_str (sa_cons se_int sa_nil)))) (by decide))) sg_name)))
ss_next)
(ss_cut eqc_law_layout_1
(ss_ret (se_var 1)))))))) h rfl⟩
theorem ok_law_is_region (T : Tx w K mg) (B_is_instruction : LamX.TabB base mg T.cc_is_instruction T.P_is_instruction) (B_is_code : LamX.TabB base mg T.cc_is_code T.P_is_code) (B_is_memory : LamX.TabB base mg T.cc_is_memory T.P_is_memory) : FnOk P w K mg base CX0 2 T.a_law_is_region T.d_law_is_region ["region"] (spOf (cx T) 1 wp_law_is_region) := by
  have G_law_is_number := ok_law_is_number (P := P) (w := w) (base := base) T B_is_instruction B_is_code B_is_memory
  refine T.F_law_is_region.ok sc_law_is_region (fun vs H Q E h => spOf_len h) (fun cdv A outer s H vs Q E hr h => ?_)
  have hr_law_is_number : Room 1 _ := hr.mono (by decide)
  rw [eq_law_is_region] at h
  exact ⟨_, (pss_cons (ps_if (PW.pt (pw_or (pt_not (pt_truth (pe_callB call_isi (by rfl) T.z_isinstance (by decide +kernel) (pa_cons (pv 0) (pa_cons (pe_bltn (v := .ty "tuple") (u := .type "tuple") (by rfl) T.z_tuple (by decide +kernel) rfl) pa_nil))) (by intro _; rfl))) (pw_or1 (pt_cmpR (op_neA hr.units) (pe_callB call_len (by rfl) T.z_len (by decide +kernel) (pa_cons (pv 0) pa_nil)) pe_int (nomark _)))))
(pss_one (ps_ret pe_bl))
pss_nil)
(pss_cons (ps_if (PW.pt (pw_or (pt_not (pt_truth (pe_call G_law_is_number hr_law_is_number (by rfl) T.g_law_is_number T.F_law_is_number.kp T.b_law_is_number .nil pass0 (pa_cons (pe_ix ix_seq (pv 0) pe_int (fun _ _ => rfl)) (pa_cons pe_int (pa_cons pe_int pa_nil)))) (by intro _; rfl))) (pw_or1 (pt_not (pt_truth (pe_call G_law_is_number hr_law_is_number (by rfl) T.g_law_is_number T.F_law_is_number.kp T.b_law_is_number .nil pass0 (pa_cons (pe_ix ix_seq (pv 0) pe_int (fun _ _ => rfl)) (pa_cons pe_int (pa_cons (pe_op op_sub pe_int (pe_ix ix_seq (pv 0) pe_int (fun _ _ => rfl))) pa_nil)))) (by intro _; rfl))))))
(pss_one (ps_ret pe_bl))
pss_nil)
(pss_cons (ps_if (PW.pt (pw_or (pt_not (pt_truth (pe_callB call_isi (by rfl) T.z_isinstance (by decide +kernel) (pa_cons (pe_ix ix_seq (pv 0) pe_int (fun _ _ => rfl)) (pa_cons (pe_bltn (v := .ty "str") (u := .type "str") (by rfl) T.z_str (by decide +kernel) rfl) pa_nil))) (by intro _; rfl))) (pw_or1 (PW.pt (pw_and (pt_cmpR (op_neA hr.units) (pe_ix ix_seq (pv 0) pe_int (fun _ _ => rfl)) pe_str (nomark _)) (pw_and1 (pt_cmpR (op_neA hr.units) (pe_ix ix_seq (pv 0) pe_int (fun _ _ => rfl)) pe_str (nomark _))))))))
(pss_one (ps_ret pe_bl))
pss_nil)
(pss_one (ps_ret (pe_call G_law_is_number hr_law_is_number (by rfl) T.g_law_is_number T.F_law_is_number.kp T.b_law_is_number .nil pass0 (pa_cons (pe_ix ix_seq (pv 0) pe_int (fun _ _ => rfl)) (pa_cons pe_int (pa_cons pe_int pa_nil))))))))), fn_body (N := n_law_is_region) (C := cx T) (b := b_law_is_region)
    (ss_seq (ss_if (st_or (st_not (st_tru (se_cb sc_isi (sa_cons (se_var 0) (sa_cons se_con sa_nil))))) (st_test (se_op s2_neA (se_cb sc_len (sa_cons (se_var 0) sa_nil)) se_int)))
(ss_ret se_bl)
ss_next)
(ss_seq (ss_if (st_or (st_not (st_tru (se_call (m := 3) (sa_cons (se_op s2_ix (se_var 0) se_int) (sa_cons se_int (sa_cons se_int sa_nil)))))) (st_not (st_tru (se_call (m := 3) (sa_cons (se_op s2_ix (se_var 0) se_int) (sa_cons se_int (sa_cons (se_op s2_sub se_int (se_op s2_ix (se_var 0) se_int)) sa_nil)))))))
(ss_ret se_bl)
ss_next)
(ss_seq (ss_if (st_or (st_not (st_tru (se_cb sc_isi (sa_cons (se_op s2_ix (se_var 0) se_int) (sa_cons se_con sa_nil))))) (st_and (st_test (se_op s2_neA (se_op s2_ix (se_var 0) se_int) se_str)) (st_test (se_op s2_neA (se_op s2_ix (se_var 0) se_int) se_str))))
(ss_ret se_bl)
ss_next)
(ss_ret (se_call (m := 3) (sa_cons (se_op s2_ix (se_var 0) se_int) (sa_cons se_int (sa_cons se_int sa_nil)))))))) h rfl⟩
theorem ok_law_other (T : Tx w K mg) (B_is_instruction : LamX.TabB base mg T.cc_is_instruction T.P_is_instruction) (B_is_code : LamX.TabB base mg T.cc_is_code T.P_is_code) (B_is_memory : LamX.TabB base mg T.cc_is_memory T.P_is_memory) : FnOk P w K mg base CX0 2 T.a_law_other T.d_law_other ["source"] (spOf (cx T) 1 wp_law_other) := by
  have G_law_draw := ok_law_draw (P := P) (w := w) (base := base) T B_is_instruction B_is_code B_is_memory
  refine T.F_law_other.ok sc_law_other (fun vs H Q E h => spOf_len h) (fun cdv A outer s H vs Q E hr h => ?_)
  have hr_law_draw : Room 1 _ := hr.mono (by decide)
  rw [eq_law_other] at h
  exact ⟨_, (pss_cons (ps_set (i := 1) sc_law_other.nd rfl (.inl rfl) (pe_call G_law_draw hr_law_draw (by rfl) T.g_law_draw T.F_law_draw.kp T.b_law_draw .nil pass0 (pa_cons (pv 0) (pa_cons pe_int pa_nil))))
(pss_cons (ps_if (pt_cmpR op_lt (pv 1) pe_int (nomark _))
(pss_one (ps_ret (pe_ix ix_seq (pe_lst (pa_cons (pe_un un_neg pe_int) (pa_cons pe_int (pa_cons pe_int (pa_cons pe_int (pa_cons pe_bl (pa_cons pe_non pa_nil))))))) (pv 1) (fun _ _ => rfl))))
pss_nil)
(pss_cons (ps_if (pt_cmpR (op_eqA hr.units) (pv 1) pe_int (nomark _))
(pss_one (ps_ret (pe_ix ix_seq (pe_lst (pa_cons pe_str (pa_cons pe_str (pa_cons pe_str (pa_cons pe_str (pa_cons pe_str pa_nil)))))) (pe_call G_law_draw hr_law_draw (by rfl) T.g_law_draw T.F_law_draw.kp T.b_law_draw .nil pass0 (pa_cons (pv 0) (pa_cons pe_int pa_nil))) (fun _ _ => rfl))))
pss_nil)
(pss_cons (ps_if (pt_cmpR (op_eqA hr.units) (pv 1) pe_int (nomark _))
(pss_one (ps_ret (pe_ix ix_seq (pe_lst (pa_cons (pe_tup pa_nil) (pa_cons (pe_lst pa_nil) (pa_cons pe_str (pa_cons pe_bl pa_nil))))) (pe_call G_law_draw hr_law_draw (by rfl) T.g_law_draw T.F_law_draw.kp T.b_law_draw .nil pass0 (pa_cons (pv 0) (pa_cons pe_int pa_nil))) (fun _ _ => rfl))))
pss_nil)
(pss_one (ps_ret (pe_call G_law_draw hr_law_draw (by rfl) T.g_law_draw T.F_law_draw.kp T.b_law_draw .nil pass0 (pa_cons (pv 0) (pa_cons pe_int pa_nil))))))))), fn_body (N := n_law_other) (C := cx T) (b := b_law_other)
    (ss_seq (ss_asg (se_call (m := 2) (sa_cons (se_var 0) (sa_cons se_int sa_nil))) sg_name)
(ss_seq (ss_if (st_test (se_op s2_lt (se_var 1) se_int))
(ss_ret (se_op s2_ix (se_ro (n := 6) (sa_cons (se_un s1_neg se_int) (sa_cons se_int (sa_cons se_int (sa_cons se_int (sa_cons se_bl (sa_cons se_non sa_nil)))))) (by decide)) (se_var 1)))
ss_next)
(ss_seq (ss_if (st_test (se_op s2_eqA (se_var 1) se_int))
(ss_ret (se_op s2_ix (se_ro (n := 5) (sa_cons se_str (sa_cons se_str (sa_cons se_str (sa_cons se_str (sa_cons se_str sa_nil))))) (by decide)) (se_call (m := 2) (sa_cons (se_var 0) (sa_cons se_int sa_nil)))))
ss_next)
(ss_seq (ss_if (st_test (se_op s2_eqA (se_var 1) se_int))
(ss_ret (se_op s2_ix (se_ro (n := 4) (sa_cons (se_tup (n := 0) sa_nil (by decide)) (sa_cons (se_lst (n := 0) sa_nil (by decide)) (sa_cons se_str (sa_cons se_bl sa_nil)))) (by decide)) (se_call (m := 2) (sa_cons (se_var 0) (sa_cons se_int sa_nil)))))
ss_next)
(ss_ret (se_call (m := 2) (sa_cons (se_var 0) (sa_cons se_int sa_nil)))))))) h rfl⟩
theorem ok_law_memory (T : Tx w K mg) (B_is_instruction : LamX.TabB base mg T.cc_is_instruction T.P_is_instruction) (B_is_code : LamX.TabB base mg T.cc_is_code T.P_is_code) (B_is_memory : LamX.TabB base mg T.cc_is_memory T.P_is_memory) : FnOk P w K mg base CX0 2 T.a_law_memory T.d_law_memory ["source", "layout"] (spOf (cx T) 2 wp_law_memory) := by
  have G_law_draw := ok_law_draw (P := P) (w := w) (base := base) T B_is_instruction B_is_code B_is_memory
  refine T.F_law_memory.ok sc_law_memory (fun vs H Q E h => spOf_len h) (fun cdv A outer s H vs Q E hr h => ?_)
  have hr_law_draw : Room 1 _ := hr.mono (by decide)
  rw [eq_law_memory] at h
  exact ⟨_, (pss_cons (ps_set (i := 2) sc_law_memory.nd rfl (.inl rfl) pe_int)
(pss_cons (ps_set (i := 3) sc_law_memory.nd rfl (.inl rfl) (pe_lst pa_nil))
(pss_cons (ps_for PassesOwn.never rfl (pi_seqA (pv 1)) (pg_tup rfl (pgs_cons (pg_name (i := 4) sc_law_memory.nd rfl (.inl rfl)) (pgs_cons (pg_name (i := 5) sc_law_memory.nd rfl (.inl rfl)) (pgs_cons (pg_name (i := 6) sc_law_memory.nd rfl (.inl rfl)) (pgs_cons (pg_name (i := 7) sc_law_memory.nd rfl (.inr rfl)) pgs_nil)))))
(pss_cons (ps_set (i := 3) sc_law_memory.nd rfl (.inl rfl) (pe_op op_addA (pv 3) (pe_op op_mulA (pe_lst (pa_cons (pe_call G_law_draw hr_law_draw (by rfl) T.g_law_draw T.F_law_draw.kp T.b_law_draw .nil pass0 (pa_cons (pv 0) (pa_cons pe_int pa_nil))) pa_nil)) (pe_op op_sub (pv 4) (pv 2)))))
(pss_cons (ps_set (i := 8) sc_law_memory.nd rfl (.inr rfl) (pe_call G_law_draw hr_law_draw (by rfl) T.g_law_draw T.F_law_draw.kp T.b_law_draw .nil pass0 (pa_cons (pv 0) (pa_cons pe_int pa_nil))))
(pss_cons (ps_set (i := 3) sc_law_memory.nd rfl (.inl rfl) (pe_op op_addA (pv 3) (pe_lc (own := [("k", 9)]) (g := gName 9) rfl sc_law_memory.nd (pi_range1 rfl T.z_range (pa_cons (pv 5) pa_nil)) (blkOk_by (N := n_law_memory) (sc := defScope s_law_memory) (by decide +kernel)) (fun _ _ _ _ _ => (pg_name (i := 9) sc_law_memory.nd rfl (Or.inl rfl))) (fun _ _ _ _ _ => pts_nil) (fun _ _ _ _ _ => (pe_ix (show IxR _ (rIx K) from ix_seq) (pe_lst (pa_cons (pv 7) (pa_cons pe_int (pa_cons (pe_call G_law_draw hr_law_draw (by rfl) T.g_law_draw T.F_law_draw.kp T.b_law_draw .nil pass0 (pa_cons (pv 0) (pa_cons (pe_op (show OpR _ _ (rAddA K) from op_addA) (pv 7) pe_int) pa_nil))) pa_nil)))) (pv 8) (fun _ _ => rfl))))))
(pss_one (ps_set (i := 2) sc_law_memory.nd rfl (.inl rfl) (pe_op op_addA (pv 4) (pv 5))))))))
(pss_one (ps_ret (pv 3)))))), fn_body (N := n_law_memory) (C := cx T) (b := b_law_memory)
    (ss_seq (ss_asg se_int sg_name)
(ss_seq (ss_asg (se_lst (n := 0) sa_nil (by decide)) sg_name)
(ss_seq (ss_for (si_seqA (se_var 1)) (sg_tup (sgs_cons sg_name (sgs_cons sg_name (sgs_cons sg_name (sgs_cons sg_name sgs_nil)))))
(ss_seq (ss_asg (se_op s2_addA (se_var 3) (se_op s2_mulAA (se_lst (n := 1) (sa_cons (se_call (m := 2) (sa_cons (se_var 0) (sa_cons se_int sa_nil))) sa_nil) (by decide)) (se_op s2_sub (se_var 4) (se_var 2)))) sg_name)
(ss_seq (ss_asg (se_call (m := 2) (sa_cons (se_var 0) (sa_cons se_int sa_nil))) sg_name)
(ss_seq (ss_asg (se_op s2_addA (se_var 3) (se_lc (si_rng1 (sa_cons (se_var 5) sa_nil)) sg_name (kw_name (by decide)) st_yes (se_op s2_ix (se_ro (n := 3) (sa_cons (se_var 7) (sa_cons se_int (sa_cons (se_call (m := 2) (sa_cons (se_var 0) (sa_cons (se_op s2_addA (se_var 7) se_int) sa_nil))) sa_nil))) (by decide)) (se_var 8)))) sg_name)
(ss_asg (se_op s2_addA (se_var 4) (se_var 5)) sg_name)))))
(ss_ret (se_var 3))))) h rfl⟩
theorem ok_law_is_memory (T : Tx w K mg) (B_is_instruction : LamX.TabB base mg T.cc_is_instruction T.P_is_instruction) (B_is_code : LamX.TabB base mg T.cc_is_code T.P_is_code) (B_is_memory : LamX.TabB base mg T.cc_is_memory T.P_is_memory) : FnOk P w K mg base CX0 2 T.a_law_is_memory T.d_law_is_memory ["layout", "value"] (spOf (cx T) 2 wp_law_is_memory) := by
  have G_law_is_number := ok_law_is_number (P := P) (w := w) (base := base) T B_is_instruction B_is_code B_is_memory
  refine T.F_law_is_memory.ok sc_law_is_memory (fun vs H Q E h => spOf_len h) (fun cdv A outer s H vs Q E hr h => ?_)
  have hr_law_is_number : Room 1 _ := hr.mono (by decide)
  rw [eq_law_is_memory] at h
  exact ⟨_, (pss_cons (ps_set (i := 2) sc_law_is_memory.nd rfl (.inl rfl) pe_int)
(pss_cons (ps_if (pt_cmpR op_gt (pe_callB call_len (by rfl) T.z_len (by decide +kernel) (pa_cons (pv 0) pa_nil)) pe_int (nomark _))
(pss_one (ps_set (i := 2) sc_law_is_memory.nd rfl (.inl rfl) (pe_op op_addA (pe_ix ix_seq (pe_ix ix_seq (pv 0) (pe_un un_neg pe_int) (fun _ _ => rfl)) pe_int (fun _ _ => rfl)) (pe_ix ix_seq (pe_ix ix_seq (pv 0) (pe_un un_neg pe_int) (fun _ _ => rfl)) pe_int (fun _ _ => rfl)))))
pss_nil)
(pss_cons (ps_if (PW.pt (pw_or (pt_not (pt_truth (pe_callB call_isi (by rfl) T.z_isinstance (by decide +kernel) (pa_cons (pv 1) (pa_cons (pe_bltn (v := .ty "list") (u := .type "list") (by rfl) T.z_list (by decide +kernel) rfl) pa_nil))) (by intro _; rfl))) (pw_or1 (pt_cmpR (op_neA hr.units) (pe_callB call_len (by rfl) T.z_len (by decide +kernel) (pa_cons (pv 1) pa_nil)) (pv 2) (nomark _)))))
(pss_one (ps_ret pe_bl))
pss_nil)
(pss_cons (ps_for PassesOwn.never rfl (pi_seqA (pv 1)) (pg_name (i := 3) sc_law_is_memory.nd rfl (.inl rfl))
(pss_one (ps_if (pt_not (pt_truth (pe_call G_law_is_number hr_law_is_number (by rfl) T.g_law_is_number T.F_law_is_number.kp T.b_law_is_number .nil pass0 (pa_cons (pv 3) (pa_cons pe_int (pa_cons pe_int pa_nil)))) (by intro _; rfl)))
(pss_one (ps_ret pe_bl))
pss_nil)))
(pss_cons (ps_for PassesOwn.never rfl (pi_seqA (pv 0)) (pg_tup rfl (pgs_cons (pg_name (i := 4) sc_law_is_memory.nd rfl (.inl rfl)) (pgs_cons (pg_name (i := 5) sc_law_is_memory.nd rfl (.inl rfl)) (pgs_cons (pg_name (i := 6) sc_law_is_memory.nd rfl (.inl rfl)) (pgs_cons (pg_name (i := 7) sc_law_is_memory.nd rfl (.inl rfl)) pgs_nil)))))
(pss_one (ps_if (pt_cmpR op_gt (pe_callB (cr_max rfl) (by rfl) T.z_max (by decide +kernel) (pa_cons (pe_slice sl_any (pv 1) (po_some (pv 4)) (po_some (pe_op op_addA (pv 4) (pv 5)))) pa_nil)) (pv 7) (nomark _))
(pss_one (ps_ret pe_bl))
pss_nil)))
(pss_one (ps_ret pe_bl))))))), fn_body (N := n_law_is_memory) (C := cx T) (b := b_law_is_memory)
    (ss_seq (ss_asg se_int sg_name)
(ss_seq (ss_if (st_test (se_op s2_gt (se_cb sc_len (sa_cons (se_var 0) sa_nil)) se_int))
(ss_asg (se_op s2_addA (se_op s2_ix (se_op s2_ix (se_var 0) (se_un s1_neg se_int)) se_int) (se_op s2_ix (se_op s2_ix (se_var 0) (se_un s1_neg se_int)) se_int)) sg_name)
ss_next)
(ss_cut eqc_law_is_memory_1
(ss_seq (ss_if (st_or (st_not (st_tru (se_cb sc_isi (sa_cons (se_var 1) (sa_cons se_con sa_nil))))) (st_test (se_op s2_neA (se_cb sc_len (sa_cons (se_var 1) sa_nil)) (se_var 2))))
(ss_ret se_bl)
ss_next)
(ss_seq (ss_for (si_seqA (se_var 1)) sg_name
(ss_if (st_not (st_tru (se_call (m := 3) (sa_cons (se_var 3) (sa_cons se_int (sa_cons se_int sa_nil))))))
(ss_ret se_bl)
ss_next))
(ss_seq (ss_for (si_seqA (se_var 0)) (sg_tup (sgs_cons sg_name (sgs_cons sg_name (sgs_cons sg_name (sgs_cons sg_name sgs_nil)))))
(ss_if (st_test (se_op s2_gt (se_cb sc_max1 (sa_cons (se_sl ssl_A (se_var 1) (so_some (se_var 4)) (so_some (se_op s2_addA (se_var 4) (se_var 5)))) sa_nil)) (se_var 7)))
(ss_ret se_bl)
ss_next))
(ss_ret se_bl))))))) h rfl⟩
theorem ok_is_instruction (T : Tx w K mg) (B_is_instruction : LamX.TabB base mg T.cc_is_instruction T.P_is_instruction) (B_is_code : LamX.TabB base mg T.cc_is_code T.P_is_code) (B_is_memory : LamX.TabB base mg T.cc_is_memory T.P_is_memory) : FnOk P w K mg base CX0 3 T.a_is_instruction T.d_is_instruction ["value"] (spOf (cx T) 1 wp_is_instruction) := by
  have G_is_integer := ok_is_integer (P := P) (w := w) (base := base) T B_is_instruction B_is_code B_is_memory
  refine T.F_is_instruction.ok sc_is_instruction (fun vs H Q E h => spOf_len h) (fun A outer s H vs Q E hr h => ?_)
  have hr_is_integer : Room 1 _ := hr.mono (by decide)
  rw [eq_is_instruction] at h
  exact ⟨_, (pss_cons (ps_if (PW.pt (pw_or (pt_not (pt_truth (pe_callB call_isi (by rfl) T.z_isinstance (by decide +kernel) (pa_cons (pv 0) (pa_cons (pe_bltn (v := .ty "tuple") (u := .type "tuple") (by rfl) T.z_tuple (by decide +kernel) rfl) pa_nil))) (by intro _; rfl))) (pw_or (pt_cmpR (op_eqA hr.units) (pe_callB call_len (by rfl) T.z_len (by decide +kernel) (pa_cons (pv 0) pa_nil)) pe_int (nomark _)) (pw_or1 (pt_not (pt_truth (pe_callB call_isi (by rfl) T.z_isinstance (by decide +kernel) (pa_cons (pe_ix ix_seq (pv 0) pe_int (fun _ _ => rfl)) (pa_cons (pe_bltn (v := .ty "str") (u := .type "str") (by rfl) T.z_str (by decide +kernel) rfl) pa_nil))) (by intro _; rfl)))))))
(pss_one (ps_ret pe_bl))
pss_nil)
(pss_cons (ps_if (pt_cmpR (op_notIn_kd T.D_NUMBERS) (pe_ix ix_seq (pv 0) pe_int (fun _ _ => rfl)) (pe_glob rfl T.g_NUMBERS T.r_NUMBERS) (by rfl))
(pss_one (ps_ret pe_bl))
pss_nil)
(pss_cons (ps_set (i := 1) sc_is_instruction.nd rfl (.inl rfl) (pe_ix ix_kdict (pe_glob rfl T.g_NUMBERS T.r_NUMBERS) (pe_ix ix_seq (pv 0) pe_int (fun _ _ => rfl)) (fun _ _ => rfl)))
(pss_cons (ps_if (pt_cmpR (op_neA hr.units) (pe_callB call_len (by rfl) T.z_len (by decide +kernel) (pa_cons (pv 0) pa_nil)) (pe_op op_addA (pe_callB call_len (by rfl) T.z_len (by decide +kernel) (pa_cons (pv 1) pa_nil)) pe_int) (nomark _))
(pss_one (ps_ret pe_bl))
pss_nil)
(pss_one (ps_ret (GA.pe_all (own := [("kind", 2), ("number", 3)]) hr rfl sc_is_instruction.nd (by rfl) T.z_all (by decide +kernel) B_is_instruction rfl (ZG.pi_zipG rfl T.z_zip (pa_cons (pv 1) (pa_cons (pe_slice sl_any (pv 0) (po_some pe_int) po_none) pa_nil))) (GA.genOk_by (N := n_is_instruction) (sc := defScope s_is_instruction) (by decide +kernel)) (fun _ _ _ _ _ _ => (show PG _ _ (gTup K 2 (gCons (gName 2) (gCons (gName 3) gNil))) from pg_tup rfl (pgs_cons (pg_name (i := 2) sc_is_instruction.nd rfl (Or.inl rfl)) (pgs_cons (pg_name (i := 3) sc_is_instruction.nd rfl (Or.inl rfl)) pgs_nil)))) (fun _ _ _ _ _ _ hr => have hr_is_integer : Room 1 _ := hr.mono (by decide); (pe_call G_is_integer hr_is_integer (by rfl) T.g_is_integer T.F_is_integer.kp T.b_is_integer .nil pass0 (pa_cons (pv 3) (pa_cons pe_int (pa_cons (pe_ix (show IxR _ (rIxD K w) from ix_kdict) (pe_glob rfl T.g_GREATEST T.r_GREATEST) (pv 2) (fun _ _ => rfl)) pa_nil)))))))))))), fn_body (N := n_is_instruction) (C := cx T) (b := b_is_instruction)
    (ss_seq (ss_if (st_or (st_not (st_tru (se_cb sc_isi (sa_cons (se_var 0) (sa_cons se_con sa_nil))))) (st_or (st_test (se_op s2_eqA (se_cb sc_len (sa_cons (se_var 0) sa_nil)) se_int)) (st_not (st_tru (se_cb sc_isi (sa_cons (se_op s2_ix (se_var 0) se_int) (sa_cons se_con sa_nil)))))))
(ss_ret se_bl)
ss_next)
(ss_seq (ss_if (st_test (se_knotin T.kit_NUMBERS rfl (se_op s2_ix (se_var 0) se_int)))
(ss_ret se_bl)
ss_next)
(ss_seq (ss_asg (se_kix T.D_NUMBERS T.kit_NUMBERS (se_op s2_ix (se_var 0) se_int)) sg_name)
(ss_seq (ss_if (st_test (se_op s2_neA (se_cb sc_len (sa_cons (se_var 0) sa_nil)) (se_op s2_addA (se_cb sc_len (sa_cons (se_var 1) sa_nil)) se_int)))
(ss_ret se_bl)
ss_next)
(ss_ret (se_all (by simp) (si_zip (sa_cons (se_var 1) (sa_cons (se_sl ssl_A (se_var 0) (so_some se_int) so_none) sa_nil))) (sg_tup (sgs_cons sg_name (sgs_cons sg_name sgs_nil))) (kw_tup (kws_cons (kw_name (by decide)) (kws_cons (kw_name (by decide)) kws_nil mono_name monos_nil) mono_name (monos_cons mono_name monos_nil))) (se_call (m := 3) (sa_cons (se_var 3) (sa_cons se_int (sa_cons (se_kix T.D_GREATEST T.kit_GREATEST (se_var 2)) sa_nil)))))))))) h rfl⟩
theorem ok_is_layout (T : Tx w K mg) (B_is_instruction : LamX.TabB base mg T.cc_is_instruction T.P_is_instruction) (B_is_code : LamX.TabB base mg T.cc_is_code T.P_is_code) (B_is_memory : LamX.TabB base mg T.cc_is_memory T.P_is_memory) : FnOk P w K mg base CX0 3 T.a_is_layout T.d_is_layout ["value"] (spOf (cx T) 1 wp_is_layout) := by
  have G_is_region := ok_is_region (P := P) (w := w) (base := base) T B_is_instruction B_is_code B_is_memory
  have G_region_end := ok_region_end (P := P) (w := w) (base := base) T B_is_instruction B_is_code B_is_memory
  refine T.F_is_layout.ok sc_is_layout (fun vs H Q E h => spOf_len h) (fun cdv A outer s H vs Q E hr h => ?_)
  have hr_is_region : Room 2 _ := hr.mono (by decide)
  have hr_region_end : Room 1 _ := hr.mono (by decide)
  rw [eq_is_layout] at h
  exact ⟨_, (pss_cons (ps_if (PW.pt (pw_or (pt_not (pt_truth (pe_callB call_isi (by rfl) T.z_isinstance (by decide +kernel) (pa_cons (pv 0) (pa_cons (pe_bltn (v := .ty "tuple") (u := .type "tuple") (by rfl) T.z_tuple (by decide +kernel) rfl) pa_nil))) (by intro _; rfl))) (pw_or1 (pt_cmpR op_gt (pe_callB call_len (by rfl) T.z_len (by decide +kernel) (pa_cons (pv 0) pa_nil)) (pe_glob rfl T.g_MOST_REGIONS T.r_MOST_REGIONS) (nomark _)))))
(pss_one (ps_ret pe_bl))
pss_nil)
(pss_cons (ps_set (i := 1) sc_is_layout.nd rfl (.inl rfl) pe_int)
(pss_cons (ps_for PassesOwn.never rfl (pi_seqA (pv 0)) (pg_name (i := 2) sc_is_layout.nd rfl (.inl rfl))
(pss_cons (ps_if (PW.pt (pw_or (pt_not (pt_truth (pe_call G_is_region hr_is_region (by rfl) T.g_is_region T.F_is_region.kp T.b_is_region .nil pass0 (pa_cons (pv 2) pa_nil)) (by intro _; rfl))) (pw_or1 (pt_cmpR op_lt (pe_ix ix_seq (pv 2) pe_int (fun _ _ => rfl)) (pv 1) (nomark _)))))
(pss_one (ps_ret pe_bl))
pss_nil)
(pss_one (ps_set (i := 1) sc_is_layout.nd rfl (.inl rfl) (pe_call G_region_end hr_region_end (by rfl) T.g_region_end T.F_region_end.kp T.b_region_end .nil pass0 (pa_cons (pv 2) pa_nil))))))
(pss_one (ps_ret pe_bl))))), fn_body (N := n_is_layout) (C := cx T) (b := b_is_layout)
    (ss_seq (ss_if (st_or (st_not (st_tru (se_cb sc_isi (sa_cons (se_var 0) (sa_cons se_con sa_nil))))) (st_test (se_op s2_gt (se_cb sc_len (sa_cons (se_var 0) sa_nil)) se_int)))
(ss_ret se_bl)
ss_next)
(ss_seq (ss_asg se_int sg_name)
(ss_seq (ss_for (si_seqA (se_var 0)) sg_name
(ss_seq (ss_if (st_or (st_not (st_tru (se_call (m := 1) (sa_cons (se_var 2) sa_nil)))) (st_test (se_op s2_lt (se_op s2_ix (se_var 2) se_int) (se_var 1))))
(ss_ret se_bl)
ss_next)
(ss_asg (se_call (m := 1) (sa_cons (se_var 2) sa_nil)) sg_name)))
(ss_ret se_bl)))) h rfl⟩
theorem ok_law_is_layout (T : Tx w K mg) (B_is_instruction : LamX.TabB base mg T.cc_is_instruction T.P_is_instruction) (B_is_code : LamX.TabB base mg T.cc_is_code T.P_is_code) (B_is_memory : LamX.TabB base mg T.cc_is_memory T.P_is_memory) : FnOk P w K mg base CX0 3 T.a_law_is_layout T.d_law_is_layout ["value"] (spOf (cx T) 1 wp_law_is_layout) := by
  have G_law_is_region := ok_law_is_region (P := P) (w := w) (base := base) T B_is_instruction B_is_code B_is_memory
  refine T.F_law_is_layout.ok sc_law_is_layout (fun vs H Q E h => spOf_len h) (fun cdv A outer s H vs Q E hr h => ?_)
  have hr_law_is_region : Room 2 _ := hr.mono (by decide)
  rw [eq_law_is_layout] at h
  exact ⟨_, (pss_cons (ps_if (PW.pt (pw_or (pt_not (pt_truth (pe_callB call_isi (by rfl) T.z_isinstance (by decide +kernel) (pa_cons (pv 0) (pa_cons (pe_bltn (v := .ty "tuple") (u := .type "tuple") (by rfl) T.z_tuple (by decide +kernel) rfl) pa_nil))) (by intro _; rfl))) (pw_or1 (pt_cmpR op_gt (pe_callB call_len (by rfl) T.z_len (by decide +kernel) (pa_cons (pv 0) pa_nil)) pe_int (nomark _)))))
(pss_one (ps_ret pe_bl))
pss_nil)
(pss_cons (ps_for PassesOwn.never rfl (pi_seqA (pv 0)) (pg_name (i := 1) sc_law_is_layout.nd rfl (.inl rfl))
(pss_one (ps_if (pt_not (pt_truth (pe_call G_law_is_region hr_law_is_region (by rfl) T.g_law_is_region T.F_law_is_region.kp T.b_law_is_region .nil pass0 (pa_cons (pv 1) pa_nil)) (by intro _; rfl)))
(pss_one (ps_ret pe_bl))
pss_nil)))
(pss_cons (ps_for PassesOwn.never rfl (pi_range1 rfl T.z_range (pa_cons (pe_callB call_len (by rfl) T.z_len (by decide +kernel) (pa_cons (pv 0) pa_nil)) pa_nil)) (pg_name (i := 2) sc_law_is_layout.nd rfl (.inl rfl))
(pss_one (ps_if (PW.pt (pw_and (pt_cmpR op_gt (pv 2) pe_int (nomark _)) (pw_and1 (pt_cmpR op_lt (pe_ix ix_seq (pe_ix ix_seq (pv 0) (pv 2) (fun _ _ => rfl)) pe_int (fun _ _ => rfl)) (pe_op op_addA (pe_ix ix_seq (pe_ix ix_seq (pv 0) (pe_op op_sub (pv 2) pe_int) (fun _ _ => rfl)) pe_int (fun _ _ => rfl)) (pe_ix ix_seq (pe_ix ix_seq (pv 0) (pe_op op_sub (pv 2) pe_int) (fun _ _ => rfl)) pe_int (fun _ _ => rfl))) (nomark _)))))
(pss_one (ps_ret pe_bl))
pss_nil)))
(pss_one (ps_ret pe_bl))))), fn_body (N := n_law_is_layout) (C := cx T) (b := b_law_is_layout)
    (ss_seq (ss_if (st_or (st_not (st_tru (se_cb sc_isi (sa_cons (se_var 0) (sa_cons se_con sa_nil))))) (st_test (se_op s2_gt (se_cb sc_len (sa_cons (se_var 0) sa_nil)) se_int)))
(ss_ret se_bl)
ss_next)
(ss_seq (ss_for (si_seqA (se_var 0)) sg_name
(ss_if (st_not (st_tru (se_call (m := 1) (sa_cons (se_var 1) sa_nil))))
(ss_ret se_bl)
ss_next))
(ss_seq (ss_for (si_rng1 (sa_cons (se_cb sc_len (sa_cons (se_var 0) sa_nil)) sa_nil)) sg_name
(ss_if (st_and (st_test (se_op s2_gt (se_var 2) se_int)) (st_test (se_op s2_lt (se_op s2_ix (se_op s2_ix (se_var 0) (se_var 2)) se_int) (se_op s2_addA (se_op s2_ix (se_op s2_ix (se_var 0) (se_op s2_sub (se_var 2) se_int)) se_int) (se_op s2_ix (se_op s2_ix (se_var 0) (se_op s2_sub (se_var 2) se_int)) se_int)))))
(ss_ret se_bl)
ss_next))
(ss_ret se_bl)))) h rfl⟩
theorem ok_law_changed (T : Tx w K mg) (B_is_instruction : LamX.TabB base mg T.cc_is_instruction T.P_is_instruction) (B_is_code : LamX.TabB base mg T.cc_is_code T.P_is_code) (B_is_memory : LamX.TabB base mg T.cc_is_memory T.P_is_memory) : FnOk P w K mg base CX0 3 T.a_law_changed T.d_law_changed ["source", "layout"] (spOf (cx T) 2 wp_law_changed) := by
  have G_law_draw := ok_law_draw (P := P) (w := w) (base := base) T B_is_instruction B_is_code B_is_memory
  have G_law_other := ok_law_other (P := P) (w := w) (base := base) T B_is_instruction B_is_code B_is_memory
  refine T.F_law_changed.ok sc_law_changed (fun vs H Q E h => spOf_len h) (fun cdv A outer s H vs Q E hr h => ?_)
  have hr_law_draw : Room 1 _ := hr.mono (by decide)
  have hr_law_other : Room 2 _ := hr.mono (by decide)
  rw [eq_law_changed] at h
  exact ⟨_, (pss_cons (ps_if (pt_cmpR (op_eqA hr.units) (pe_callB call_len (by rfl) T.z_len (by decide +kernel) (pa_cons (pv 1) pa_nil)) pe_int (nomark _))
(pss_one (ps_ret (pe_lst (pa_cons (pe_call G_law_other hr_law_other (by rfl) T.g_law_other T.F_law_other.kp T.b_law_other .nil pass0 (pa_cons (pv 0) pa_nil)) pa_nil))))
pss_nil)
(pss_cons (ps_set (i := 2) sc_law_changed.nd rfl (.inl rfl) (pe_callTy call_list_of (by rfl) T.z_list (by decide +kernel) (pa_cons (pv 1) pa_nil)))
(pss_cons (ps_set (i := 3) sc_law_changed.nd rfl (.inl rfl) (pe_call G_law_draw hr_law_draw (by rfl) T.g_law_draw T.F_law_draw.kp T.b_law_draw .nil pass0 (pa_cons (pv 0) (pa_cons (pe_callB call_len (by rfl) T.z_len (by decide +kernel) (pa_cons (pv 2) pa_nil)) pa_nil))))
(pss_cons (ps_set (i := 4) sc_law_changed.nd rfl (.inl rfl) (pe_ix ix_seq (pv 2) (pv 3) (fun _ _ => rfl)))
(pss_cons (ps_set (i := 5) sc_law_changed.nd rfl (.inl rfl) (pe_call G_law_draw hr_law_draw (by rfl) T.g_law_draw T.F_law_draw.kp T.b_law_draw .nil pass0 (pa_cons (pv 0) (pa_cons pe_int pa_nil))))
(pss_cons (ps_set (i := 6) sc_law_changed.nd rfl (.inl rfl) (pe_call G_law_draw hr_law_draw (by rfl) T.g_law_draw T.F_law_draw.kp T.b_law_draw .nil pass0 (pa_cons (pv 0) (pa_cons pe_int pa_nil))))
(pss_cons (ps_if (pt_cmpR (op_eqA hr.units) (pv 5) pe_int (nomark _))
(pss_one (ps_asg (pe_op op_addA (pe_slice sl_any (pv 4) po_none (po_some (pv 6))) (pe_slice sl_any (pv 4) (po_some (pe_op op_addA (pv 6) pe_int)) po_none)) (pg_sub (pv 2) (pv 3) set_list)))
(pss_one (ps_if (pt_cmpR (op_eqA hr.units) (pv 5) pe_int (nomark _))
(pss_one (ps_asg (pe_callTy call_list_of (by rfl) T.z_list (by decide +kernel) (pa_cons (pv 4) pa_nil)) (pg_sub (pv 2) (pv 3) set_list)))
(pss_one (ps_if (pt_cmpR (op_eqA hr.units) (pv 5) pe_int (nomark _))
(pss_cons (ps_set (i := 7) sc_law_changed.nd rfl (.inl rfl) (pe_call G_law_draw hr_law_draw (by rfl) T.g_law_draw T.F_law_draw.kp T.b_law_draw .nil pass0 (pa_cons (pv 0) (pa_cons (pe_callB call_len (by rfl) T.z_len (by decide +kernel) (pa_cons (pv 2) pa_nil)) pa_nil))))
(pss_cons (ps_asg (pe_ix ix_seq (pv 2) (pv 7) (fun _ _ => rfl)) (pg_sub (pv 2) (pv 3) set_list))
(pss_one (ps_asg (pv 4) (pg_sub (pv 2) (pv 7) set_list)))))
(pss_one (ps_if (pt_cmpR (op_eqA hr.units) (pv 5) pe_int (nomark _))
(pss_one (ps_asg (pe_tup (pa_cons (pe_ix ix_seq (pv 4) pe_int (fun _ _ => rfl)) (pa_cons (pe_op op_addA (pe_ix ix_seq (pv 4) pe_int (fun _ _ => rfl)) pe_int) (pa_cons (pe_ix ix_seq (pv 4) pe_int (fun _ _ => rfl)) (pa_cons (pe_ix ix_seq (pv 4) pe_int (fun _ _ => rfl)) pa_nil))))) (pg_sub (pv 2) (pv 3) set_list)))
(pss_one (ps_if (pt_cmpR (op_eqA hr.units) (pv 5) pe_int (nomark _))
(pss_one (ps_asg (pe_tup (pa_cons (pe_op op_sub (pe_ix ix_seq (pv 4) pe_int (fun _ _ => rfl)) pe_int) (pa_cons (pe_ix ix_seq (pv 4) pe_int (fun _ _ => rfl)) (pa_cons (pe_ix ix_seq (pv 4) pe_int (fun _ _ => rfl)) (pa_cons (pe_ix ix_seq (pv 4) pe_int (fun _ _ => rfl)) pa_nil))))) (pg_sub (pv 2) (pv 3) set_list)))
(pss_one (ps_asg (pe_op op_addA (pe_op op_addA (pe_slice sl_any (pv 4) po_none (po_some (pv 6))) (pe_tup (pa_cons (pe_call G_law_other hr_law_other (by rfl) T.g_law_other T.F_law_other.kp T.b_law_other .nil pass0 (pa_cons (pv 0) pa_nil)) pa_nil))) (pe_slice sl_any (pv 4) (po_some (pe_op op_addA (pv 6) pe_int)) po_none)) (pg_sub (pv 2) (pv 3) set_list))))))))))))
(pss_one (ps_ret (pv 2)))))))))), fn_body (N := n_law_changed) (C := cx T) (b := b_law_changed)
    (ss_seq (ss_if (st_test (se_op s2_eqA (se_cb sc_len (sa_cons (se_var 1) sa_nil)) se_int))
(ss_ret (se_lst (n := 1) (sa_cons (se_call (m := 1) (sa_cons (se_var 0) sa_nil)) sa_nil) (by decide)))
ss_next)
(ss_seq (ss_asg (se_cb sc_list (sa_cons (se_var 1) sa_nil)) sg_name)
(ss_seq (ss_asg (se_call (m := 2) (sa_cons (se_var 0) (sa_cons (se_cb sc_len (sa_cons (se_var 2) sa_nil)) sa_nil))) sg_name)
(ss_seq (ss_asg (se_op s2_ix (se_var 2) (se_var 3)) sg_name)
(ss_seq (ss_asg (se_call (m := 2) (sa_cons (se_var 0) (sa_cons se_int sa_nil))) sg_name)
(ss_seq (ss_asg (se_call (m := 2) (sa_cons (se_var 0) (sa_cons se_int sa_nil))) sg_name)
(ss_seq (ss_if (st_test (se_op s2_eqA (se_var 5) se_int))
(ss_asg (se_op s2_addA (se_sl ssl_A (se_var 4) so_none (so_some (se_var 6))) (se_sl ssl_A (se_var 4) (so_some (se_op s2_addA (se_var 6) se_int)) so_none)) (sg_sub (se_var 2) (se_var 3)))
(ss_if (st_test (se_op s2_eqA (se_var 5) se_int))
(ss_asg (se_cb sc_list (sa_cons (se_var 4) sa_nil)) (sg_sub (se_var 2) (se_var 3)))
(ss_if (st_test (se_op s2_eqA (se_var 5) se_int))
(ss_seq (ss_asg (se_call (m := 2) (sa_cons (se_var 0) (sa_cons (se_cb sc_len (sa_cons (se_var 2) sa_nil)) sa_nil))) sg_name)
(ss_seq (ss_asg (se_op s2_ix (se_var 2) (se_var 7)) (sg_sub (se_var 2) (se_var 3)))
(ss_asg (se_var 4) (sg_sub (se_var 2) (se_var 7)))))
(ss_if (st_test (se_op s2_eqA (se_var 5) se_int))
(ss_asg (se_tup (n := 4) (sa_cons (se_op s2_ix (se_var 4) se_int) (sa_cons (se_op s2_addA (se_op s2_ix (se_var 4) se_int) se_int) (sa_cons (se_op s2_ix (se_var 4) se_int) (sa_cons (se_op s2_ix (se_var 4) se_int) sa_nil)))) (by decide)) (sg_sub (se_var 2) (se_var 3)))
(ss_if (st_test (se_op s2_eqA (se_var 5) se_int))
(ss_asg (se_tup (n := 4) (sa_cons (se_op s2_sub (se_op s2_ix (se_var 4) se_int) se_int) (sa_cons (se_op s2_ix (se_var 4) se_int) (sa_cons (se_op s2_ix (se_var 4) se_int) (sa_cons (se_op s2_ix (se_var 4) se_int) sa_nil)))) (by decide)) (sg_sub (se_var 2) (se_var 3)))
(ss_asg (se_op s2_addA (se_op s2_addA (se_sl ssl_A (se_var 4) so_none (so_some (se_var 6))) (se_tup (n := 1) (sa_cons (se_call (m := 1) (sa_cons (se_var 0) sa_nil)) sa_nil) (by decide))) (se_sl ssl_A (se_var 4) (so_some (se_op s2_addA (se_var 6) se_int)) so_none)) (sg_sub (se_var 2) (se_var 3))))))))
(ss_cut eqc_law_changed_1
(ss_ret (se_var 2)))))))))) h rfl⟩
theorem ok_law_regions_hold (T : Tx w K mg) (B_is_instruction : LamX.TabB base mg T.cc_is_instruction T.P_is_instruction) (B_is_code : LamX.TabB base mg T.cc_is_code T.P_is_code) (B_is_memory : LamX.TabB base mg T.cc_is_memory T.P_is_memory) : FnOk P w K mg base CX0 3 T.a_law_regions_hold T.d_law_regions_hold ["source", "layout"] (spOf (cx T) 2 wp_law_regions_hold) := by
  have G_law_draw := ok_law_draw (P := P) (w := w) (base := base) T B_is_instruction B_is_code B_is_memory
  have G_law_is_number := ok_law_is_number (P := P) (w := w) (base := base) T B_is_instruction B_is_code B_is_memory
  have G_layout_end := ok_layout_end (P := P) (w := w) (base := base) T B_is_instruction B_is_code B_is_memory
  have G_region_at := ok_region_at (P := P) (w := w) (base := base) T B_is_instruction B_is_code B_is_memory
  refine T.F_law_regions_hold.ok sc_law_regions_hold (fun vs H Q E h => spOf_len h) (fun cdv A outer s H vs Q E hr h => ?_)
  have hr_law_draw : Room 1 _ := hr.mono (by decide)
  have hr_law_is_number : Room 1 _ := hr.mono (by decide)
  have hr_layout_end : Room 2 _ := hr.mono (by decide)
  have hr_region_at : Room 2 _ := hr.mono (by decide)
  rw [eq_law_regions_hold] at h
  exact ⟨_, (pss_cons (ps_set (i := 2) sc_law_regions_hold.nd rfl (.inl rfl) (pe_call G_layout_end hr_layout_end (by rfl) T.g_layout_end T.F_layout_end.kp T.b_layout_end .nil pass0 (pa_cons (pv 1) pa_nil)))
(pss_cons (ps_set (i := 3) sc_law_regions_hold.nd rfl (.inl rfl) pe_int)
(pss_cons (ps_if (pt_cmpR op_gt (pe_callB call_len (by rfl) T.z_len (by decide +kernel) (pa_cons (pv 1) pa_nil)) pe_int (nomark _))
(pss_one (ps_set (i := 3) sc_law_regions_hold.nd rfl (.inl rfl) (pe_op op_addA (pe_ix ix_seq (pe_ix ix_seq (pv 1) (pe_un un_neg pe_int) (fun _ _ => rfl)) pe_int (fun _ _ => rfl)) (pe_ix ix_seq (pe_ix ix_seq (pv 1) (pe_un un_neg pe_int) (fun _ _ => rfl)) pe_int (fun _ _ => rfl)))))
pss_nil)
(pss_cons (ps_if (pt_not (pt_truth (pe_call G_law_is_number hr_law_is_number (by rfl) T.g_law_is_number T.F_law_is_number.kp T.b_law_is_number .nil pass0 (pa_cons (pv 2) (pa_cons (pv 3) (pa_cons (pv 3) pa_nil)))) (by intro _; rfl)))
(pss_one (ps_ret pe_bl))
pss_nil)
(pss_cons (ps_set (i := 4) sc_law_regions_hold.nd rfl (.inl rfl) (pe_lst (pa_cons (pe_un un_neg pe_int) (pa_cons pe_int (pa_cons (pe_op op_sub (pv 3) pe_int) (pa_cons (pv 3) (pa_cons (pe_op op_addA (pv 3) pe_int) (pa_cons (pe_call G_law_draw hr_law_draw (by rfl) T.g_law_draw T.F_law_draw.kp T.b_law_draw .nil pass0 (pa_cons (pv 0) (pa_cons pe_int pa_nil))) (pa_cons (pe_op op_pow pe_int pe_int) (pa_cons (pe_op op_sub pe_int (pe_call G_law_draw hr_law_draw (by rfl) T.g_law_draw T.F_law_draw.kp T.b_law_draw .nil pass0 (pa_cons (pv 0) (pa_cons pe_int pa_nil)))) pa_nil))))))))))
(pss_cons (ps_for PassesOwn.never rfl (pi_range1 rfl T.z_range (pa_cons pe_int pa_nil)) (pg_name (i := 5) sc_law_regions_hold.nd rfl (.inl rfl))
(pss_one (ps_if (pt_cmpR op_gt (pe_callB call_len (by rfl) T.z_len (by decide +kernel) (pa_cons (pv 1) pa_nil)) pe_int (nomark _))
(pss_cons (ps_set (i := 6) sc_law_regions_hold.nd rfl (.inl rfl) (pe_ix ix_seq (pv 1) (pe_call G_law_draw hr_law_draw (by rfl) T.g_law_draw T.F_law_draw.kp T.b_law_draw .nil pass0 (pa_cons (pv 0) (pa_cons (pe_callB call_len (by rfl) T.z_len (by decide +kernel) (pa_cons (pv 1) pa_nil)) pa_nil))) (fun _ _ => rfl)))
(pss_one (ps_set (i := 4) sc_law_regions_hold.nd rfl (.inl rfl) (pe_op op_addA (pv 4) (pe_lst (pa_cons (pe_op op_sub (pe_ix ix_seq (pv 6) pe_int (fun _ _ => rfl)) pe_int) (pa_cons (pe_ix ix_seq (pv 6) pe_int (fun _ _ => rfl)) (pa_cons (pe_op op_sub (pe_op op_addA (pe_ix ix_seq (pv 6) pe_int (fun _ _ => rfl)) (pe_ix ix_seq (pv 6) pe_int (fun _ _ => rfl))) pe_int) (pa_cons (pe_op op_addA (pe_ix ix_seq (pv 6) pe_int (fun _ _ => rfl)) (pe_ix ix_seq (pv 6) pe_int (fun _ _ => rfl))) pa_nil)))))))))
pss_nil)))
(pss_cons (ps_for PassesOwn.never rfl (pi_seqA (pv 4)) (pg_name (i := 7) sc_law_regions_hold.nd rfl (.inr rfl))
(pss_cons (ps_setLc (i := 8) (own := [("k", 5)]) (g := gName 5) (by rfl) sc_law_regions_hold.nd rfl rfl (sw_true rfl rfl rfl (by decide +kernel)) (pi_range1 rfl T.z_range (pa_cons (pe_callB call_len (by rfl) T.z_len (by decide +kernel) (pa_cons (pv 1) pa_nil)) pa_nil)) (blkOk_by (N := n_law_regions_hold) (sc := defScope s_law_regions_hold) (by decide +kernel)) (fun _ _ _ _ _ => (pg_name (i := 5) sc_law_regions_hold.nd rfl (Or.inl rfl))) (fun _ _ _ _ _ => pts_one (pt_chain op_le op_lt (pe_ix (show IxR _ (rIx K) from ix_seq) (pe_ix (show IxR _ (rIx K) from ix_seq) (pv 1) (pv 5) (fun _ _ => rfl)) pe_int (fun _ _ => rfl)) (pv 7) (pe_op (show OpR _ _ (rAddA K) from op_addA) (pe_ix (show IxR _ (rIx K) from ix_seq) (pe_ix (show IxR _ (rIx K) from ix_seq) (pv 1) (pv 5) (fun _ _ => rfl)) pe_int (fun _ _ => rfl)) (pe_ix (show IxR _ (rIx K) from ix_seq) (pe_ix (show IxR _ (rIx K) from ix_seq) (pv 1) (pv 5) (fun _ _ => rfl)) pe_int (fun _ _ => rfl))))) (fun _ _ _ _ _ => (pv 5)))
(pss_cons (ps_set (i := 3) sc_law_regions_hold.nd rfl (.inl rfl) (pe_un un_neg pe_int))
(pss_cons (ps_if (pt_cmpR op_gt (pe_callB call_len (by rfl) T.z_len (by decide +kernel) (pa_cons (pv 8) pa_nil)) pe_int (nomark _))
(pss_one (ps_set (i := 3) sc_law_regions_hold.nd rfl (.inl rfl) (pe_ix ix_seq (pv 8) pe_int (fun _ _ => rfl))))
pss_nil)
(pss_one (ps_if (pt_not (pt_truth (pe_call G_law_is_number hr_law_is_number (by rfl) T.g_law_is_number T.F_law_is_number.kp T.b_law_is_number .nil pass0 (pa_cons (pe_call G_region_at hr_region_at (by rfl) T.g_region_at T.F_region_at.kp T.b_region_at .nil pass0 (pa_cons (pv 1) (pa_cons (pv 7) pa_nil))) (pa_cons (pv 3) (pa_cons (pv 3) pa_nil)))) (by intro _; rfl)))
(pss_one (ps_ret pe_bl))
pss_nil))))))
(pss_one (ps_ret pe_bl))))))))), fn_body (N := n_law_regions_hold) (C := cx T) (b := b_law_regions_hold)
    (ss_seq (ss_asg (se_call (m := 1) (sa_cons (se_var 1) sa_nil)) sg_name)
(ss_seq (ss_asg se_int sg_name)
(ss_seq (ss_if (st_test (se_op s2_gt (se_cb sc_len (sa_cons (se_var 1) sa_nil)) se_int))
(ss_asg (se_op s2_addA (se_op s2_ix (se_op s2_ix (se_var 1) (se_un s1_neg se_int)) se_int) (se_op s2_ix (se_op s2_ix (se_var 1) (se_un s1_neg se_int)) se_int)) sg_name)
ss_next)
(ss_cut eqc_law_regions_hold_2
(ss_seq (ss_if (st_not (st_tru (se_call (m := 3) (sa_cons (se_var 2) (sa_cons (se_var 3) (sa_cons (se_var 3) sa_nil))))))
(ss_ret se_bl)
ss_next)
(ss_seq (ss_asg (se_lst (n := 8) (sa_cons (se_un s1_neg se_int) (sa_cons se_int (sa_cons (se_op s2_sub (se_var 3) se_int) (sa_cons (se_var 3) (sa_cons (se_op s2_addA (se_var 3) se_int) (sa_cons (se_call (m := 2) (sa_cons (se_var 0) (sa_cons se_int sa_nil))) (sa_cons (se_op s2_pow se_int se_int) (sa_cons (se_op s2_sub se_int (se_call (m := 2) (sa_cons (se_var 0) (sa_cons se_int sa_nil)))) sa_nil)))))))) (by decide)) sg_name)
(ss_seq (ss_for (si_rng1 (sa_cons se_int sa_nil)) sg_name
(ss_if (st_test (se_op s2_gt (se_cb sc_len (sa_cons (se_var 1) sa_nil)) se_int))
(ss_seq (ss_asg (se_op s2_ix (se_var 1) (se_call (m := 2) (sa_cons (se_var 0) (sa_cons (se_cb sc_len (sa_cons (se_var 1) sa_nil)) sa_nil)))) sg_name)
(ss_asg (se_op s2_addA (se_var 4) (se_lst (n := 4) (sa_cons (se_op s2_sub (se_op s2_ix (se_var 6) se_int) se_int) (sa_cons (se_op s2_ix (se_var 6) se_int) (sa_cons (se_op s2_sub (se_op s2_addA (se_op s2_ix (se_var 6) se_int) (se_op s2_ix (se_var 6) se_int)) se_int) (sa_cons (se_op s2_addA (se_op s2_ix (se_var 6) se_int) (se_op s2_ix (se_var 6) se_int)) sa_nil)))) (by decide))) sg_name))
ss_next))
(ss_seq (ss_for (si_seqA (se_var 4)) sg_name
(ss_seq (ss_asg (se_lc (si_rng1 (sa_cons (se_cb sc_len (sa_cons (se_var 1) sa_nil)) sa_nil)) sg_name (kw_name (by decide)) (st_test (se_chain s2_le s2_lt (se_op s2_ix (se_op s2_ix (se_var 1) (se_var 5)) se_int) (se_var 7) (se_op s2_addA (se_op s2_ix (se_op s2_ix (se_var 1) (se_var 5)) se_int) (se_op s2_ix (se_op s2_ix (se_var 1) (se_var 5)) se_int)))) (se_var 5)) sg_name)
(ss_seq (ss_asg (se_un s1_neg se_int) sg_name)
(ss_seq (ss_if (st_test (se_op s2_gt (se_cb sc_len (sa_cons (se_var 8) sa_nil)) se_int))
(ss_asg (se_op s2_ix (se_var 8) se_int) sg_name)
ss_next)
(ss_cut eqc_law_regions_hold_1
(ss_if (st_not (st_tru (se_call (m := 3) (sa_cons (se_call (m := 2) (sa_cons (se_var 1) (sa_cons (se_var 7) sa_nil))) (sa_cons (se_var 3) (sa_cons (se_var 3) sa_nil))))))
(ss_ret se_bl)
ss_next))))))
(ss_ret se_bl))))))))) h rfl⟩
theorem ok_is_memory (T : Tx w K mg) (B_is_instruction : LamX.TabB base mg T.cc_is_instruction T.P_is_instruction) (B_is_code : LamX.TabB base mg T.cc_is_code T.P_is_code) (B_is_memory : LamX.TabB base mg T.cc_is_memory T.P_is_memory) : FnOk P w K mg base CX0 4 T.a_is_memory T.d_is_memory ["layout", "value"] (spOf (cx T) 2 wp_is_memory) := by
  have G_is_integer := ok_is_integer (P := P) (w := w) (base := base) T B_is_instruction B_is_code B_is_memory
  have G_layout_end := ok_layout_end (P := P) (w := w) (base := base) T B_is_instruction B_is_code B_is_memory
  have G_region_end := ok_region_end (P := P) (w := w) (base := base) T B_is_instruction B_is_code B_is_memory
  refine T.F_is_memory.ok sc_is_memory (fun vs H Q E h => spOf_len h) (fun A outer s H vs Q E hr h => ?_)
  have hr_is_integer : Room 1 _ := hr.mono (by decide)
  have hr_layout_end : Room 2 _ := hr.mono (by decide)
  have hr_region_end : Room 1 _ := hr.mono (by decide)
  rw [eq_is_memory] at h
  exact ⟨_, (pss_cons (ps_if (PW.pt (pw_or (pt_not (pt_truth (pe_callB call_isi (by rfl) T.z_isinstance (by decide +kernel) (pa_cons (pv 1) (pa_cons (pe_bltn (v := .ty "list") (u := .type "list") (by rfl) T.z_list (by decide +kernel) rfl) pa_nil))) (by intro _; rfl))) (pw_or1 (pt_cmpR (op_neA hr.units) (pe_callB call_len (by rfl) T.z_len (by decide +kernel) (pa_cons (pv 1) pa_nil)) (pe_call G_layout_end hr_layout_end (by rfl) T.g_layout_end T.F_layout_end.kp T.b_layout_end .nil pass0 (pa_cons (pv 0) pa_nil)) (nomark _)))))
(pss_one (ps_ret pe_bl))
pss_nil)
(pss_cons (ps_if (pt_not (pt_truth (GA.pe_all (own := [("word", 3)]) hr rfl sc_is_memory.nd (by rfl) T.z_all (by decide +kernel) B_is_memory rfl (pi_seqA (pv 1)) (GA.genOk_by (N := n_is_memory) (sc := defScope s_is_memory) (by decide +kernel)) (fun _ _ _ _ _ _ => (pg_name (i := 3) sc_is_memory.nd rfl (Or.inl rfl))) (fun _ _ _ _ _ _ hr => have hr_is_integer : Room 1 _ := hr.mono (by decide); (pe_call G_is_integer hr_is_integer (by rfl) T.g_is_integer T.F_is_integer.kp T.b_is_integer .nil pass0 (pa_cons (pv 3) (pa_cons pe_int (pa_cons (pe_glob rfl T.g_GREATEST_WORD T.r_GREATEST_WORD) pa_nil)))))) (by intro _; rfl)))
(pss_one (ps_ret pe_bl))
pss_nil)
(pss_one (ps_ret (GA.pe_all (own := [("region", 2)]) hr rfl sc_is_memory.nd (by rfl) T.z_all (by decide +kernel) B_is_memory rfl (pi_seqA (pv 0)) (GA.genOk_by (N := n_is_memory) (sc := defScope s_is_memory) (by decide +kernel)) (fun _ _ _ _ _ _ => (pg_name (i := 2) sc_is_memory.nd rfl (Or.inl rfl))) (fun _ _ _ _ _ _ hr => have hr_region_end : Room 1 _ := hr.mono (by decide); (pe_cmpR op_le (pe_callB (show CallR _ _ (rMax K) from (cr_max rfl)) (by rfl) T.z_max (by decide +kernel) (pa_cons (pe_slice (show SlR _ (rSlAny K) from sl_any) (pv 1) (po_some (pe_ix (show IxR _ (rIx K) from ix_seq) (pv 2) pe_int (fun _ _ => rfl))) (po_some (pe_call G_region_end hr_region_end (by rfl) T.g_region_end T.F_region_end.kp T.b_region_end .nil pass0 (pa_cons (pv 2) pa_nil)))) pa_nil)) (pe_ix (show IxR _ (rIx K) from ix_seq) (pv 2) pe_int (fun _ _ => rfl)) (nomark _)))))))), fn_body (N := n_is_memory) (C := cx T) (b := b_is_memory)
    (ss_seq (ss_if (st_or (st_not (st_tru (se_cb sc_isi (sa_cons (se_var 1) (sa_cons se_con sa_nil))))) (st_test (se_op s2_neA (se_cb sc_len (sa_cons (se_var 1) sa_nil)) (se_call (m := 1) (sa_cons (se_var 0) sa_nil)))))
(ss_ret se_bl)
ss_next)
(ss_seq (ss_if (st_not (st_tru (se_all (by simp) (si_seqA (se_var 1)) sg_name (kw_name (by decide)) (se_call (m := 3) (sa_cons (se_var 3) (sa_cons se_int (sa_cons se_int sa_nil)))))))
(ss_ret se_bl)
ss_next)
(ss_ret (se_all (by simp) (si_seqA (se_var 0)) sg_name (kw_name (by decide)) (se_op s2_le (se_cb sc_max1 (sa_cons (se_sl ssl_A (se_var 1) (so_some (se_op s2_ix (se_var 2) se_int)) (so_some (se_call (m := 1) (sa_cons (se_var 2) sa_nil)))) sa_nil)) (se_op s2_ix (se_var 2) se_int)))))) h rfl⟩
theorem ok_is_code (T : Tx w K mg) (B_is_instruction : LamX.TabB base mg T.cc_is_instruction T.P_is_instruction) (B_is_code : LamX.TabB base mg T.cc_is_code T.P_is_code) (B_is_memory : LamX.TabB base mg T.cc_is_memory T.P_is_memory) : FnOk P w K mg base CX0 5 T.a_is_code T.d_is_code ["value"] (spOf (cx T) 1 wp_is_code) := by
  have G_is_instruction := ok_is_instruction (P := P) (w := w) (base := base) T B_is_instruction B_is_code B_is_memory
  refine T.F_is_code.ok sc_is_code (fun vs H Q E h => spOf_len h) (fun A outer s H vs Q E hr h => ?_)
  have hr_is_instruction : Room 3 _ := hr.mono (by decide)
  rw [eq_is_code] at h
  exact ⟨_, (pss_cons (ps_if (PW.pt (pw_or (pt_not (pt_truth (pe_callB call_isi (by rfl) T.z_isinstance (by decide +kernel) (pa_cons (pv 0) (pa_cons (pe_bltn (v := .ty "tuple") (u := .type "tuple") (by rfl) T.z_tuple (by decide +kernel) rfl) pa_nil))) (by intro _; rfl))) (pw_or1 (pt_not (pt_chain op_le op_le pe_int (pe_callB call_len (by rfl) T.z_len (by decide +kernel) (pa_cons (pv 0) pa_nil)) (pe_glob rfl T.g_MOST_INSTRUCTIONS T.r_MOST_INSTRUCTIONS))))))
(pss_one (ps_ret pe_bl))
pss_nil)
(pss_one (ps_ret (GA.pe_all (own := [("item", 1)]) hr rfl sc_is_code.nd (by rfl) T.z_all (by decide +kernel) B_is_code rfl (pi_seqA (pv 0)) (GA.genOk_by (N := n_is_code) (sc := defScope s_is_code) (by decide +kernel)) (fun _ _ _ _ _ _ => (pg_name (i := 1) sc_is_code.nd rfl (Or.inl rfl))) (fun _ _ _ _ _ _ hr => have hr_is_instruction : Room 3 _ := hr.mono (by decide); (pe_call G_is_instruction hr_is_instruction (by rfl) T.g_is_instruction T.F_is_instruction.kp T.b_is_instruction .nil pass0 (pa_cons (pv 1) pa_nil))))))), fn_body (N := n_is_code) (C := cx T) (b := b_is_code)
    (ss_seq (ss_if (st_or (st_not (st_tru (se_cb sc_isi (sa_cons (se_var 0) (sa_cons se_con sa_nil))))) (st_not (st_test (se_chain s2_le s2_le se_int (se_cb sc_len (sa_cons (se_var 0) sa_nil)) se_int))))
(ss_ret se_bl)
ss_next)
(ss_ret (se_all (by simp) (si_seqA (se_var 0)) sg_name (kw_name (by decide)) (se_call (m := 1) (sa_cons (se_var 1) sa_nil))))) h rfl⟩
theorem ok_law_memories_hold (T : Tx w K mg) (B_is_instruction : LamX.TabB base mg T.cc_is_instruction T.P_is_instruction) (B_is_code : LamX.TabB base mg T.cc_is_code T.P_is_code) (B_is_memory : LamX.TabB base mg T.cc_is_memory T.P_is_memory) : FnOk P w K mg base CX0 5 T.a_law_memories_hold T.d_law_memories_hold ["source", "layout"] (spOf (cx T) 2 wp_law_memories_hold) := by
  have G_law_answers := ok_law_answers (P := P) (w := w) (base := base) T B_is_instruction B_is_code B_is_memory
  have G_law_draw := ok_law_draw (P := P) (w := w) (base := base) T B_is_instruction B_is_code B_is_memory
  have G_law_is_memory := ok_law_is_memory (P := P) (w := w) (base := base) T B_is_instruction B_is_code B_is_memory
  have G_law_memory := ok_law_memory (P := P) (w := w) (base := base) T B_is_instruction B_is_code B_is_memory
  have G_law_other := ok_law_other (P := P) (w := w) (base := base) T B_is_instruction B_is_code B_is_memory
  have G_is_memory := ok_is_memory (P := P) (w := w) (base := base) T B_is_instruction B_is_code B_is_memory
  refine T.F_law_memories_hold.ok sc_law_memories_hold (fun vs H Q E h => spOf_len h) (fun cdv A outer s H vs Q E hr h => ?_)
  have hr_law_answers : Room 1 _ := hr.mono (by decide)
  have hr_law_draw : Room 1 _ := hr.mono (by decide)
  have hr_law_is_memory : Room 2 _ := hr.mono (by decide)
  have hr_law_memory : Room 2 _ := hr.mono (by decide)
  have hr_law_other : Room 2 _ := hr.mono (by decide)
  have hr_is_memory : Room 4 _ := hr.mono (by decide)
  rw [eq_law_memories_hold] at h
  exact ⟨_, (pss_cons (ps_set (i := 2) sc_law_memories_hold.nd rfl (.inl rfl) (pe_call G_law_memory hr_law_memory (by rfl) T.g_law_memory T.F_law_memory.kp T.b_law_memory .nil pass0 (pa_cons (pv 0) (pa_cons (pv 1) pa_nil))))
(pss_cons (ps_set (i := 3) sc_law_memories_hold.nd rfl (.inl rfl) (pe_callTy call_list_of (by rfl) T.z_list (by decide +kernel) (pa_cons (pv 2) pa_nil)))
(pss_cons (ps_set (i := 4) sc_law_memories_hold.nd rfl (.inl rfl) (pe_call G_law_draw hr_law_draw (by rfl) T.g_law_draw T.F_law_draw.kp T.b_law_draw .nil pass0 (pa_cons (pv 0) (pa_cons pe_int pa_nil))))
(pss_cons (ps_if (pt_cmpR (op_eqA hr.units) (pv 4) pe_int (nomark _))
(pss_one (ps_set (i := 3) sc_law_memories_hold.nd rfl (.inl rfl) (pe_op op_addA (pv 3) (pe_lst (pa_cons pe_int pa_nil)))))
(pss_one (ps_if (pt_cmpR (op_eqA hr.units) (pv 4) pe_int (nomark _))
(pss_one (ps_set (i := 3) sc_law_memories_hold.nd rfl (.inl rfl) (pe_slice sl_any (pv 3) (po_some pe_int) po_none)))
(pss_one (ps_if (pt_cmpR op_gt (pe_callB call_len (by rfl) T.z_len (by decide +kernel) (pa_cons (pv 3) pa_nil)) pe_int (nomark _))
(pss_cons (ps_set (i := 5) sc_law_memories_hold.nd rfl (.inl rfl) (pe_call G_law_draw hr_law_draw (by rfl) T.g_law_draw T.F_law_draw.kp T.b_law_draw .nil pass0 (pa_cons (pv 0) (pa_cons (pe_callB call_len (by rfl) T.z_len (by decide +kernel) (pa_cons (pv 3) pa_nil)) pa_nil))))
(pss_one (ps_asg (pe_ix ix_seq (pe_lst (pa_cons (pe_op op_addA (pe_ix ix_seq (pv 3) (pv 5) (fun _ _ => rfl)) pe_int) (pa_cons (pe_call G_law_draw hr_law_draw (by rfl) T.g_law_draw T.F_law_draw.kp T.b_law_draw .nil pass0 (pa_cons (pv 0) (pa_cons pe_int pa_nil))) (pa_cons (pe_call G_law_other hr_law_other (by rfl) T.g_law_other T.F_law_other.kp T.b_law_other .nil pass0 (pa_cons (pv 0) pa_nil)) pa_nil)))) (pe_call G_law_draw hr_law_draw (by rfl) T.g_law_draw T.F_law_draw.kp T.b_law_draw .nil pass0 (pa_cons (pv 0) (pa_cons pe_int pa_nil))) (fun _ _ => rfl)) (pg_sub (pv 3) (pv 5) set_list))))
pss_nil)))))
(pss_cons (ps_for PassesOwn.never rfl (pi_seqA (pe_lst (pa_cons (pv 2) (pa_cons (pv 3) (pa_cons (pv 2) pa_nil))))) (pg_name (i := 6) sc_law_memories_hold.nd rfl (.inl rfl))
(pss_cons (ps_set (i := 7) sc_law_memories_hold.nd rfl (.inl rfl) (pe_callTy call_list_of (by rfl) T.z_list (by decide +kernel) (pa_cons (pv 6) pa_nil)))
(pss_cons (ps_if (pt_not (pt_truth (pe_call G_law_answers hr_law_answers (by rfl) T.g_law_answers T.F_law_answers.kp T.b_law_answers .nil pass0 (pa_cons (pe_call G_is_memory hr_is_memory (by rfl) T.g_is_memory T.F_is_memory.kp T.b_is_memory .nil pass0 (pa_cons (pv 1) (pa_cons (pv 6) pa_nil))) (pa_cons (pe_call G_law_is_memory hr_law_is_memory (by rfl) T.g_law_is_memory T.F_law_is_memory.kp T.b_law_is_memory .nil pass0 (pa_cons (pv 1) (pa_cons (pv 7) pa_nil))) pa_nil))) (by intro _; rfl)))
(pss_one (ps_ret pe_bl))
pss_nil)
(pss_one (ps_if (PW.pt (pw_or (pt_cmpR (op_neA hr.units) (pv 6) (pv 7) (nomark _)) (pw_or1 (pt_cmpR (op_neA hr.units) (pe_callB call_len (by rfl) T.z_len (by decide +kernel) (pa_cons (pv 6) pa_nil)) (pe_callB call_len (by rfl) T.z_len (by decide +kernel) (pa_cons (pv 7) pa_nil)) (nomark _)))))
(pss_one (ps_ret pe_bl))
pss_nil)))))
(pss_one (ps_ret (pe_call G_law_answers hr_law_answers (by rfl) T.g_law_answers T.F_law_answers.kp T.b_law_answers .nil pass0 (pa_cons (pe_call G_is_memory hr_is_memory (by rfl) T.g_is_memory T.F_is_memory.kp T.b_is_memory .nil pass0 (pa_cons (pv 1) (pa_cons (pe_callTy call_tuple_of (by rfl) T.z_tuple (by decide +kernel) (pa_cons (pv 2) pa_nil)) pa_nil))) (pa_cons pe_bl pa_nil)))))))))), fn_body (N := n_law_memories_hold) (C := cx T) (b := b_law_memories_hold)
    (ss_seq (ss_asg (se_call (m := 2) (sa_cons (se_var 0) (sa_cons (se_var 1) sa_nil))) sg_name)
(ss_seq (ss_asg (se_cb sc_list (sa_cons (se_var 2) sa_nil)) sg_name)
(ss_seq (ss_asg (se_call (m := 2) (sa_cons (se_var 0) (sa_cons se_int sa_nil))) sg_name)
(ss_seq (ss_if (st_test (se_op s2_eqA (se_var 4) se_int))
(ss_asg (se_op s2_addA (se_var 3) (se_lst (n := 1) (sa_cons se_int sa_nil) (by decide))) sg_name)
(ss_if (st_test (se_op s2_eqA (se_var 4) se_int))
(ss_asg (se_sl ssl_A (se_var 3) (so_some se_int) so_none) sg_name)
(ss_if (st_test (se_op s2_gt (se_cb sc_len (sa_cons (se_var 3) sa_nil)) se_int))
(ss_seq (ss_asg (se_call (m := 2) (sa_cons (se_var 0) (sa_cons (se_cb sc_len (sa_cons (se_var 3) sa_nil)) sa_nil))) sg_name)
(ss_asg (se_op s2_ix (se_ro (n := 3) (sa_cons (se_op s2_addA (se_op s2_ix (se_var 3) (se_var 5)) se_int) (sa_cons (se_call (m := 2) (sa_cons (se_var 0) (sa_cons se_int sa_nil))) (sa_cons (se_call (m := 1) (sa_cons (se_var 0) sa_nil)) sa_nil))) (by decide)) (se_call (m := 2) (sa_cons (se_var 0) (sa_cons se_int sa_nil)))) (sg_sub (se_var 3) (se_var 5))))
ss_next)))
(ss_cut eqc_law_memories_hold_1
(ss_seq (ss_for (si_seqA (se_ro (n := 3) (sa_cons (se_var 2) (sa_cons (se_var 3) (sa_cons (se_var 2) sa_nil))) (by decide))) sg_name
(ss_seq (ss_asg (se_cb sc_list (sa_cons (se_var 6) sa_nil)) sg_name)
(ss_seq (ss_if (st_not (st_tru (se_call (m := 2) (sa_cons (se_call (m := 2) (sa_cons (se_var 1) (sa_cons (se_var 6) sa_nil))) (sa_cons (se_call (m := 2) (sa_cons (se_var 1) (sa_cons (se_var 7) sa_nil))) sa_nil)))))
(ss_ret se_bl)
ss_next)
(ss_if (st_or (st_test (se_op s2_neA (se_var 6) (se_var 7))) (st_test (se_op s2_neA (se_cb sc_len (sa_cons (se_var 6) sa_nil)) (se_cb sc_len (sa_cons (se_var 7) sa_nil)))))
(ss_ret se_bl)
ss_next))))
(ss_ret (se_call (m := 2) (sa_cons (se_call (m := 2) (sa_cons (se_var 1) (sa_cons (se_cb sc_tuple (sa_cons (se_var 2) sa_nil)) sa_nil))) (sa_cons se_bl sa_nil)))))))))) h rfl⟩
theorem ok_is_code_file (T : Tx w K mg) (B_is_instruction : LamX.TabB base mg T.cc_is_instruction T.P_is_instruction) (B_is_code : LamX.TabB base mg T.cc_is_code T.P_is_code) (B_is_memory : LamX.TabB base mg T.cc_is_memory T.P_is_memory) : FnOk P w K mg base CX0 6 T.a_is_code_file T.d_is_code_file ["value"] (spOf (cx T) 1 wp_is_code_file) := by
  have G_is_code := ok_is_code (P := P) (w := w) (base := base) T B_is_instruction B_is_code B_is_memory
  have G_is_layout := ok_is_layout (P := P) (w := w) (base := base) T B_is_instruction B_is_code B_is_memory
  refine T.F_is_code_file.ok sc_is_code_file (fun vs H Q E h => spOf_len h) (fun cdv A outer s H vs Q E hr h => ?_)
  have hr_is_code : Room 5 _ := hr.mono (by decide)
  have hr_is_layout : Room 3 _ := hr.mono (by decide)
  rw [eq_is_code_file] at h
  exact ⟨_, (pss_one (ps_ret (pe_andT (pe_callB call_isi (by rfl) T.z_isinstance (by decide +kernel) (pa_cons (pv 0) (pa_cons (pe_bltn (v := .ty "tuple") (u := .type "tuple") (by rfl) T.z_tuple (by decide +kernel) rfl) pa_nil))) (pe_andT (pe_cmpR (op_eqA hr.units) (pe_callB call_len (by rfl) T.z_len (by decide +kernel) (pa_cons (pv 0) pa_nil)) pe_int (nomark _)) (pe_andT (pe_call G_is_layout hr_is_layout (by rfl) T.g_is_layout T.F_is_layout.kp T.b_is_layout .nil pass0 (pa_cons (pe_ix ix_seq (pv 0) pe_int (fun _ _ => rfl)) pa_nil)) (pe_one (pe_call G_is_code hr_is_code (by rfl) T.g_is_code T.F_is_code.kp T.b_is_code .nil pass0 (pa_cons (pe_ix ix_seq (pv 0) pe_int (fun _ _ => rfl)) pa_nil)))))))), fn_body (N := n_is_code_file) (C := cx T) (b := b_is_code_file)
    (ss_ret (se_andT (se_cb sc_isi (sa_cons (se_var 0) (sa_cons se_con sa_nil))) (se_andT (se_op s2_eqA (se_cb sc_len (sa_cons (se_var 0) sa_nil)) se_int) (se_andT (se_call (m := 1) (sa_cons (se_op s2_ix (se_var 0) se_int) sa_nil)) (se_call (m := 1) (sa_cons (se_op s2_ix (se_var 0) se_int) sa_nil)))))) h rfl⟩
def spLaw (K : PySem.W.Frag) (Ps : List Addr) : Sp := fun vs H Q _ => ∃ (a : Addr) (ns : List Int), vs = [.ref a] ∧ SqL K H a (ns.map V.int) ∧ ns.length ≤ 63 ∧ Ps.Nodup ∧ (∀ r ∈ Ps, H r = some (.tbl #[])) ∧ ∀ H', Q (.bl true) H'
theorem ok_law' (T : Tx w K mg) (B_is_instruction : LamX.TabB base mg T.cc_is_instruction T.P_is_instruction) (B_is_code : LamX.TabB base mg T.cc_is_code T.P_is_code) (B_is_memory : LamX.TabB base mg T.cc_is_memory T.P_is_memory) {f : Addr} {fd : FuncData} (F : Fun K "law" "law" s_law f fd) : FnOk P w K mg base CX0 7 f fd ["script"] (spLaw K [T.P_is_instruction, T.P_is_code, T.P_is_memory]) := by
  have G_law_answers := ok_law_answers (P := P) (w := w) (base := base) T B_is_instruction B_is_code B_is_memory
  have G_law_changed := ok_law_changed (P := P) (w := w) (base := base) T B_is_instruction B_is_code B_is_memory
  have G_law_is_layout := ok_law_is_layout (P := P) (w := w) (base := base) T B_is_instruction B_is_code B_is_memory
  have G_law_layout := ok_law_layout (P := P) (w := w) (base := base) T B_is_instruction B_is_code B_is_memory
  have G_law_memories_hold := ok_law_memories_hold (P := P) (w := w) (base := base) T B_is_instruction B_is_code B_is_memory
  have G_law_regions_hold := ok_law_regions_hold (P := P) (w := w) (base := base) T B_is_instruction B_is_code B_is_memory
  have G_law_source := ok_law_source (P := P) (w := w) (base := base) T B_is_instruction B_is_code B_is_memory
  have G_is_code_file := ok_is_code_file (P := P) (w := w) (base := base) T B_is_instruction B_is_code B_is_memory
  have G_is_layout := ok_is_layout (P := P) (w := w) (base := base) T B_is_instruction B_is_code B_is_memory
  refine F.ok sc_law (fun vs H Q E h => ?_) (fun cdv A outer s H vs Q E hr h => ?_)
  · obtain ⟨a, ns, rfl, _, _, _, _, _⟩ := h
    rfl
  obtain ⟨a, ns, rfl, hS, hlen, _, hT, q⟩ := h
  have hr_law_answers : Room 1 _ := hr.mono (by decide)
  have hr_law_changed : Room 3 _ := hr.mono (by decide)
  have hr_law_is_layout : Room 3 _ := hr.mono (by decide)
  have hr_law_layout : Room 2 _ := hr.mono (by decide)
  have hr_law_memories_hold : Room 5 _ := hr.mono (by decide)
  have hr_law_regions_hold : Room 3 _ := hr.mono (by decide)
  have hr_law_source : Room 1 _ := hr.mono (by decide)
  have hr_is_code_file : Room 6 _ := hr.mono (by decide)
  have hr_is_layout : Room 3 _ := hr.mono (by decide)
  obtain ⟨H0, w0, hh, rr⟩ := holds_start (C := cx T) hT hS
  have h : spOf (cx T) 1 wp_law [.ref a] H Q E := ⟨H0, w0, [], _, _, hh, .cons rr .nil, rfl, law_true ns hlen, fun w' S' H' v d s1 h1 r1 x1 => by cases x1; rw [r1.bl_at]; exact q H'⟩
  rw [eq_law] at h
  exact ⟨_, (pss_cons (ps_set (i := 1) sc_law.nd rfl (.inl rfl) (pe_call G_law_source hr_law_source (by rfl) T.g_law_source T.F_law_source.kp T.b_law_source .nil pass0 (pa_cons (pv 0) (pa_cons pe_int pa_nil))))
(pss_cons (ps_set (i := 2) sc_law.nd rfl (.inr rfl) (pe_call G_law_layout hr_law_layout (by rfl) T.g_law_layout T.F_law_layout.kp T.b_law_layout .nil pass0 (pa_cons (pv 1) pa_nil)))
(pss_cons (ps_setLc (i := 3) (own := [("k", 8)]) (g := gName 8) (by rfl) sc_law.nd rfl rfl (sw_true rfl rfl rfl (by decide +kernel)) (pi_range1 rfl T.z_range (pa_cons pe_int pa_nil)) (blkOk_by (N := n_law) (sc := defScope s_law) (by decide +kernel)) (fun _ _ _ _ _ => (pg_name (i := 8) sc_law.nd rfl (Or.inl rfl))) (fun _ _ _ _ _ => pts_nil) (fun _ _ _ _ _ => (pe_callTy (show CallR _ _ (fun xs H Q => ∃ p ys, xs = [.ref p] ∧ ((SqL K H p ys ∧ ∀ l, H l = none → Q (.ref l) (upd H l (.tup ys))) ∨ (SqT K H p ys ∧ Q (.ref p) H))) from call_tuple_of) (by rfl) T.z_tuple (by decide +kernel) (pa_cons (pe_call G_law_changed hr_law_changed (by rfl) T.g_law_changed T.F_law_changed.kp T.b_law_changed .nil pass0 (pa_cons (pe_call G_law_source hr_law_source (by rfl) T.g_law_source T.F_law_source.kp T.b_law_source .nil pass0 (pa_cons (pv 0) (pa_cons (pe_op (show OpR _ _ (rAddA K) from op_addA) pe_int (pv 8)) pa_nil))) (pa_cons (pv 2) pa_nil))) pa_nil))))
(pss_cons (ps_set (i := 4) sc_law.nd rfl (.inl rfl) (pe_tup (pa_cons (pe_tup (pa_cons pe_str pa_nil)) pa_nil)))
(pss_cons (ps_for PassesOwn.never rfl (pi_seqA (pe_op op_addA (pe_op op_addA (pe_lst (pa_cons (pe_callTy call_tuple_of (by rfl) T.z_tuple (by decide +kernel) (pa_cons (pv 2) pa_nil)) pa_nil)) (pv 3)) (pe_lst (pa_cons (pe_callTy call_list_of (by rfl) T.z_list (by decide +kernel) (pa_cons (pv 2) pa_nil)) (pa_cons (pe_callTy call_tuple_of (by rfl) T.z_tuple (by decide +kernel) (pa_cons (pv 2) pa_nil)) pa_nil))))) (pg_name (i := 5) sc_law.nd rfl (.inl rfl))
(pss_cons (ps_set (i := 6) sc_law.nd rfl (.inl rfl) (pe_call G_law_is_layout hr_law_is_layout (by rfl) T.g_law_is_layout T.F_law_is_layout.kp T.b_law_is_layout .nil pass0 (pa_cons (pv 5) pa_nil)))
(pss_one (ps_if (PW.pt (pw_or (pt_not (pt_truth (pe_call G_law_answers hr_law_answers (by rfl) T.g_law_answers T.F_law_answers.kp T.b_law_answers .nil pass0 (pa_cons (pe_call G_is_layout hr_is_layout (by rfl) T.g_is_layout T.F_is_layout.kp T.b_is_layout .nil pass0 (pa_cons (pv 5) pa_nil)) (pa_cons (pv 6) pa_nil))) (by intro _; rfl))) (pw_or1 (pt_not (pt_truth (pe_call G_law_answers hr_law_answers (by rfl) T.g_law_answers T.F_law_answers.kp T.b_law_answers .nil pass0 (pa_cons (pe_call G_is_code_file hr_is_code_file (by rfl) T.g_is_code_file T.F_is_code_file.kp T.b_is_code_file .nil pass0 (pa_cons (pe_tup (pa_cons (pv 5) (pa_cons (pv 4) pa_nil))) pa_nil)) (pa_cons (pv 6) pa_nil))) (by intro _; rfl))))))
(pss_one (ps_ret pe_bl))
pss_nil))))
(pss_cons (ps_if (pt_not (pt_truth (pe_call G_law_is_layout hr_law_is_layout (by rfl) T.g_law_is_layout T.F_law_is_layout.kp T.b_law_is_layout .nil pass0 (pa_cons (pe_callTy call_tuple_of (by rfl) T.z_tuple (by decide +kernel) (pa_cons (pv 2) pa_nil)) pa_nil)) (by intro _; rfl)))
(pss_one (ps_ret pe_bl))
pss_nil)
(pss_cons (ps_set (i := 7) sc_law.nd rfl (.inl rfl) (pe_callTy call_tuple_of (by rfl) T.z_tuple (by decide +kernel) (pa_cons (pv 2) pa_nil)))
(pss_cons (ps_for PassesOwn.never rfl (pi_seqA (pe_lst (pa_cons (pe_tup (pa_cons (pv 7) pa_nil)) (pa_cons (pe_lst (pa_cons (pv 7) (pa_cons (pv 4) pa_nil))) (pa_cons (pe_tup (pa_cons (pv 7) (pa_cons (pe_tup pa_nil) pa_nil))) (pa_cons (pe_tup (pa_cons (pv 7) (pa_cons (pv 4) (pa_cons (pv 4) pa_nil)))) (pa_cons (pe_tup (pa_cons (pv 4) (pa_cons (pv 7) pa_nil))) (pa_cons (pv 7) (pa_cons pe_non pa_nil))))))))) (pg_name (i := 5) sc_law.nd rfl (.inl rfl))
(pss_one (ps_if (pt_not (pt_truth (pe_call G_law_answers hr_law_answers (by rfl) T.g_law_answers T.F_law_answers.kp T.b_law_answers .nil pass0 (pa_cons (pe_call G_is_code_file hr_is_code_file (by rfl) T.g_is_code_file T.F_is_code_file.kp T.b_is_code_file .nil pass0 (pa_cons (pv 5) pa_nil)) (pa_cons pe_bl pa_nil))) (by intro _; rfl)))
(pss_one (ps_ret pe_bl))
pss_nil)))
(pss_cons (ps_set (i := 1) sc_law.nd rfl (.inl rfl) (pe_call G_law_source hr_law_source (by rfl) T.g_law_source T.F_law_source.kp T.b_law_source .nil pass0 (pa_cons (pv 0) (pa_cons pe_int pa_nil))))
(pss_one (ps_ret (pe_andT (pe_call G_law_regions_hold hr_law_regions_hold (by rfl) T.g_law_regions_hold T.F_law_regions_hold.kp T.b_law_regions_hold .nil pass0 (pa_cons (pv 1) (pa_cons (pv 7) pa_nil))) (pe_one (pe_call G_law_memories_hold hr_law_memories_hold (by rfl) T.g_law_memories_hold T.F_law_memories_hold.kp T.b_law_memories_hold .nil pass0 (pa_cons (pv 1) (pa_cons (pv 7) pa_nil)))))))))))))))), fn_body (N := n_law) (C := cx T) (b := b_law)
    (ss_seq (ss_asg (se_call (m := 2) (sa_cons (se_var 0) (sa_cons se_int sa_nil))) sg_name)
(ss_seq (ss_asg (se_call (m := 1) (sa_cons (se_var 1) sa_nil)) sg_name)
(ss_seq (ss_asg (se_lc (si_rng1 (sa_cons se_int sa_nil)) sg_name (kw_name (by decide)) st_yes (se_cb sc_tuple (sa_cons (se_call (m := 2) (sa_cons (se_call (m := 2) (sa_cons (se_var 0) (sa_cons (se_op s2_addA se_int (se_var 8)) sa_nil))) (sa_cons (se_var 2) sa_nil))) sa_nil))) sg_name)
(ss_seq (ss_asg (se_tup (n := 1) (sa_cons (se_tup (n := 1) (sa_cons se_str sa_nil) (by decide)) sa_nil) (by decide)) sg_name)
(ss_seq (ss_for (si_seqA (se_op s2_addA (se_op s2_addA (se_lst (n := 1) (sa_cons (se_cb sc_tuple (sa_cons (se_var 2) sa_nil)) sa_nil) (by decide)) (se_var 3)) (se_lst (n := 2) (sa_cons (se_cb sc_list (sa_cons (se_var 2) sa_nil)) (sa_cons (se_cb sc_tuple (sa_cons (se_var 2) sa_nil)) sa_nil)) (by decide)))) sg_name
(ss_seq (ss_asg (se_call (m := 1) (sa_cons (se_var 5) sa_nil)) sg_name)
(ss_if (st_or (st_not (st_tru (se_call (m := 2) (sa_cons (se_call (m := 1) (sa_cons (se_var 5) sa_nil)) (sa_cons (se_var 6) sa_nil))))) (st_not (st_tru (se_call (m := 2) (sa_cons (se_call (m := 1) (sa_cons (se_tup (n := 2) (sa_cons (se_var 5) (sa_cons (se_var 4) sa_nil)) (by decide)) sa_nil)) (sa_cons (se_var 6) sa_nil))))))
(ss_ret se_bl)
ss_next)))
(ss_seq (ss_if (st_not (st_tru (se_call (m := 1) (sa_cons (se_cb sc_tuple (sa_cons (se_var 2) sa_nil)) sa_nil))))
(ss_ret se_bl)
ss_next)
(ss_seq (ss_asg (se_cb sc_tuple (sa_cons (se_var 2) sa_nil)) sg_name)
(ss_seq (ss_for (si_seqA (se_ro (n := 7) (sa_cons (se_tup (n := 1) (sa_cons (se_var 7) sa_nil) (by decide)) (sa_cons (se_lst (n := 2) (sa_cons (se_var 7) (sa_cons (se_var 4) sa_nil)) (by decide)) (sa_cons (se_tup (n := 2) (sa_cons (se_var 7) (sa_cons (se_tup (n := 0) sa_nil (by decide)) sa_nil)) (by decide)) (sa_cons (se_tup (n := 3) (sa_cons (se_var 7) (sa_cons (se_var 4) (sa_cons (se_var 4) sa_nil))) (by decide)) (sa_cons (se_tup (n := 2) (sa_cons (se_var 4) (sa_cons (se_var 7) sa_nil)) (by decide)) (sa_cons (se_var 7) (sa_cons se_non sa_nil))))))) (by decide))) sg_name
(ss_if (st_not (st_tru (se_call (m := 2) (sa_cons (se_call (m := 1) (sa_cons (se_var 5) sa_nil)) (sa_cons se_bl sa_nil)))))
(ss_ret se_bl)
ss_next))
(ss_seq (ss_asg (se_call (m := 2) (sa_cons (se_var 0) (sa_cons se_int sa_nil))) sg_name)
(ss_ret (se_andT (se_call (m := 2) (sa_cons (se_var 1) (sa_cons (se_var 7) sa_nil))) (se_call (m := 2) (sa_cons (se_var 1) (sa_cons (se_var 7) sa_nil)))))))))))))) h rfl⟩
end
theorem all_mk {q : Program} {l : PySem.W.OpenLaw} {w : World} {K : PySem.W.Frag} {h : Heap} {mg : Str → Option Value} {fa : Addr} (X : K.In h) (G : h.Ns mainGlobals mg) (hfa : mg "law" = some (.ref fa)) (gt : GA.GTab q K h)
    {f1 : Addr} {od1 an1 : Option Addr} {sl1 : Array (Option Value)} {oc1 kV1 dc1 pm1 cd1 ct1 : Value}
    {f2 cc2 P2 : Addr} {od2 an2 : Option Addr} {sl2 : Array (Option Value)} {oc2 kV2 dc2 pm2 ct2 : Value} {oq2 : Value} {dq2 : Option Addr} {vq2 : Array Value} {sq2 : Array (Option Value)}
    {f3 cc3 P3 : Addr} {od3 an3 : Option Addr} {sl3 : Array (Option Value)} {oc3 kV3 dc3 pm3 ct3 : Value} {oq3 : Value} {dq3 : Option Addr} {vq3 : Array Value} {sq3 : Array (Option Value)}
    {f4 : Addr} {od4 an4 : Option Addr} {sl4 : Array (Option Value)} {oc4 kV4 dc4 pm4 cd4 ct4 : Value}
    {f5 : Addr} {od5 an5 : Option Addr} {sl5 : Array (Option Value)} {oc5 kV5 dc5 pm5 cd5 ct5 : Value}
    {f6 : Addr} {od6 an6 : Option Addr} {sl6 : Array (Option Value)} {oc6 kV6 dc6 pm6 cd6 ct6 : Value}
    {f7 : Addr} {od7 an7 : Option Addr} {sl7 : Array (Option Value)} {oc7 kV7 dc7 pm7 cd7 ct7 : Value}
    {f8 : Addr} {od8 an8 : Option Addr} {sl8 : Array (Option Value)} {oc8 kV8 dc8 pm8 cd8 ct8 : Value}
    {f9 : Addr} {od9 an9 : Option Addr} {sl9 : Array (Option Value)} {oc9 kV9 dc9 pm9 cd9 ct9 : Value}
    {f10 cc10 P10 : Addr} {od10 an10 : Option Addr} {sl10 : Array (Option Value)} {oc10 kV10 dc10 pm10 ct10 : Value} {oq10 : Value} {dq10 : Option Addr} {vq10 : Array Value} {sq10 : Array (Option Value)}
    {f11 : Addr} {od11 an11 : Option Addr} {sl11 : Array (Option Value)} {oc11 kV11 dc11 pm11 cd11 ct11 : Value}
    {f12 : Addr} {od12 an12 : Option Addr} {sl12 : Array (Option Value)} {oc12 kV12 dc12 pm12 cd12 ct12 : Value}
    {f13 : Addr} {od13 an13 : Option Addr} {sl13 : Array (Option Value)} {oc13 kV13 dc13 pm13 cd13 ct13 : Value}
    {f14 : Addr} {od14 an14 : Option Addr} {sl14 : Array (Option Value)} {oc14 kV14 dc14 pm14 cd14 ct14 : Value}
    {f15 : Addr} {od15 an15 : Option Addr} {sl15 : Array (Option Value)} {oc15 kV15 dc15 pm15 cd15 ct15 : Value}
    {f16 : Addr} {od16 an16 : Option Addr} {sl16 : Array (Option Value)} {oc16 kV16 dc16 pm16 cd16 ct16 : Value}
    {f17 : Addr} {od17 an17 : Option Addr} {sl17 : Array (Option Value)} {oc17 kV17 dc17 pm17 cd17 ct17 : Value}
    {f18 : Addr} {od18 an18 : Option Addr} {sl18 : Array (Option Value)} {oc18 kV18 dc18 pm18 cd18 ct18 : Value}
    {f19 : Addr} {od19 an19 : Option Addr} {sl19 : Array (Option Value)} {oc19 kV19 dc19 pm19 cd19 ct19 : Value}
    {f20 : Addr} {od20 an20 : Option Addr} {sl20 : Array (Option Value)} {oc20 kV20 dc20 pm20 cd20 ct20 : Value}
    {f21 : Addr} {od21 an21 : Option Addr} {sl21 : Array (Option Value)} {oc21 kV21 dc21 pm21 cd21 ct21 : Value}
    {f22 : Addr} {od22 an22 : Option Addr} {sl22 : Array (Option Value)} {oc22 kV22 dc22 pm22 cd22 ct22 : Value}
    {f23 : Addr} {od23 an23 : Option Addr} {sl23 : Array (Option Value)} {oc23 kV23 dc23 pm23 cd23 ct23 : Value}
    {f24 : Addr} {od24 an24 : Option Addr} {sl24 : Array (Option Value)} {oc24 kV24 dc24 pm24 cd24 ct24 : Value}
    {c_FLOWS : Addr}
    {t_MOST_INSTRUCTIONS : Tok}
    {c_NUMBERS : Addr}
    {es_NUMBERS : Array DictEntry} {n_NUMBERS : Nat}
    {c_GREATEST : Addr}
    {es_GREATEST : Array DictEntry} {n_GREATEST : Nat}
    {t_MOST_REGIONS : Tok}
    {t_MOST_ADDRESSES : Tok}
    {t_GREATEST_WORD : Tok}
    (a1 : PySem.W.nsIn K mainGlobals "is_integer" = some (some (.ref f1))) (l1 : K.lookup f1 = some ⟨oc1, od1, .func (PySem.W.fnOf "is_integer" "is_integer" (defArgs s_is_integer) (defBody s_is_integer) (defScope s_is_integer) .none kV1 dc1 pm1 an1 cd1 ct1), sl1⟩) (c1 : PySem.W.codeIn K cd1 "is_integer" = true) (k1 : PySem.W.keepIn K (.ref f1) = true)
    (a2 : PySem.W.nsIn K mainGlobals "is_instruction" = some (some (.ref f2))) (l2 : K.lookup f2 = some ⟨oc2, od2, .func (PySem.W.fnOf "is_instruction" "is_instruction" (defArgs s_is_instruction) (defBody s_is_instruction) (defScope s_is_instruction) .none kV2 dc2 pm2 an2 (.ref cc2) ct2), sl2⟩) (c2 : PySem.W.codeIn K (.ref cc2) "is_instruction" = true) (k2 : PySem.W.keepIn K (.ref f2) = true)
    (qk2 : K.lookup cc2 = some ⟨oq2, dq2, .fields vq2, sq2⟩) (vk2 : vq2[11]? = some (.ref P2)) (np2 : K.lookup P2 = none)
    (a3 : PySem.W.nsIn K mainGlobals "is_code" = some (some (.ref f3))) (l3 : K.lookup f3 = some ⟨oc3, od3, .func (PySem.W.fnOf "is_code" "is_code" (defArgs s_is_code) (defBody s_is_code) (defScope s_is_code) .none kV3 dc3 pm3 an3 (.ref cc3) ct3), sl3⟩) (c3 : PySem.W.codeIn K (.ref cc3) "is_code" = true) (k3 : PySem.W.keepIn K (.ref f3) = true)
    (qk3 : K.lookup cc3 = some ⟨oq3, dq3, .fields vq3, sq3⟩) (vk3 : vq3[11]? = some (.ref P3)) (np3 : K.lookup P3 = none)
    (a4 : PySem.W.nsIn K mainGlobals "is_region" = some (some (.ref f4))) (l4 : K.lookup f4 = some ⟨oc4, od4, .func (PySem.W.fnOf "is_region" "is_region" (defArgs s_is_region) (defBody s_is_region) (defScope s_is_region) .none kV4 dc4 pm4 an4 cd4 ct4), sl4⟩) (c4 : PySem.W.codeIn K cd4 "is_region" = true) (k4 : PySem.W.keepIn K (.ref f4) = true)
    (a5 : PySem.W.nsIn K mainGlobals "is_layout" = some (some (.ref f5))) (l5 : K.lookup f5 = some ⟨oc5, od5, .func (PySem.W.fnOf "is_layout" "is_layout" (defArgs s_is_layout) (defBody s_is_layout) (defScope s_is_layout) .none kV5 dc5 pm5 an5 cd5 ct5), sl5⟩) (c5 : PySem.W.codeIn K cd5 "is_layout" = true) (k5 : PySem.W.keepIn K (.ref f5) = true)
    (a6 : PySem.W.nsIn K mainGlobals "is_code_file" = some (some (.ref f6))) (l6 : K.lookup f6 = some ⟨oc6, od6, .func (PySem.W.fnOf "is_code_file" "is_code_file" (defArgs s_is_code_file) (defBody s_is_code_file) (defScope s_is_code_file) .none kV6 dc6 pm6 an6 cd6 ct6), sl6⟩) (c6 : PySem.W.codeIn K cd6 "is_code_file" = true) (k6 : PySem.W.keepIn K (.ref f6) = true)
    (a7 : PySem.W.nsIn K mainGlobals "region_end" = some (some (.ref f7))) (l7 : K.lookup f7 = some ⟨oc7, od7, .func (PySem.W.fnOf "region_end" "region_end" (defArgs s_region_end) (defBody s_region_end) (defScope s_region_end) .none kV7 dc7 pm7 an7 cd7 ct7), sl7⟩) (c7 : PySem.W.codeIn K cd7 "region_end" = true) (k7 : PySem.W.keepIn K (.ref f7) = true)
    (a8 : PySem.W.nsIn K mainGlobals "layout_end" = some (some (.ref f8))) (l8 : K.lookup f8 = some ⟨oc8, od8, .func (PySem.W.fnOf "layout_end" "layout_end" (defArgs s_layout_end) (defBody s_layout_end) (defScope s_layout_end) .none kV8 dc8 pm8 an8 cd8 ct8), sl8⟩) (c8 : PySem.W.codeIn K cd8 "layout_end" = true) (k8 : PySem.W.keepIn K (.ref f8) = true)
    (a9 : PySem.W.nsIn K mainGlobals "region_at" = some (some (.ref f9))) (l9 : K.lookup f9 = some ⟨oc9, od9, .func (PySem.W.fnOf "region_at" "region_at" (defArgs s_region_at) (defBody s_region_at) (defScope s_region_at) .none kV9 dc9 pm9 an9 cd9 ct9), sl9⟩) (c9 : PySem.W.codeIn K cd9 "region_at" = true) (k9 : PySem.W.keepIn K (.ref f9) = true)
    (a10 : PySem.W.nsIn K mainGlobals "is_memory" = some (some (.ref f10))) (l10 : K.lookup f10 = some ⟨oc10, od10, .func (PySem.W.fnOf "is_memory" "is_memory" (defArgs s_is_memory) (defBody s_is_memory) (defScope s_is_memory) .none kV10 dc10 pm10 an10 (.ref cc10) ct10), sl10⟩) (c10 : PySem.W.codeIn K (.ref cc10) "is_memory" = true) (k10 : PySem.W.keepIn K (.ref f10) = true)
    (qk10 : K.lookup cc10 = some ⟨oq10, dq10, .fields vq10, sq10⟩) (vk10 : vq10[11]? = some (.ref P10)) (np10 : K.lookup P10 = none)
    (a11 : PySem.W.nsIn K mainGlobals "_law_source" = some (some (.ref f11))) (l11 : K.lookup f11 = some ⟨oc11, od11, .func (PySem.W.fnOf "_law_source" "_law_source" (defArgs s_law_source) (defBody s_law_source) (defScope s_law_source) .none kV11 dc11 pm11 an11 cd11 ct11), sl11⟩) (c11 : PySem.W.codeIn K cd11 "_law_source" = true) (k11 : PySem.W.keepIn K (.ref f11) = true)
    (a12 : PySem.W.nsIn K mainGlobals "_law_draw" = some (some (.ref f12))) (l12 : K.lookup f12 = some ⟨oc12, od12, .func (PySem.W.fnOf "_law_draw" "_law_draw" (defArgs s_law_draw) (defBody s_law_draw) (defScope s_law_draw) .none kV12 dc12 pm12 an12 cd12 ct12), sl12⟩) (c12 : PySem.W.codeIn K cd12 "_law_draw" = true) (k12 : PySem.W.keepIn K (.ref f12) = true)
    (a13 : PySem.W.nsIn K mainGlobals "_law_is_number" = some (some (.ref f13))) (l13 : K.lookup f13 = some ⟨oc13, od13, .func (PySem.W.fnOf "_law_is_number" "_law_is_number" (defArgs s_law_is_number) (defBody s_law_is_number) (defScope s_law_is_number) .none kV13 dc13 pm13 an13 cd13 ct13), sl13⟩) (c13 : PySem.W.codeIn K cd13 "_law_is_number" = true) (k13 : PySem.W.keepIn K (.ref f13) = true)
    (a14 : PySem.W.nsIn K mainGlobals "_law_layout" = some (some (.ref f14))) (l14 : K.lookup f14 = some ⟨oc14, od14, .func (PySem.W.fnOf "_law_layout" "_law_layout" (defArgs s_law_layout) (defBody s_law_layout) (defScope s_law_layout) .none kV14 dc14 pm14 an14 cd14 ct14), sl14⟩) (c14 : PySem.W.codeIn K cd14 "_law_layout" = true) (k14 : PySem.W.keepIn K (.ref f14) = true)
    (a15 : PySem.W.nsIn K mainGlobals "_law_is_region" = some (some (.ref f15))) (l15 : K.lookup f15 = some ⟨oc15, od15, .func (PySem.W.fnOf "_law_is_region" "_law_is_region" (defArgs s_law_is_region) (defBody s_law_is_region) (defScope s_law_is_region) .none kV15 dc15 pm15 an15 cd15 ct15), sl15⟩) (c15 : PySem.W.codeIn K cd15 "_law_is_region" = true) (k15 : PySem.W.keepIn K (.ref f15) = true)
    (a16 : PySem.W.nsIn K mainGlobals "_law_is_layout" = some (some (.ref f16))) (l16 : K.lookup f16 = some ⟨oc16, od16, .func (PySem.W.fnOf "_law_is_layout" "_law_is_layout" (defArgs s_law_is_layout) (defBody s_law_is_layout) (defScope s_law_is_layout) .none kV16 dc16 pm16 an16 cd16 ct16), sl16⟩) (c16 : PySem.W.codeIn K cd16 "_law_is_layout" = true) (k16 : PySem.W.keepIn K (.ref f16) = true)
    (a17 : PySem.W.nsIn K mainGlobals "_law_other" = some (some (.ref f17))) (l17 : K.lookup f17 = some ⟨oc17, od17, .func (PySem.W.fnOf "_law_other" "_law_other" (defArgs s_law_other) (defBody s_law_other) (defScope s_law_other) .none kV17 dc17 pm17 an17 cd17 ct17), sl17⟩) (c17 : PySem.W.codeIn K cd17 "_law_other" = true) (k17 : PySem.W.keepIn K (.ref f17) = true)
    (a18 : PySem.W.nsIn K mainGlobals "_law_changed" = some (some (.ref f18))) (l18 : K.lookup f18 = some ⟨oc18, od18, .func (PySem.W.fnOf "_law_changed" "_law_changed" (defArgs s_law_changed) (defBody s_law_changed) (defScope s_law_changed) .none kV18 dc18 pm18 an18 cd18 ct18), sl18⟩) (c18 : PySem.W.codeIn K cd18 "_law_changed" = true) (k18 : PySem.W.keepIn K (.ref f18) = true)
    (a19 : PySem.W.nsIn K mainGlobals "_law_answers" = some (some (.ref f19))) (l19 : K.lookup f19 = some ⟨oc19, od19, .func (PySem.W.fnOf "_law_answers" "_law_answers" (defArgs s_law_answers) (defBody s_law_answers) (defScope s_law_answers) .none kV19 dc19 pm19 an19 cd19 ct19), sl19⟩) (c19 : PySem.W.codeIn K cd19 "_law_answers" = true) (k19 : PySem.W.keepIn K (.ref f19) = true)
    (a20 : PySem.W.nsIn K mainGlobals "_law_regions_hold" = some (some (.ref f20))) (l20 : K.lookup f20 = some ⟨oc20, od20, .func (PySem.W.fnOf "_law_regions_hold" "_law_regions_hold" (defArgs s_law_regions_hold) (defBody s_law_regions_hold) (defScope s_law_regions_hold) .none kV20 dc20 pm20 an20 cd20 ct20), sl20⟩) (c20 : PySem.W.codeIn K cd20 "_law_regions_hold" = true) (k20 : PySem.W.keepIn K (.ref f20) = true)
    (a21 : PySem.W.nsIn K mainGlobals "_law_memory" = some (some (.ref f21))) (l21 : K.lookup f21 = some ⟨oc21, od21, .func (PySem.W.fnOf "_law_memory" "_law_memory" (defArgs s_law_memory) (defBody s_law_memory) (defScope s_law_memory) .none kV21 dc21 pm21 an21 cd21 ct21), sl21⟩) (c21 : PySem.W.codeIn K cd21 "_law_memory" = true) (k21 : PySem.W.keepIn K (.ref f21) = true)
    (a22 : PySem.W.nsIn K mainGlobals "_law_is_memory" = some (some (.ref f22))) (l22 : K.lookup f22 = some ⟨oc22, od22, .func (PySem.W.fnOf "_law_is_memory" "_law_is_memory" (defArgs s_law_is_memory) (defBody s_law_is_memory) (defScope s_law_is_memory) .none kV22 dc22 pm22 an22 cd22 ct22), sl22⟩) (c22 : PySem.W.codeIn K cd22 "_law_is_memory" = true) (k22 : PySem.W.keepIn K (.ref f22) = true)
    (a23 : PySem.W.nsIn K mainGlobals "_law_memories_hold" = some (some (.ref f23))) (l23 : K.lookup f23 = some ⟨oc23, od23, .func (PySem.W.fnOf "_law_memories_hold" "_law_memories_hold" (defArgs s_law_memories_hold) (defBody s_law_memories_hold) (defScope s_law_memories_hold) .none kV23 dc23 pm23 an23 cd23 ct23), sl23⟩) (c23 : PySem.W.codeIn K cd23 "_law_memories_hold" = true) (k23 : PySem.W.keepIn K (.ref f23) = true)
    (a24 : PySem.W.nsIn K mainGlobals "law" = some (some (.ref f24))) (l24 : K.lookup f24 = some ⟨oc24, od24, .func (PySem.W.fnOf "law" "law" (defArgs s_law) (defBody s_law) (defScope s_law) .none kV24 dc24 pm24 an24 cd24 ct24), sl24⟩) (c24 : PySem.W.codeIn K cd24 "law" = true) (k24 : PySem.W.keepIn K (.ref f24) = true)
    (g_FLOWS : PySem.W.nsIn K mainGlobals "FLOWS" = some (some (.ref c_FLOWS)))
    (g_MOST_INSTRUCTIONS : PySem.W.nsIn K mainGlobals "MOST_INSTRUCTIONS" = some (some (.int (20000) t_MOST_INSTRUCTIONS)))
    (g_NUMBERS : PySem.W.nsIn K mainGlobals "NUMBERS" = some (some (.ref c_NUMBERS)))
    (lk_NUMBERS : K.lookup c_NUMBERS = some ⟨.type "dict", none, .dict es_NUMBERS n_NUMBERS, #[]⟩) (kl_NUMBERS : PySem.W.KeysLit w.params es_NUMBERS.toList) (lo_NUMBERS : (c_NUMBERS == sysModules) = false)
    (g_GREATEST : PySem.W.nsIn K mainGlobals "GREATEST" = some (some (.ref c_GREATEST)))
    (lk_GREATEST : K.lookup c_GREATEST = some ⟨.type "dict", none, .dict es_GREATEST n_GREATEST, #[]⟩) (kl_GREATEST : PySem.W.KeysLit w.params es_GREATEST.toList) (lo_GREATEST : (c_GREATEST == sysModules) = false)
    (g_MOST_REGIONS : PySem.W.nsIn K mainGlobals "MOST_REGIONS" = some (some (.int (256) t_MOST_REGIONS)))
    (g_MOST_ADDRESSES : PySem.W.nsIn K mainGlobals "MOST_ADDRESSES" = some (some (.int (4096) t_MOST_ADDRESSES)))
    (g_GREATEST_WORD : PySem.W.nsIn K mainGlobals "GREATEST_WORD" = some (some (.int (65535) t_GREATEST_WORD)))
    (z_abs : PySem.W.nsIn K mainGlobals "abs" = some none)
    (z_all : PySem.W.nsIn K mainGlobals "all" = some none)
    (z_bool : PySem.W.nsIn K mainGlobals "bool" = some none)
    (z_int : PySem.W.nsIn K mainGlobals "int" = some none)
    (z_isinstance : PySem.W.nsIn K mainGlobals "isinstance" = some none)
    (z_len : PySem.W.nsIn K mainGlobals "len" = some none)
    (z_list : PySem.W.nsIn K mainGlobals "list" = some none)
    (z_max : PySem.W.nsIn K mainGlobals "max" = some none)
    (z_min : PySem.W.nsIn K mainGlobals "min" = some none)
    (z_range : PySem.W.nsIn K mainGlobals "range" = some none)
    (z_str : PySem.W.nsIn K mainGlobals "str" = some none)
    (z_tuple : PySem.W.nsIn K mainGlobals "tuple" = some none)
    (z_zip : PySem.W.nsIn K mainGlobals "zip" = some none)
    (kitd_FLOWS : repB K 6 (.ref c_FLOWS) d_FLOWS = true)
    (kit_NUMBERS : kdB K c_NUMBERS kd_NUMBERS = true)
    (kit_GREATEST : kdB K c_GREATEST kd_GREATEST = true)
    (rc2 : ((recsOf q).find? fun e => e.name == ("is_instruction" : Str)).isSome = true)
    (rc3 : ((recsOf q).find? fun e => e.name == ("is_code" : Str)).isSome = true)
    (rc10 : ((recsOf q).find? fun e => e.name == ("is_memory" : Str)).isSome = true)
    (ndT : [P2, P3, P10].Nodup)
    : LamX.LawAtS l w K CX0 7 63 "script" mg fa h := by
  have e := hfa.symm.trans (PySem.W.mg_of X G a24)
  cases e
  have F1 := fun_mk (st := s_is_integer) l1 c1 k1
  have b1 := F1.binds (ps := ["value", "least", "greatest"]) fun _ _ _ _ _ _ us hl => match us, hl with | [_, _, _], _ => rfl
  have F2 := GA.func_mk (st := s_is_instruction) l2 c2 k2
  have b2 := F2.binds (ps := ["value"]) fun _ _ _ _ _ _ us hl => match us, hl with | [_], _ => rfl
  have F3 := GA.func_mk (st := s_is_code) l3 c3 k3
  have b3 := F3.binds (ps := ["value"]) fun _ _ _ _ _ _ us hl => match us, hl with | [_], _ => rfl
  have F4 := fun_mk (st := s_is_region) l4 c4 k4
  have b4 := F4.binds (ps := ["value"]) fun _ _ _ _ _ _ us hl => match us, hl with | [_], _ => rfl
  have F5 := fun_mk (st := s_is_layout) l5 c5 k5
  have b5 := F5.binds (ps := ["value"]) fun _ _ _ _ _ _ us hl => match us, hl with | [_], _ => rfl
  have F6 := fun_mk (st := s_is_code_file) l6 c6 k6
  have b6 := F6.binds (ps := ["value"]) fun _ _ _ _ _ _ us hl => match us, hl with | [_], _ => rfl
  have F7 := fun_mk (st := s_region_end) l7 c7 k7
  have b7 := F7.binds (ps := ["region"]) fun _ _ _ _ _ _ us hl => match us, hl with | [_], _ => rfl
  have F8 := fun_mk (st := s_layout_end) l8 c8 k8
  have b8 := F8.binds (ps := ["layout"]) fun _ _ _ _ _ _ us hl => match us, hl with | [_], _ => rfl
  have F9 := fun_mk (st := s_region_at) l9 c9 k9
  have b9 := F9.binds (ps := ["layout", "address"]) fun _ _ _ _ _ _ us hl => match us, hl with | [_, _], _ => rfl
  have F10 := GA.func_mk (st := s_is_memory) l10 c10 k10
  have b10 := F10.binds (ps := ["layout", "value"]) fun _ _ _ _ _ _ us hl => match us, hl with | [_, _], _ => rfl
  have F11 := fun_mk (st := s_law_source) l11 c11 k11
  have b11 := F11.binds (ps := ["script", "k"]) fun _ _ _ _ _ _ us hl => match us, hl with | [_, _], _ => rfl
  have F12 := fun_mk (st := s_law_draw) l12 c12 k12
  have b12 := F12.binds (ps := ["source", "many"]) fun _ _ _ _ _ _ us hl => match us, hl with | [_, _], _ => rfl
  have F13 := fun_mk (st := s_law_is_number) l13 c13 k13
  have b13 := F13.binds (ps := ["value", "least", "greatest"]) fun _ _ _ _ _ _ us hl => match us, hl with | [_, _, _], _ => rfl
  have F14 := fun_mk (st := s_law_layout) l14 c14 k14
  have b14 := F14.binds (ps := ["source"]) fun _ _ _ _ _ _ us hl => match us, hl with | [_], _ => rfl
  have F15 := fun_mk (st := s_law_is_region) l15 c15 k15
  have b15 := F15.binds (ps := ["region"]) fun _ _ _ _ _ _ us hl => match us, hl with | [_], _ => rfl
  have F16 := fun_mk (st := s_law_is_layout) l16 c16 k16
  have b16 := F16.binds (ps := ["value"]) fun _ _ _ _ _ _ us hl => match us, hl with | [_], _ => rfl
  have F17 := fun_mk (st := s_law_other) l17 c17 k17
  have b17 := F17.binds (ps := ["source"]) fun _ _ _ _ _ _ us hl => match us, hl with | [_], _ => rfl
  have F18 := fun_mk (st := s_law_changed) l18 c18 k18
  have b18 := F18.binds (ps := ["source", "layout"]) fun _ _ _ _ _ _ us hl => match us, hl with | [_, _], _ => rfl
  have F19 := fun_mk (st := s_law_answers) l19 c19 k19
  have b19 := F19.binds (ps := ["value", "due"]) fun _ _ _ _ _ _ us hl => match us, hl with | [_, _], _ => rfl
  have F20 := fun_mk (st := s_law_regions_hold) l20 c20 k20
  have b20 := F20.binds (ps := ["source", "layout"]) fun _ _ _ _ _ _ us hl => match us, hl with | [_, _], _ => rfl
  have F21 := fun_mk (st := s_law_memory) l21 c21 k21
  have b21 := F21.binds (ps := ["source", "layout"]) fun _ _ _ _ _ _ us hl => match us, hl with | [_, _], _ => rfl
  have F22 := fun_mk (st := s_law_is_memory) l22 c22 k22
  have b22 := F22.binds (ps := ["layout", "value"]) fun _ _ _ _ _ _ us hl => match us, hl with | [_, _], _ => rfl
  have F23 := fun_mk (st := s_law_memories_hold) l23 c23 k23
  have b23 := F23.binds (ps := ["source", "layout"]) fun _ _ _ _ _ _ us hl => match us, hl with | [_, _], _ => rfl
  have F24 := fun_mk (st := s_law) l24 c24 k24
  have b24 := F24.binds (ps := ["script"]) fun _ _ _ _ _ _ us hl => match us, hl with | [_], _ => rfl
  let T : Tx w K mg := ⟨_, _, F1, b1, PySem.W.mg_of X G a1, _, _, cc2, P2, F2, b2, PySem.W.mg_of X G a2, _, _, cc3, P3, F3, b3, PySem.W.mg_of X G a3, _, _, F4, b4, PySem.W.mg_of X G a4, _, _, F5, b5, PySem.W.mg_of X G a5, _, _, F6, b6, PySem.W.mg_of X G a6, _, _, F7, b7, PySem.W.mg_of X G a7, _, _, F8, b8, PySem.W.mg_of X G a8, _, _, F9, b9, PySem.W.mg_of X G a9, _, _, cc10, P10, F10, b10, PySem.W.mg_of X G a10, _, _, F11, b11, PySem.W.mg_of X G a11, _, _, F12, b12, PySem.W.mg_of X G a12, _, _, F13, b13, PySem.W.mg_of X G a13, _, _, F14, b14, PySem.W.mg_of X G a14, _, _, F15, b15, PySem.W.mg_of X G a15, _, _, F16, b16, PySem.W.mg_of X G a16, _, _, F17, b17, PySem.W.mg_of X G a17, _, _, F18, b18, PySem.W.mg_of X G a18, _, _, F19, b19, PySem.W.mg_of X G a19, _, _, F20, b20, PySem.W.mg_of X G a20, _, _, F21, b21, PySem.W.mg_of X G a21, _, _, F22, b22, PySem.W.mg_of X G a22, _, _, F23, b23, PySem.W.mg_of X G a23, _, _, F24, b24, PySem.W.mg_of X G a24, _, PySem.W.mg_of X G g_FLOWS, rfl, _, PySem.W.mg_of X G g_MOST_INSTRUCTIONS, ⟨_, rfl⟩, _, PySem.W.mg_of X G g_NUMBERS, rfl, _, _, ⟨lk_NUMBERS, kl_NUMBERS, lo_NUMBERS⟩, _, PySem.W.mg_of X G g_GREATEST, rfl, _, _, ⟨lk_GREATEST, kl_GREATEST, lo_GREATEST⟩, _, PySem.W.mg_of X G g_MOST_REGIONS, ⟨_, rfl⟩, _, PySem.W.mg_of X G g_MOST_ADDRESSES, ⟨_, rfl⟩, _, PySem.W.mg_of X G g_GREATEST_WORD, ⟨_, rfl⟩, PySem.W.mg_none_of X G z_abs, PySem.W.mg_none_of X G z_all, PySem.W.mg_none_of X G z_bool, PySem.W.mg_none_of X G z_int, PySem.W.mg_none_of X G z_isinstance, PySem.W.mg_none_of X G z_len, PySem.W.mg_none_of X G z_list, PySem.W.mg_none_of X G z_max, PySem.W.mg_none_of X G z_min, PySem.W.mg_none_of X G z_range, PySem.W.mg_none_of X G z_str, PySem.W.mg_none_of X G z_tuple, PySem.W.mg_none_of X G z_zip, kitd_FLOWS, kit_NUMBERS, kit_GREATEST⟩
  obtain ⟨hd2, ht2⟩ := gt _ _ _ rc2 (GA.tab_by a2 l2 rfl qk2 vk2)
  obtain ⟨hd3, ht3⟩ := gt _ _ _ rc3 (GA.tab_by a3 l3 rfl qk3 vk3)
  obtain ⟨hd10, ht10⟩ := gt _ _ _ rc10 (GA.tab_by a10 l10 rfl qk10 vk10)
  refine ⟨PySem.W.fnOf "law" "law" (defArgs s_law) (defBody s_law) (defScope s_law) .none kV24 dc24 pm24 an24 cd24 ct24, [(cc2, P2), (cc3, P3), (cc10, P10)], spLaw K [P2, P3, P10], fun q hq => ?_, fun q hq => ?_, fun q hq => ?_, fun s v => .of_eq rfl, fun H a ns hl _ hT hS => ⟨a, ns, rfl, hS, hl, ndT, fun r hr => ?_, fun _ => rfl⟩, fun base _ _ hB => ok_law' T (hB (cc2, P2) (by simp)) (hB (cc3, P3) (by simp)) (hB (cc10, P10) (by simp)) F24⟩
  · simp only [List.mem_cons, List.not_mem_nil, or_false] at hq
    rcases hq with rfl | rfl | rfl
    · exact ht2
    · exact ht3
    · exact ht10
  · simp only [List.mem_cons, List.not_mem_nil, or_false] at hq
    rcases hq with rfl | rfl | rfl
    · exact np2
    · exact np3
    · exact np10
  · simp only [List.mem_cons, List.not_mem_nil, or_false] at hq
    rcases hq with rfl | rfl | rfl
    · exact hd2
    · exact hd3
    · exact hd10
  · simp only [List.mem_cons, List.not_mem_nil, or_false] at hr
    rcases hr with hr | hr | hr
    · rw [hr]; exact hT (cc2, P2) (by simp)
    · rw [hr]; exact hT (cc3, P3) (by simp)
    · rw [hr]; exact hT (cc10, P10) (by simp)
end K27
open PySem PySem.W PyProof.Rows
set_option maxHeartbeats 0 in
theorem PySem.Challenge.cw_quietsmith_k27_layout_forms_holds : PySem.Challenge.rw_quietsmith_k27_layout_forms.Holds := by
  w_on; o_law; k_head; (case hw => w_witness2)
  k_fill
  refine GA.walk_ofG (l := PySem.Challenge.rw_quietsmith_k27_layout_forms) (n := 63) (k := 7) (x := "script") (CX := fun _ => L2.CX0) rfl (by decide) rfl ⟨rfl, by decide, by decide⟩ (fun w h Y => PySem.W.kIn_of Y) ?F (fun _ _ _ _ _ h => h)
  case F =>
    intro w mg fa h Y KX G hmg gt
    refine' K27.all_mk KX G hmg gt ?a1 ?l1 ?c1 ?k1 ?a2 ?l2 ?c2 ?k2 ?qk2 ?vk2 ?np2 ?a3 ?l3 ?c3 ?k3 ?qk3 ?vk3 ?np3 ?a4 ?l4 ?c4 ?k4 ?a5 ?l5 ?c5 ?k5 ?a6 ?l6 ?c6 ?k6 ?a7 ?l7 ?c7 ?k7 ?a8 ?l8 ?c8 ?k8 ?a9 ?l9 ?c9 ?k9 ?a10 ?l10 ?c10 ?k10 ?qk10 ?vk10 ?np10 ?a11 ?l11 ?c11 ?k11 ?a12 ?l12 ?c12 ?k12 ?a13 ?l13 ?c13 ?k13 ?a14 ?l14 ?c14 ?k14 ?a15 ?l15 ?c15 ?k15 ?a16 ?l16 ?c16 ?k16 ?a17 ?l17 ?c17 ?k17 ?a18 ?l18 ?c18 ?k18 ?a19 ?l19 ?c19 ?k19 ?a20 ?l20 ?c20 ?k20 ?a21 ?l21 ?c21 ?k21 ?a22 ?l22 ?c22 ?k22 ?a23 ?l23 ?c23 ?k23 ?a24 ?l24 ?c24 ?k24 ?g_FLOWS ?g_MOST_INSTRUCTIONS ?g_NUMBERS ?lk_NUMBERS ?kl_NUMBERS ?lo_NUMBERS ?g_GREATEST ?lk_GREATEST ?kl_GREATEST ?lo_GREATEST ?g_MOST_REGIONS ?g_MOST_ADDRESSES ?g_GREATEST_WORD ?z_abs ?z_all ?z_bool ?z_int ?z_isinstance ?z_len ?z_list ?z_max ?z_min ?z_range ?z_str ?z_tuple ?z_zip ?kitd_FLOWS ?kit_NUMBERS ?kit_GREATEST ?rc2 ?rc3 ?rc10 ?ndT
    (case a1 => k_is)
    (case l1 => k_is)
    (case c1 => k_is)
    (case k1 => k_is)
    (case a2 => k_is)
    (case l2 => k_is)
    (case c2 => k_is)
    (case k2 => k_is)
    (case qk2 => k_is)
    (case vk2 => rfl)
    (case np2 => kernel_rfl)
    (case a3 => k_is)
    (case l3 => k_is)
    (case c3 => k_is)
    (case k3 => k_is)
    (case qk3 => k_is)
    (case vk3 => rfl)
    (case np3 => kernel_rfl)
    (case a4 => k_is)
    (case l4 => k_is)
    (case c4 => k_is)
    (case k4 => k_is)
    (case a5 => k_is)
    (case l5 => k_is)
    (case c5 => k_is)
    (case k5 => k_is)
    (case a6 => k_is)
    (case l6 => k_is)
    (case c6 => k_is)
    (case k6 => k_is)
    (case a7 => k_is)
    (case l7 => k_is)
    (case c7 => k_is)
    (case k7 => k_is)
    (case a8 => k_is)
    (case l8 => k_is)
    (case c8 => k_is)
    (case k8 => k_is)
    (case a9 => k_is)
    (case l9 => k_is)
    (case c9 => k_is)
    (case k9 => k_is)
    (case a10 => k_is)
    (case l10 => k_is)
    (case c10 => k_is)
    (case k10 => k_is)
    (case qk10 => k_is)
    (case vk10 => rfl)
    (case np10 => kernel_rfl)
    (case a11 => k_is)
    (case l11 => k_is)
    (case c11 => k_is)
    (case k11 => k_is)
    (case a12 => k_is)
    (case l12 => k_is)
    (case c12 => k_is)
    (case k12 => k_is)
    (case a13 => k_is)
    (case l13 => k_is)
    (case c13 => k_is)
    (case k13 => k_is)
    (case a14 => k_is)
    (case l14 => k_is)
    (case c14 => k_is)
    (case k14 => k_is)
    (case a15 => k_is)
    (case l15 => k_is)
    (case c15 => k_is)
    (case k15 => k_is)
    (case a16 => k_is)
    (case l16 => k_is)
    (case c16 => k_is)
    (case k16 => k_is)
    (case a17 => k_is)
    (case l17 => k_is)
    (case c17 => k_is)
    (case k17 => k_is)
    (case a18 => k_is)
    (case l18 => k_is)
    (case c18 => k_is)
    (case k18 => k_is)
    (case a19 => k_is)
    (case l19 => k_is)
    (case c19 => k_is)
    (case k19 => k_is)
    (case a20 => k_is)
    (case l20 => k_is)
    (case c20 => k_is)
    (case k20 => k_is)
    (case a21 => k_is)
    (case l21 => k_is)
    (case c21 => k_is)
    (case k21 => k_is)
    (case a22 => k_is)
    (case l22 => k_is)
    (case c22 => k_is)
    (case k22 => k_is)
    (case a23 => k_is)
    (case l23 => k_is)
    (case c23 => k_is)
    (case k23 => k_is)
    (case a24 => k_is)
    (case l24 => k_is)
    (case c24 => k_is)
    (case k24 => k_is)
    (case g_FLOWS => k_is)
    (case g_MOST_INSTRUCTIONS => k_is)
    (case g_NUMBERS => k_is)
    (case lk_NUMBERS => k_is)
    (case kl_NUMBERS => repeat first | exact True.intro | refine ⟨⟨_, _, rfl, rfl⟩, ?_⟩)
    (case lo_NUMBERS => first | rfl | decide)
    (case g_GREATEST => k_is)
    (case lk_GREATEST => k_is)
    (case kl_GREATEST => repeat first | exact True.intro | refine ⟨⟨_, _, rfl, rfl⟩, ?_⟩)
    (case lo_GREATEST => first | rfl | decide)
    (case g_MOST_REGIONS => k_is)
    (case g_MOST_ADDRESSES => k_is)
    (case g_GREATEST_WORD => k_is)
    (case z_abs => k_is)
    (case z_all => k_is)
    (case z_bool => k_is)
    (case z_int => k_is)
    (case z_isinstance => k_is)
    (case z_len => k_is)
    (case z_list => k_is)
    (case z_max => k_is)
    (case z_min => k_is)
    (case z_range => k_is)
    (case z_str => k_is)
    (case z_tuple => k_is)
    (case z_zip => k_is)
    (case kitd_FLOWS => kernel_rfl)
    (case kit_NUMBERS => kernel_rfl)
    (case kit_GREATEST => kernel_rfl)
    (case rc2 => first | rfl | kernel_rfl)
    (case rc3 => first | rfl | kernel_rfl)
    (case rc10 => first | rfl | kernel_rfl)
    (case ndT => decide)

