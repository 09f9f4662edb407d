import PyProof.Rows.All
import Wide.All
import OpenK.AllK
import Wide.FinOn
import HandS.ForExc
import HandS.ExcInit
import HandS.FStr
import KE.KExcSuper
import HandS.IsInst
import HandS.ExcField
import KE.KExcIs
import KE.KIsAll
import HandS.TryOnly
import HandS.ForMost
import HandS.More
import HandS.TupMul
import HandS.AnyAll
import HandS.EndTab
import HandS.GenList
import HandS.Walk
import HandS.Words
import HandS.Call
import HandS.ExcOwn
import HandS.TupAny
import HandS.WideBits
import HandS.Zip
import HandS.DictComp
import HandS.Flow
import HandS.Codes
import PySem.Challenge.RW_quietsmith_k32_control_steps
set_option Elab.async false
set_option linter.all false
set_option maxRecDepth 100000
set_option maxHeartbeats 4000000
/-! An own error whose __init__ begins with super().__init__(text): its def, kept as a promise. -/
namespace QX
open PySem PySem.Spec PyProof.Rows L2
/-- the last of a row of names that differ -/
theorem last_of {ps : List Str} {us : List Value} (nd : ps.Nodup) : ∀ {i : Nat} {x : Str} {u : Value}, ps[i]? = some x → us[i]? = some u → ((ps.zip us).reverse).lookup x = some u := by
  induction ps generalizing us with
  | nil =>
    intro i x u h _
    cases i <;> cases h
  | cons p r ih =>
    intro i x u h g
    cases us with
    | nil => cases i <;> cases g
    | cons v t =>
      have n1 : p ∉ r := (List.nodup_cons.mp nd).1
      have n2 := (List.nodup_cons.mp nd).2
      rw [List.zip_cons_cons, List.reverse_cons, List.lookup_append]
      cases i with
      | zero =>
        obtain rfl : p = x := Option.some.inj h
        obtain rfl : v = u := Option.some.inj g
        have e : ((r.zip t).reverse).lookup p = none := by
          rw [List.lookup_eq_none_iff]
          intro q hq
          have h1 : q.1 ∈ r := (List.of_mem_zip (List.mem_reverse.mp hq)).1
          exact bne_iff_ne.mpr fun (z : p = q.1) => n1 (by rw [z]; exact h1)
        rw [e]
        simp [List.lookup]
      | succ i =>
        rw [ih n2 h g]
        rfl
/-- a def of a class's body that closes over __class__ -/
structure FunS (P : Program) (K : PySem.W.Frag) (x qual : Str) (st : Stmt) (D f : Addr) (fd : FuncData) : Prop where
  ex : ∃ (oc : Value) (od : Option Addr) (kV doc pm : Value) (an : Option Addr) (cda cc : Addr) (ct : Value) (osl : Array (Option Value)) (ccl : Value) (cdd : Option Addr) (vs : Array Value) (ccs : Array (Option Value)) (file : Str) (tf : Tok) (cl : Value) (cld : Option Addr) (csl : Array (Option Value)),
    fd = PySem.W.ksFn x qual (defArgs st) (defBody st) (defScope st) .none kV doc pm an (.ref cda) ct cc ∧ K.lookup f = some ⟨oc, od, .func fd, osl⟩ ∧ PySem.W.codeIn K (.ref cda) qual = true ∧
    K.lookup cda = some ⟨ccl, cdd, .fields vs, ccs⟩ ∧ vs[2]? = some (.str file tf) ∧ ((P.main.file : Str) == file) = true ∧ K.lookup cc = some ⟨cl, cld, .cell (some (.ref D)), csl⟩
/-- its scope: the parameters alone, and the two names of super() -/
structure ScS (ps : List Str) (sc : Scope) : Prop where
  kind : sc.kind = .function
  co : sc.isCoroutine = false
  gen : sc.isGenerator = false
  par : ∀ n ∈ ps, sc.names.lookup n = some .local
  nd : ps.Nodup
  cell : ∀ y ∈ sc.names, y.2 ≠ .cell
  free : ∀ y ∈ sc.names, y.2 = .free → y.1 = ("__class__" : Str)
  sup : sc.names.lookup ("super" : Str) = some .globalImplicit
  cls : sc.names.lookup ("__class__" : Str) = some .free
abbrev envS (qual : Str) (sc : Scope) (L f : Addr) (cd : Value) (cc : Addr) : Env := PySem.W.ksEnv qual sc L f cd cc
def cxS (CX : CXT) (P : Program) (w : World) (K : PySem.W.Frag) (mg : Str → Option Value) (base : Heap) (N : List Str) (qual : Str) (sc : Scope) (f : Addr) (cd : Value) (cc : Addr) (A : Around) (outer : List Env) (s : Shared) (H : Hp) (E : XK) : Cx where
  prog := P
  w := w
  K := K
  mg := mg
  base := base
  A := A.deeper (envS qual sc s.heap.objs.size f cd cc)
  N := N
  s_0 := s
  H_0 := H
  env := envS qual sc s.heap.objs.size f cd cc
  outer := outer
  stack := envS qual sc s.heap.objs.size f cd cc :: outer
  ex := []
  calm := true
  fn := fun _ => false
  pn := []
  xe := fun e s' => wpAny (model P w) (A.deeper (envS qual sc s.heap.objs.size f cd cc)) (leaving (envS qual sc s.heap.objs.size f cd cc) e) (fun _ s'' => CX outer H s E e s'') (fun e' s'' => CX outer H s E e' s'') s'
theorem kind_of {ps : List Str} {sc : Scope} (S : ScS ps sc) {y : Str} (h : sc.names.lookup y = some .free) : y = ("__class__" : Str) := S.free (y, .free) (PySem.mem_of_lookup h) rfl
theorem begin_S {CX : CXT} {P : Program} {w : World} {K : PySem.W.Frag} {mg : Str → Option Value} {base : Heap} {ps : List Str} {qual : Str} {sc : Scope} {f cc D : Addr} {cd : Value} {A : Around} {outer : List Env} {s : Shared} {h₀ : Heap} {tk : Nat} {H : Hp} {E : XK} {us : List Value} {vs : List V}
    {cl : Value} {cld : Option Addr} {csl : Array (Option Value)} (S : ScS ps sc) (hd : A.handled = none) (e0 : Env0 P w K mg base A outer s H) (hl : vs.length = ps.length) (r : Vals vs us) (lc : K.lookup cc = some ⟨cl, cld, .cell (some (.ref D)), csl⟩)
    (hns : h₀.Ns s.heap.objs.size (fun x => ((ps.zip us).reverse).lookup x)) (hk : ∀ b o, s.heap.get? b = some o → h₀.get? b = some o) :
    Inv (cxS CX P w K mg base ps qual sc f cd cc A outer s H E) [] (L2.start ps vs) H { s with heap := h₀, toks := tk } := by
  have noA : ∀ b : Addr, b ∉ (cxS CX P w K mg base ps qual sc f cd cc A outer s H E).ex := fun b z => absurd (show b ∈ ([] : List Addr) from z) (by simp)
  have one : ∀ {x : Str} {c : Addr}, (cxS CX P w K mg base ps qual sc f cd cc A outer s H E).env.cells.lookup x = some c → x = ("__class__" : Str) ∧ c = cc := by
    intro x c h
    have h2 : ([(("__class__" : Str), cc)] : List (Str × Addr)).lookup x = some c := h
    by_cases e : x = ("__class__" : Str)
    · subst e
      have h3 : some cc = some c := by simpa [List.lookup] using h2
      exact ⟨rfl, (Option.some.inj h3).symm⟩
    · have e2 : (x == ("__class__" : Str)) = false := by simpa using e
      have h3 : (none : Option Addr) = some c := by simpa [List.lookup, e2] using h2
      cases h3
  have b1 := e0.bs cc _ (e0.mod.kin _ _ lc)
  refine ⟨⟨e0.mod, S.kind, rfl, rfl, Nat.le_refl _, fun x y c h1 h2 => (one h1).1.trans (one h2).1.symm, fun y hy => ?_, (fun y c z _ => nomatch z), fun _ => hd, Around.frames_deeper e0.frames, .inr ⟨rfl, rfl⟩, fun b z => absurd z (noA b), e0.bs, e0.bsz, fun b _ _ => noA b, fun b z => absurd z (noA b), e0.funs, e0.frf⟩,
    rfl, e0.bare, Un.kept hk, ⟨_, hns, fun i y v h1 h2 h3 => ?_⟩, fun y c h => ?_, e0.hok.fresh (Nat.le_refl _), fun y c h => ?_, fun p hp => absurd (show p ∈ ([] : List (Addr × Obj)) from hp) (by simp), e0.hok.kept hk, ?_⟩
  · have hy : sc.names.lookup y = some .cell ∨ sc.names.lookup y = some .free := hy
    rcases hy with hy | hy
    · exact absurd rfl (S.cell _ (PySem.mem_of_lookup hy))
    · rw [kind_of S hy]
      exact ⟨cc, rfl⟩
  · have hi : i < vs.length := by
      have := (List.getElem?_eq_some_iff.mp h1).1
      rw [hl]
      exact this
    have ha : vs[i]? = some v := by
      unfold L2.start at h2
      rw [List.getElem?_append_left (by simpa using hi), List.getElem?_map] at h2
      cases e : vs[i]? with
      | none =>
        rw [e] at h2
        cases h2
      | some a =>
        rw [e] at h2
        cases h2
        rfl
    obtain ⟨u, hu, rv⟩ := r.get ha
    exact ⟨u, rv, .inl ⟨S.par y (List.mem_of_getElem? h1), last_of S.nd h1 hu⟩⟩
  · obtain ⟨_, rfl⟩ := one h
    exact ⟨_, ⟨_, hk _ _ b1.1, rfl⟩⟩
  · obtain ⟨_, rfl⟩ := one h
    exact b1.2
  · unfold L2.start
    show _ = ps.length
    rw [List.length_append, List.length_map, List.length_replicate]
    omega

/-- what super().__init__ wants of the class C of the error, whose __init__ stands in D -/
structure SupC (K : PySem.W.Frag) (C D : Addr) : Prop where
  ox : OexC K C
  dcl : ∃ cd, PySem.W.clsIn K D = some cd
  sub : PySem.W.mroIn K C (.ref D) = some true
  ini : PySem.W.ks_superIn K C D "__init__" = some (some (.builtin "ValueError.__init__"))
  ve : PySem.W.subIn K (.ref C) (.type "ValueError") = some true
  tp : PySem.W.nsIn K cStatics "thirdparty.any" = some none
section
variable {X : Cx} {pins : List (Addr × Obj)} {σ : L2.St} {H : Hp} {s : Shared} {a C D u : Addr} {E : Value → Shared → Prop} {A : Around}
/-- the bound __init__ called: nothing of it is told -/
theorem bound_ok {us : List Value} {Q : Value → Shared → Prop} (T : OexC X.K C) (I : Inv X pins σ H s) (e : H a = some (exo a C none)) (hu : s.heap.get? u = some (PySem.W.kxs_mw "ValueError.__init__" a)) (hl : us.length ≤ sizeLine) (h : ∀ s', Inv X pins σ H s' → Q .none s') :
    wpAny (model X.prog X.w) A (call (.ref u) us) Q E s := by
  obtain ⟨nm, q, N, bs, bm, sn, sub, ab, col, dd, k0, k1, k2, k3, k5, hC, hbm⟩ := T.cls
  obtain ⟨t1, ho⟩ := exo_at I.hok e
  have fin : ∀ h', (∀ b o, b ≠ a → s.heap.get? b = some o → h'.get? b = some o) → (∃ t2 : Addr, h'.get? a = some ({ cls := .ref C, dict := none, data := .fields #[.ref t2, .none, .none, .none, .bool false, .none] } : Obj)) → Q .none { s with heap := h' } := fun h' k hx => by
    obtain ⟨t2, hx⟩ := hx
    have J := I.write (t' := s.toks) (x := a) (e := a) (o := exo a C none) (by rw [e]; exact True.intro) (.inl rfl) k ⟨_, hx⟩ (exo_ok hx)
    have eu : upd H a (exo a C none) = H := by
      funext b
      by_cases hb : b = a
      · rw [hb, upd_same, e]
      · rw [upd_ne hb]
    rw [eu] at J
    exact h _ J
  obtain ⟨hh, g, d, tk, os⟩ := s
  refine wpAny_call (codeAny_of_tree ?_)
  show wpAny _ A.in1 (callAny (.ref u) ⟨us, []⟩) _ _ _
  simp only [callAny]
  refine wpAny_bind (wpAny_load hu ?_)
  dsimp only [PySem.W.kxs_mw]
  refine PySem.W.KFB.if_so (by decide) ?_
  refine wpAny_bind (PySem.W.check_bound_init F.excBase_ValueError.toExcCallFacts (I.kIn _ _ hC) ho rfl ?_)
  refine wpAny_bind (wpAny_pure (wpAny_pure ?_))
  refine ⟨plainId_quiet F.excBase_ValueError.init.plain _, codeAny_builtin F.excBase_ValueError.initEntry ?_⟩
  exact PySem.W.exc_init_tree ho hl fun h' k hx _ => fin h' k ⟨_, hx⟩
end

section
variable {CX : CXT} {P : Program} {w : World} {K : PySem.W.Frag} {mg : Str → Option Value} {base : Heap} {ps : List Str} {qual : Str} {sc : Scope} {f cda cc D C a : Addr} {A : Around} {outer : List Env} {s0 s : Shared} {H0 H : Hp} {E : XK} {σ : L2.St}
  {oc : Value} {od : Option Addr} {osl : Array (Option Value)} {fd : FuncData} {ccl : Value} {cdd : Option Addr} {vs : Array Value} {ccs : Array (Option Value)} {file : Str} {tf : Tok} {cl : Value} {cld : Option Addr} {csl : Array (Option Value)}
theorem sup_first {body : List Stmt} {p0 p1 p2 p3 p4 : Pos} {e : Expr} {es : List Expr} {ta : TA} {ar : Arg} {Qn : Hp → Prop} (S : ScS ps sc) (T : SupC K C D) (I : Inv (cxS CX P w K mg base ps qual sc f (.ref cda) cc A outer s0 H0 E) [] σ H s)
    (lf : K.lookup f = some ⟨oc, od, .func fd, osl⟩) (hp : (fd.params.posonlyargs ++ fd.params.args).head? = some ar) (h0 : ps[0]? = some ar.arg) (ha : σ[0]? = some (some (.ref a))) (hx : H a = some (exo a C none))
    (lcd : K.lookup cda = some ⟨ccl, cdd, .fields vs, ccs⟩) (hvs : vs[2]? = some (.str file tf)) (hfile : ((P.main.file : Str) == file) = true) (lc : K.lookup cc = some ⟨cl, cld, .cell (some (.ref D)), csl⟩)
    (hms : mg "super" = none) (htop : (P.main.scope.names.lookup ("super" : Str)).isSome = false)
    {pl : Sem Bool} (hc : eval (.Call (.Attribute (.Call (.Name "super" p0) [] [] p1) "__init__" p2) (e :: es) [] p3) (envS qual sc s0.heap.objs.size f (.ref cda) cc) = (do
      let ov ← attributeBase (.Call (.Name "super" p0) [] [] p1) "__init__" (envS qual sc s0.heap.objs.size f (.ref cda) cc) (eval (.Call (.Name "super" p0) [] [] p1) (envS qual sc s0.heap.objs.size f (.ref cda) cc))
      standAt p2.atName
      let (g, first) ← holding [ov] (getMethod ov "__init__" pl)
      callWith p3 g first (backTo p3 (starEach (e :: es) (envS qual sc s0.heap.objs.size f (.ref cda) cc))) []))
    (hA : PA (cxS CX P w K mg base ps qual sc f (.ref cda) cc A outer s0 H0 E) (e :: es) ta) (q : ta σ H fun ws H1 => ws.length ≤ 1000 ∧ H1 a = some (exo a C none) ∧ Qn H1)
    (he : starEach (e :: es) (envS qual sc s0.heap.objs.size f (.ref cda) cc) = (false, eval e (envS qual sc s0.heap.objs.size f (.ref cda) cc)) :: starEach es (envS qual sc s0.heap.objs.size f (.ref cda) cc))
    (hpl : (backTo p3 (starEach es (envS qual sc s0.heap.objs.size f (.ref cda) cc))).any (·.1) = false)
    (hsw : swapsWith (.Call (.Attribute (.Call (.Name "super" p0) [] [] p1) "__init__" p2) (e :: es) [] p3) none p4.line (envS qual sc s0.heap.objs.size f (.ref cda) cc) = pure false) :
    _root_.PySem.wpAt (model P w) (A.deeper (envS qual sc s0.heap.objs.size f (.ref cda) cc)) (.func body (envS qual sc s0.heap.objs.size f (.ref cda) cc))
      (exec (.Expr (.Call (.Attribute (.Call (.Name "super" p0) [] [] p1) "__init__" p2) (e :: es) [] p3) p4) (envS qual sc s0.heap.objs.size f (.ref cda) cc))
      (fun fl s' => match fl with
        | .next => ∃ H', Inv (cxS CX P w K mg base ps qual sc f (.ref cda) cc A outer s0 H0 E) [] σ H' s' ∧ Qn H'
        | _ => False) (cxS CX P w K mg base ps qual sc f (.ref cda) cc A outer s0 H0 E).xe s := by
  have hi : interactive (envS qual sc s0.heap.objs.size f (.ref cda) cc) = false := by
    unfold interactive
    show (sc.kind == .module && _) = false
    rw [S.kind]
    rfl
  have hkS : (envS qual sc s0.heap.objs.size f (.ref cda) cc).kindOf "super" = some .globalImplicit := S.sup
  have hkC : (envS qual sc s0.heap.objs.size f (.ref cda) cc).kindOf "__class__" = some .free := S.cls
  obtain ⟨m, hns, hm⟩ := I.loc
  obtain ⟨u0, ru, lk⟩ := hm 0 ar.arg (.ref a) h0 ha (.inl (S.par _ (List.mem_of_getElem? h0)))
  obtain rfl : u0 = Value.ref a := ru
  have ma : m ar.arg = some (.ref a) := by
    rcases lk with ⟨_, h⟩ | ⟨h, _⟩
    · exact h
    · have h2 : sc.names.lookup ar.arg = some .cell ∨ sc.names.lookup ar.arg = some .free := h
      rw [S.par _ (List.mem_of_getElem? h0)] at h2
      rcases h2 with h2 | h2 <;> cases h2
  obtain ⟨cd, hcd⟩ := T.dcl
  obtain ⟨oD, hD1, hD2⟩ : ∃ oD, s.heap.get? D = some oD ∧ oD.data = .cls cd := by
    unfold PySem.W.clsIn at hcd
    split at hcd
    · rename_i c d cd' sl ho
      cases hcd
      exact ⟨_, I.kIn _ _ ho, rfl⟩
    · cases hcd
  obtain ⟨t1, hox⟩ := exo_at I.hok hx
  obtain ⟨mb, b1, b2⟩ := I.mod.blt
  refine PySem.ks_wpAt_Expr_any ?_ hi hsw
  refine PySem.ks_wpAt_MethodCall (pl := pl) ?_ hc
  refine PySem.ks_wpAt_super_base hkS hkC (by decide) rfl (I.kIn _ _ lf) rfl hp rfl (I.kIn _ _ lcd) rfl hvs hfile htop ?_
  refine PySem.W.ks_loadName_global S.kind hkS (Calls.loadGlobal_builtin (I.mod.glob.keeps I.bk) hms (b1.keeps I.bk) ((b2 "super" (by decide)).trans (by decide +kernel)) ⟨rfl, ?_⟩)
  refine wpAny_loadName_free S.kind hkC rfl ⟨_, I.kIn _ _ lc, rfl⟩ ?_
  refine wpAny_loadName_local S.kind (S.par _ (List.mem_of_getElem? h0)) hns ma ?_
  refine PySem.ks_wpAny_isType_cls hD1 hD2 ⟨rfl, ?_⟩
  have nc : ∀ c, ({ cls := .ref C, dict := none, data := .fields #[.ref t1, .none, .none, .none, .bool false, .none] } : Obj).data ≠ .cls c := fun c z => by cases z
  obtain ⟨hh, g, d, tk, os⟩ := s
  refine PySem.ks_wpAny_call_super hD1 hD2 hox rfl nc (PySem.W.looks_mroIn I.kIn T.sub) fun h' hso k => ?_
  have I1 := I.kept (t' := tk) k
  obtain ⟨nm, qn, N, bs, bm, sn, sub, ab, col, dd, k0, k1, k2, k3, k5, hC, hbm⟩ := T.ox.cls
  have hcl : PySem.W.clsIn K C = some { name := nm, bases := bs, mro := .ref C :: bm, ns := N, qualname := qn, hasDict := true, slotNames := sn, subclasses := sub, abstract := ab, collection := col, hasDel := false } := by
    unfold PySem.W.clsIn
    rw [hC] <;> rfl
  have hini := T.ini
  unfold PySem.W.ks_superIn at hini
  rw [hcl] at hini
  have hox1 := k _ _ hox
  have J : PySem.W.InstAt h' a { cls := .ref C, dict := none, data := .fields #[.ref t1, .none, .none, .none, .bool false, .none] } C none := ⟨hox1, rfl, rfl, trivial⟩
  refine PySem.W.kxs_getMethod PySem.W.kxs_ValueError hso (PySem.W.looks_opaque I1.kIn T.tp) (l₀ := .ref C :: bm) (fun A Q E s k q => wpAny_bind ((PySem.W.looks_clsIn I1.kIn hcl) A _ E s k (wpAny_pure q))) rfl I1.kIn hini (J.type.andThen (PySem.W.looks_subIn I1.kIn T.ve)) (PySem.W.ks_ne I1.kIn J hcl) (by decide) ?_
  have kp : ∀ b o, h'.get? b = some o → (h'.push (PySem.W.kxs_mw "ValueError.__init__" a)).get? b = some o := fun b o z => Heap.get?_push_of_some _ z
  have I2 := I1.kept (t' := tk + 1) kp
  have hu : (h'.push (PySem.W.kxs_mw "ValueError.__init__" a)).get? h'.objs.size = some (PySem.W.kxs_mw "ValueError.__init__" a) := Heap.get?_push_at rfl rfl
  have I3 : Inv (cxS CX P w K mg base ps qual sc f (.ref cda) cc A outer s0 H0 E) [(h'.objs.size, PySem.W.kxs_mw "ValueError.__init__" a)] σ H ⟨h'.push (PySem.W.kxs_mw "ValueError.__init__" a), g, d, tk + 1, os⟩ :=
    ⟨I2.ok, I2.os, I2.bare, I2.base, I2.loc, I2.cell, I2.free, I2.freeC, fun p hp => by
      have hp2 : p = (h'.objs.size, PySem.W.kxs_mw "ValueError.__init__" a) := List.mem_singleton.mp hp
      subst hp2
      exact ⟨hu, I1.hok.fresh (Nat.le_refl _), Nat.ne_of_gt I1.lt, I1.nofs (Nat.le_refl _), fun v z => by cases z⟩, I2.hok, I2.len⟩
  have qa : wpAny (model P w) (A.deeper (envS qual sc s0.heap.objs.size f (.ref cda) cc)) (spliced (backTo p3 (starEach (e :: es) (envS qual sc s0.heap.objs.size f (.ref cda) cc)))) (AP (cxS CX P w K mg base ps qual sc f (.ref cda) cc A outer s0 H0 E) [(h'.objs.size, PySem.W.kxs_mw "ValueError.__init__" a)] σ fun ws H1 => ws.length ≤ 1000 ∧ H1 a = some (exo a C none) ∧ Qn H1) (cxS CX P w K mg base ps qual sc f (.ref cda) cc A outer s0 H0 E).xe ⟨h'.push (PySem.W.kxs_mw "ValueError.__init__" a), g, d, tk + 1, os⟩ := hA.run p3 _ _ σ H _ I3 q
  show wpAny _ _ (callWith p3 (.ref h'.objs.size) [] (backTo p3 (starEach (e :: es) (envS qual sc s0.heap.objs.size f (.ref cda) cc))) []) _ _ _
  rw [he] at qa ⊢
  refine PySem.W.kxs_callWith (i := "ValueError.__init__") (x := a) (by show (false || (backTo p3 (starEach es (envS qual sc s0.heap.objs.size f (.ref cda) cc))).any (·.1)) = false; rw [hpl]; rfl) ?_
  refine PySem.Calls.evalArgs_plain (thn qa fun us s1 ⟨ws, H1, J1, r1, hz, e1, q1⟩ => ?_)
  have pu := J1.pin (h'.objs.size, PySem.W.kxs_mw "ValueError.__init__" a) (List.mem_append_right _ (List.mem_singleton.mpr rfl))
  refine ⟨pu.1, ?_⟩
  have J2 : Inv (cxS CX P w K mg base ps qual sc f (.ref cda) cc A outer s0 H0 E) [] σ H1 s1 :=
    ⟨J1.ok, J1.os, J1.bare, J1.base, J1.loc, J1.cell, J1.free, J1.freeC, fun p hp => J1.pin p (List.mem_append_left _ (by rw [List.append_nil] at hp; exact hp)), J1.hok, J1.len⟩
  have hlen : us.length ≤ sizeLine := by
    rw [← Paired.length r1, sizeLine_eq]
    omega
  exact bound_ok (X := cxS CX P w K mg base ps qual sc f (.ref cda) cc A outer s0 H0 E) T.ox J2 e1 pu.1 hlen fun s' J' => ⟨H1, J', q1⟩
end
/-- how its arguments bind -/
theorem FunS.binds {P : Program} {K : PySem.W.Frag} {x qual : Str} {st : Stmt} {D f : Addr} {fd : FuncData} {ps : List Str} (F : FunS P K x qual st D f fd)
    (h : ∀ (kV doc pm : Value) (an : Option Addr) (cda cc : Addr) (ct : Value) (us : List Value), us.length = ps.length → bindArgs (PySem.W.ksFn x qual (defArgs st) (defBody st) (defScope st) .none kV doc pm an (.ref cda) ct cc) ⟨us, []⟩ = pure (ps.zip us)) : Binds K fd ps [] := by
  obtain ⟨oc, od, kV, doc, pm, an, cda, cc, ct, osl, ccl, cdd, vs, ccs, file, tf, cl, cld, csl, rfl, _⟩ := F.ex
  exact .all (h kV doc pm an cda cc ct)
/-- THE RULE: super().__init__(e), then the rest -/
theorem FunS.ok {P : Program} {w : World} {K : PySem.W.Frag} {mg : Str → Option Value} {base : Heap} {x qual : Str} {st : Stmt} {D C f : Addr} {fd : FuncData} {ps : List Str} {k : Nat} {sp : Sp} {ar : Arg} {p0 p1 p2 p3 p4 : Pos} {e : Expr} {es : List Expr} {rest : List Stmt}
    (F : FunS P K x qual st D f fd) (S : ScS ps (defScope st)) (T : SupC K C D) (hms : mg "super" = none) (htop : (P.main.scope.names.lookup ("super" : Str)).isSome = false)
    (hb : defBody st = .Expr (.Call (.Attribute (.Call (.Name "super" p0) [] [] p1) "__init__" p2) (e :: es) [] p3) p4 :: rest)
    (hp : ((defArgs st).posonlyargs ++ (defArgs st).args).head? = some ar) (h0 : ps[0]? = some ar.arg)
    (len : ∀ vs H Q E, sp vs H Q E → vs.length = ps.length) (self : ∀ vs H Q E, sp vs H Q E → ∃ a r, vs = .ref a :: r ∧ H a = some (exo a C none))
    {pl : Env → Sem Bool} (hc : ∀ env : Env, eval (.Call (.Attribute (.Call (.Name "super" p0) [] [] p1) "__init__" p2) (e :: es) [] p3) env = (do
      let ov ← attributeBase (.Call (.Name "super" p0) [] [] p1) "__init__" env (eval (.Call (.Name "super" p0) [] [] p1) env)
      standAt p2.atName
      let (g, first) ← holding [ov] (getMethod ov "__init__" (pl env))
      callWith p3 g first (backTo p3 (starEach (e :: es) env)) []))
    (he : ∀ env : Env, starEach (e :: es) env = (false, eval e env) :: starEach es env) (hpl : ∀ env : Env, (backTo p3 (starEach es env)).any (·.1) = false)
    (hsw : ∀ env : Env, swapsWith (.Call (.Attribute (.Call (.Name "super" p0) [] [] p1) "__init__" p2) (e :: es) [] p3) none p4.line env = pure false)
    (hbody : ∀ (cda cc : Addr) (A : Around) (outer : List Env) (s : Shared) (H : Hp) (a : Addr) (vr : List V) (Q : VK) (E : XK), Room k (A.deeper (envS qual (defScope st) s.heap.objs.size f (.ref cda) cc)) → sp (.ref a :: vr) H Q E →
      ∃ ta t, PA (cxS CX0 P w K mg base ps qual (defScope st) f (.ref cda) cc A outer s H E) (e :: es) ta ∧ PSs (cxS CX0 P w K mg base ps qual (defScope st) f (.ref cda) cc A outer s H E) rest t ∧
        ta (L2.start ps (.ref a :: vr)) H fun ws H1 => ws.length ≤ 1000 ∧ H1 a = some (exo a C none) ∧ t { nx := fun _ H' => Q .non H', rt := Q } (L2.start ps (.ref a :: vr)) H1) :
    FnOk P w K mg base CX0 (k + 1) f fd ps sp := by
  obtain ⟨oc, od, kV, doc, pm, an, cda, cc, ct, osl, ccl, cdd, cvs, ccs, file, tf, cl, cld, csl, rfl, lk, hcd, lcd, hvs, hfile, lc⟩ := F.ex
  refine ⟨len, fun A outer s H args us vs Q E hr e0 hbind r hsp => ?_⟩
  have hl := len _ _ _ _ hsp
  have KX : K.In s.heap := e0.mod.kin.keeps fun b o z => (e0.bs b o z).1
  have lim : s.heap.NoLimit := e0.mod.nolimit.keeps fun b o z => (e0.bs b o z).1
  obtain ⟨a, vr, rfl, hx⟩ := self _ _ _ _ hsp
  obtain ⟨ta, t, hA, hS, hq⟩ := hbody cda cc A outer s H a vr Q E (hr.deeper _) hsp
  refine PySem.ks_codeAny_call_defAt (fd := PySem.W.ksFn x qual (defArgs st) (defBody st) (defScope st) .none kV doc pm an (.ref cda) ct cc) (body := defBody st) (binds := ps.zip us) hr.depth (KX _ _ lk) rfl lim (PySem.W.codeRec_of KX hcd) rfl hbind S.cell
    (fun y hy => S.par _ (List.of_mem_zip hy).1) (fun h₀ hns hk => ?_) S.co S.gen S.kind
  have I := begin_S (CX := CX0) (A := A) (outer := outer) (E := E) (f := f) (cd := .ref cda) (tk := s.toks + (ps.zip us).length) (qual := qual) S hr.hd e0 hl r lc hns hk
  have s0 : (L2.start ps (V.ref a :: vr))[0]? = some (some (.ref a)) := rfl
  have first := sup_first (body := defBody st) S T I lk hp h0 s0 hx lcd hvs hfile lc hms htop (hc _) hA hq (he _) (hpl _) (hsw _)
  have eb : execs (defBody st) (envS qual (defScope st) s.heap.objs.size f (.ref cda) cc) = execs (.Expr (.Call (.Attribute (.Call (.Name "super" p0) [] [] p1) "__init__" p2) (e :: es) [] p3) p4 :: rest) (envS qual (defScope st) s.heap.objs.size f (.ref cda) cc) := by rw [hb]
  show _root_.PySem.wpAt _ _ _ (execs (defBody st) (envS qual (defScope st) s.heap.objs.size f (.ref cda) cc)) _ _ _
  rw [eb]
  refine PySem.ks_wpAt_execs_cons (PySem.ks_wpAt_mono first (fun fl s' h => ?_) fun _ _ h => h)
  cases fl with
  | next =>
    obtain ⟨H', J, q'⟩ := h
    refine PySem.wpAt_of_wpAny (wpAny_mono (hS.run [] s' _ H' _ J q') (fun fl2 s2 hs => ?_) fun _ _ h => h)
    have fin : ∀ {σ' : L2.St} {H2 : Hp} {v : V} {u : Value}, Inv (cxS CX0 P w K mg base ps qual (defScope st) f (.ref cda) cc A outer s H E) [] σ' H2 s2 → RelV v u → Q v H2 → CE outer P w H s Q u s2 :=
      fun {σ' H2 v u} J rv q => ⟨v, H2, J.os, J.bare, J.base, J.hok, rv, q⟩
    cases fl2 with
    | ret u =>
      obtain ⟨v, σ', H2, J2, rv, q2⟩ := hs
      exact fin J2 rv q2
    | next =>
      obtain ⟨σ', H2, J2, q2⟩ := hs
      exact fin (v := V.non) (u := Value.none) J2 rfl q2
    | brk =>
      obtain ⟨_, _, _, q2⟩ := hs
      exact q2.elim
    | cont =>
      obtain ⟨_, _, _, q2⟩ := hs
      exact q2.elim
  | ret u => exact h.elim
  | brk => exact h.elim
  | cont => exact h.elim
end QX

set_option Elab.async false
set_option linter.all false
set_option maxRecDepth 100000
set_option maxHeartbeats 4000000
namespace QX
open PySem PySem.Spec PyProof.Rows L2
/-! ### such an error as a value: made, asked for its class, read -/
section
variable {X : Cx} {pins : List (Addr × Obj)} {σ : L2.St} {H : Hp} {s : Shared} {a C D u : Addr} {Q : VK}
/-- an error that is held -/
def Held (H : Hp) (a C : Addr) : Prop := H a = some (exo a C none) ∨ ∃ dx fs, H a = some (exo a C (some dx)) ∧ H dx = some (exd dx fs)
theorem held_at (I : Inv X pins σ H s) (h : Held H a C) : ∃ ox od, PySem.W.InstAt s.heap a ox C od := by
  rcases h with h | ⟨dx, fs, h, hd⟩
  · obtain ⟨t1, e⟩ := exo_at I.hok h
    exact ⟨_, none, e, rfl, rfl, trivial⟩
  · obtain ⟨t1, e⟩ := exo_at I.hok h
    obtain ⟨mA, hns, _⟩ := exd_at I.hok hd
    obtain ⟨od, es, ep, ho, _⟩ := hns
    exact ⟨_, some od, e, rfl, rfl, ho⟩
theorem run_exo {CX : CXT} {fI : Addr} {k : Nat} {fd : FuncData} {ps : List Str} {sp : Sp} {vs : List V} {us : List Value} (T : OexC X.K C) (iC : PySem.W.findIn X.K (.ref C) "__init__" = some (some (.ref fI))) (tI : PySem.W.typeIn X.K (.ref fI) = some (.type "function"))
    (F1 : FnOk X.prog X.w X.K X.mg X.base CX k fI fd ps sp) (hr : Room (k + 1) X.A) (hb : Binds X.K fd ps []) (hx : Passes CX X (fun _ _ _ => False)) (I1 : Inv X pins σ H s) (r1 : Vals vs us) (hz : vs.length ≤ 1000)
    (q1 : ∀ a, H a = none → sp (.ref a :: vs) (upd H a (exo a C none)) (fun v H2 => v = .non ∧ Q (.ref a) H2) fun _ _ _ => False) :
    wpAny (model X.prog X.w) X.A (call (.ref C) us) (fun u s' => ∃ v H', Inv X pins σ H' s' ∧ RelV v u ∧ Q v H') X.xe s := by
  obtain ⟨nm, q, N, bs, bm, sn, sub, ab, col, dd, k0, k1, k2, k3, k5, hC, hbm⟩ := T.cls
  obtain ⟨hp, g, dr, tk, os⟩ := s
  have hn : H (hp.objs.size + 1) = none := I1.hok.fresh (Nat.le_succ _)
  have hq := q1 (hp.objs.size + 1) hn
  have kk : ∀ b o, hp.get? b = some o → ((hp.push (PySem.W.kdv_tup us)).push (PySem.HandSPX.excO C hp.objs.size)).get? b = some o := fun b o e => Heap.get?_push_of_some _ (Heap.get?_push_of_some _ e)
  have hget : ((hp.push (PySem.W.kdv_tup us)).push (PySem.HandSPX.excO C hp.objs.size)).get? (hp.objs.size + 1) = some (PySem.HandSPX.excO C hp.objs.size) := by heap_get
  have I2 : Inv X pins σ (upd H (hp.objs.size + 1) (exo (hp.objs.size + 1) C none)) ⟨(hp.push (PySem.W.kdv_tup us)).push (PySem.HandSPX.excO C hp.objs.size), g, dr, tk, os⟩ :=
    I1.laid (t' := tk) kk (Nat.le_succ _) (exo_ok hget)
  have r2 : Vals (V.ref (hp.objs.size + 1) :: vs) (Value.ref (hp.objs.size + 1) :: us) := .cons rfl r1
  have hl : (Value.ref (hp.objs.size + 1) :: us ++ []).length = ps.length := by
    have e := r2.length
    rw [F1.len _ _ _ _ hq] at e
    rw [List.append_nil]
    exact e.symm
  have hus : us.length ≤ sizeLine := by
    rw [← Paired.length r1, sizeLine_eq]
    omega
  have hbb := hb _ (Value.ref (hp.objs.size + 1) :: us) I2.kIn hl
  rw [List.append_nil] at hbb
  refine wpAny_call (PySem.HandSPX.call_own F.excBase_ValueError (fun Y => PySem.HandSPX.refsVE_contains Y bm hbm) (I1.kIn _ _ hC) (PySem.W.looks_findIn I1.kIn iC) (fun self => PySem.W.bind_fn I1.kIn self tI) hus
    (codeAny_mono (F1.run _ X.stack _ _ ⟨Value.ref (hp.objs.size + 1) :: us, []⟩ _ _ _ (fun _ _ _ => False) (hr.make C us []) (I2.env0.make C us []) hbb r2 hq) fun r s' hq' => ?_))
  cases r with
  | error er => exact hx pins σ _ _ er s' I2 hq'
  | ok fl =>
    cases fl with
    | ret u =>
      obtain ⟨v, H2, os2, bare2, un2, hok2, rv, ev, q2⟩ := hq'
      subst ev
      exact ⟨rv, .ref (hp.objs.size + 1), H2, I2.call' (ch := []) os2 un2 hok2 bare2 (fun b z => absurd z (by simp)), rfl, q2⟩
    | next => exact False.elim hq'
    | brk => exact False.elim hq'
    | cont => exact False.elim hq'
end
/-- C(e, ..) as a value -/
def tMkV (C : Addr) (sp : Sp) (ta : TA) : TE := fun σ H Q => ta σ H fun vs H1 => vs.length ≤ 1000 ∧ ∀ a, H1 a = none → sp (.ref a :: vs) (upd H1 a (exo a C none)) (fun v H2 => v = .non ∧ Q (.ref a) H2) fun _ _ _ => False
section
variable {X : Cx} {CX : CXT} {x : Str} {C fI : Addr} {k : Nat} {fd : FuncData} {ps : List Str} {sp : Sp} {e : Expr} {es : List Expr} {ta : TA} {p pos : Pos}
theorem pe_exo (T : OexC X.K C) (iC : PySem.W.findIn X.K (.ref C) "__init__" = some (some (.ref fI))) (tI : PySem.W.typeIn X.K (.ref fI) = some (.type "function"))
    (F1 : FnOk X.prog X.w X.K X.mg X.base CX k fI fd ps sp) (hr : Room (k + 1) X.A) (hb : Binds X.K fd ps []) (hx : Passes CX X (fun _ _ _ => False)) (hg : Gl X x) (hm : X.mg x = some (.ref C)) (ha : PA X (e :: es) ta)
    (hdb : (x == ("__debug__" : Str)) = false := by decide) (he : starEach (e :: es) X.env = (false, eval e X.env) :: starEach es X.env := by rfl) (hpl : (backTo pos (starEach es X.env)).any (·.1) = false := by rfl) :
    PE X (.Call (.Name x p) (e :: es) [] pos) (tMkV C sp ta) := by
  refine ⟨fun pins s σ H Q I h => ?_⟩
  refine wpAny_Call_Name_kw (ld_glob I hg hm ?_ hdb)
  refine PySem.W.callWith_K (h₀ := X.base) I.ok.mod.kin T.kC (thn (ha.run pos pins s σ H _ I h) fun us s1 ⟨vs, H1, I1, r1, hz, q1⟩ => ⟨I1.kIn, ?_⟩) he hpl
  exact run_exo T iC tI F1 hr hb hx I1 r1 hz q1
theorem pe_exo0 (T : OexC X.K C) (iC : PySem.W.findIn X.K (.ref C) "__init__" = some (some (.ref fI))) (tI : PySem.W.typeIn X.K (.ref fI) = some (.type "function"))
    (F1 : FnOk X.prog X.w X.K X.mg X.base CX k fI fd ps sp) (hr : Room (k + 1) X.A) (hb : Binds X.K fd ps []) (hx : Passes CX X (fun _ _ _ => False)) (hg : Gl X x) (hm : X.mg x = some (.ref C))
    (hdb : (x == ("__debug__" : Str)) = false := by decide) : PE X (.Call (.Name x p) [] [] pos) (tMkV C sp tNil) := by
  refine ⟨fun pins s σ H Q I h => ?_⟩
  refine wpAny_Call_Name_kw (ld_glob I hg hm ?_ hdb)
  obtain ⟨hz, q1⟩ := h
  exact PySem.W.callWith_K0 I.kIn T.kC (run_exo T iC tI F1 hr hb hx I .nil hz q1)
/-- what isinstance asks of the class -/
structure IsC (K : PySem.W.Frag) (C : Addr) : Prop where
  cl : (PySem.W.clsIn K C).isSome = true
  ga : PySem.W.findIn K (.ref C) "__getattribute__" = some (some (.builtin "BaseException.__getattribute__"))
  gg : PySem.W.findIn K (.ref C) "__getattr__" = some none
  sb : PySem.W.subIn K (.ref C) (.type "BaseException") = some true
  ca : PySem.W.findIn K (.ref C) "__class__" = some (some (.builtin "object.__class__"))
  cn : PySem.W.specialIn K (.builtin "object.__class__") "__get__" = some (some (.builtin "getset_descriptor.__get__"))
  ct : PySem.W.takesIn K (.builtin "object.__class__") = some true
  mo : PySem.W.mroIn K C (.type "object") = some true
  hd : PySem.W.hasDictIn K C = true
def rIsX (K : PySem.W.Frag) : List V → Hp → VK → Prop := fun xs H Q => ∃ (a C : Addr) (c : V) (t : Value) (b : Bool), xs = [.ref a, c] ∧ Held H a C ∧ IsC K C ∧ ClsV c t ∧ PySem.W.kitOne K (.ref C) t = some b ∧ Q (.bl b) H
theorem call_isX : CallR X (.builtin "isinstance") (rIsX X.K) := by
  intro pins s σ H xs us Q I r h
  obtain ⟨a, C, c, t, b, rfl, hh, T, hc, e, q⟩ := h
  cases r with
  | cons rx rr =>
    cases rr with
    | cons rt rr =>
      cases rr
      cases rx
      have ec := hc.eq rt
      subst ec
      obtain ⟨ox, od, J⟩ := held_at I hh
      exact PySem.W.kia_one (PySem.W.kitx_exc T.cl T.ga T.gg T.sb T.ca T.cn T.ct T.mo) I.kIn J e (fun z => nomatch z) fun tk => ⟨.bl b, H, I.kept (t' := tk) fun _ _ z => z, rfl, q⟩
/-- e.f of such an error -/
def tFx (K : PySem.W.Frag) (f : Str) (te : TE) : TE := fun σ H Q => te σ H fun x H1 => ∃ (a C dx : Addr) (fs : List (Str × V)) (v : V), x = .ref a ∧ IsC K C ∧ PySem.W.findIn K (.ref C) f = some none ∧ H1 a = some (exo a C (some dx)) ∧ H1 dx = some (exd dx fs) ∧ fs.lookup f = some v ∧ Q v H1
theorem pe_fx {o : Expr} {te : TE} {f : Str} (he : PE X o te) (hb : attributeBase o f X.env (eval o X.env) = eval o X.env := by rfl) : PE X (.Attribute o f pos) (tFx X.K f te) := by
  refine ⟨fun pins s σ H Q I h => ?_⟩
  refine attr_of hb (thn (he.run pins s σ H _ I h) fun u s1 hh => ?_)
  obtain ⟨y, H1, I1, ry, a, C, dx, fs, v, ey, T, hno, ha, hd, hl, q⟩ := hh
  subst ey
  obtain rfl : u = Value.ref a := ry
  obtain ⟨t1, ho⟩ := exo_at I1.hok ha
  obtain ⟨mA, hns, rel⟩ := exd_at I1.hok hd
  obtain ⟨od, hod, hlk⟩ := lookIn_ns hns
  obtain ⟨u, hu, ru⟩ := RelO.some_of (v := v) (o := mA f) (by rw [← hl]; exact rel f)
  have J : PySem.W.InstAt s1.heap a _ C (some od) := ⟨ho, rfl, rfl, hod⟩
  exact HandSPX.exc_get I1.kIn J T.ga T.gg T.sb (PySem.W.findObj_own T.hd hno rfl (by rw [hlk, hu])) (handed_of ru) ⟨v, H1, I1.tok _, ru, q⟩
end
/-- an error class of the text, as the top has made it -/
structure Err (P : Program) (K : PySem.W.Frag) (mg : Str → Option Value) (x qual : Str) (st : Stmt) (ps attrs : List Str) where
  C : Addr
  f : Addr
  fd : FuncData
  F : FunS P K "__init__" qual st C f fd
  b : Binds K fd ps []
  S : SupC K C C
  T : IsC K C
  g : mg x = some (.ref C)
  ini : PySem.W.findIn K (.ref C) "__init__" = some (some (.ref f))
  tI : PySem.W.typeIn K (.ref f) = some (.type "function")
  no : ∀ y ∈ attrs, PySem.W.findIn K (.ref C) y = some none
/-- what may be written into its text -/
def Say : V → Prop
  | .str y => y.length ≤ 1000
  | .int i => 0 ≤ i ∧ i < 10 ^ 10
  | _ => False
def spI0 (C : Addr) : Sp := fun vs H Q _ => ∃ a, vs = [.ref a] ∧ H a = some (exo a C none) ∧ Q .non H
def spI1 (C : Addr) (n : Str) : Sp := fun vs H Q _ => ∃ a v, vs = [.ref a, v] ∧ H a = some (exo a C none) ∧ Say v ∧
  ∀ dx H', H dx = none → (∀ b o, b ≠ a → H b = some o → H' b = some o) → H' a = some (exo a C (some dx)) → H' dx = some (exd dx [(n, v)]) → Q .non H'
def spI2 (C : Addr) (n m : Str) : Sp := fun vs H Q _ => ∃ a v u, vs = [.ref a, v, u] ∧ H a = some (exo a C none) ∧ Say v ∧ Say u ∧
  ∀ dx H', H dx = none → (∀ b o, b ≠ a → H b = some o → H' b = some o) → H' a = some (exo a C (some dx)) → H' dx = some (exd dx [(m, u), (n, v)]) → Q .non H'
theorem fin1 {H : Hp} {a dx C : Addr} {fs : List (Str × V)} (nd : H dx = none) (ne : dx ≠ a) {R : Hp → Prop}
    (q : ∀ H', H dx = none → (∀ b o, b ≠ a → H b = some o → H' b = some o) → H' a = some (exo a C (some dx)) → H' dx = some (exd dx fs) → R H') : R (upd (upd H dx (exd dx fs)) a (exo a C (some dx))) :=
  q _ nd (fun b o nb e => by rw [upd_ne nb, upd_ne (ne_of_none e nd)]; exact e) upd_same (by rw [upd_ne ne, upd_same])
theorem fin2 {H : Hp} {a dx C : Addr} {fs gs : List (Str × V)} (nd : H dx = none) (ne : dx ≠ a) {R : Hp → Prop}
    (q : ∀ H', H dx = none → (∀ b o, b ≠ a → H b = some o → H' b = some o) → H' a = some (exo a C (some dx)) → H' dx = some (exd dx gs) → R H') : R (upd (upd (upd H dx (exd dx fs)) a (exo a C (some dx))) dx (exd dx gs)) :=
  q _ nd (fun b o nb e => by rw [upd_ne (ne_of_none e nd), upd_ne nb, upd_ne (ne_of_none e nd)]; exact e) (by rw [upd_ne ne.symm, upd_same]) upd_same
theorem digits {i : Int} (h0 : 0 ≤ i) (h : i < 10 ^ 10) : (PySem.Str.ofString (toString i)).length ≤ 10 := toString_length_le h0 (by decide) h
theorem log_of {i : Int} (h0 : 0 ≤ i) (h : i < 10 ^ 10) : i.natAbs.log2 < 1920 := by
  have h1 : i.natAbs < 2 ^ 40 := by omega
  have := PySem.Flt.log2_lt_of (by decide : 0 < 40) h1
  omega
theorem app_len (x y : Str) : (x ++ y).length = x.length + y.length := by
  show (x.cps ++ y.cps).size = x.cps.size + y.cps.size
  exact Array.size_append
theorem Say.two {v : V} (h : Say v) : (∃ y : Str, v = .str y ∧ y.length ≤ 1000) ∨ ∃ i : Int, v = .int i ∧ i.natAbs.log2 < 1920 ∧ (toString i : Str).length ≤ 10 := by
  cases v with
  | str y => exact .inl ⟨y, rfl, h⟩
  | int i =>
    obtain ⟨h0, h1⟩ : 0 ≤ i ∧ i < 10 ^ 10 := h
    exact .inr ⟨i, rfl, log_of h0 h1, digits h0 h1⟩
  | non => exact h.elim
  | bl _ => exact h.elim
  | byt _ => exact h.elim
  | flt _ => exact h.elim
  | ref _ => exact h.elim
  | ty _ => exact h.elim
theorem big {n : Nat} (h : n ≤ 5000) : n ≤ sizeLine := Nat.le_trans h (by decide)
theorem len_app {x y : Str} {a b : Nat} (hx : x.length ≤ a) (hy : y.length ≤ b) : (x ++ y).length ≤ a + b := by
  rw [app_len]
  omega
/-- what is asked of an error's class, as one test -/
def errB (K : PySem.W.Frag) (C f : Addr) (attrs : List Str) : Bool :=
  decide (PySem.W.findIn K (.ref C) "__setattr__" = some (some (.builtin "object.__setattr__"))) && (decide (PySem.W.subIn K (.ref C) (.type "BaseException") = some true) &&
  (decide (PySem.W.typeIn K (.ref C) = some (.type "type")) && (PySem.W.keepIn K (.ref C) && ((PySem.W.clsIn K C).isSome && (decide (PySem.W.mroIn K C (.ref C) = some true) &&
  (decide (PySem.W.ks_superIn K C C "__init__" = some (some (.builtin "ValueError.__init__"))) && (decide (PySem.W.subIn K (.ref C) (.type "ValueError") = some true) && (decide (PySem.W.nsIn K cStatics "thirdparty.any" = some none) &&
  (decide (PySem.W.findIn K (.ref C) "__getattribute__" = some (some (.builtin "BaseException.__getattribute__"))) && (decide (PySem.W.findIn K (.ref C) "__getattr__" = some none) &&
  (decide (PySem.W.findIn K (.ref C) "__class__" = some (some (.builtin "object.__class__"))) && (decide (PySem.W.specialIn K (.builtin "object.__class__") "__get__" = some (some (.builtin "getset_descriptor.__get__"))) &&
  (decide (PySem.W.takesIn K (.builtin "object.__class__") = some true) && (decide (PySem.W.mroIn K C (.type "object") = some true) && (PySem.W.hasDictIn K C &&
  (decide (PySem.W.typeIn K (.ref f) = some (.type "function")) && attrs.all fun y => decide (PySem.W.findIn K (.ref C) y = some none)))))))))))))))))
theorem err_of {P : Program} {K : PySem.W.Frag} {mg : Str → Option Value} {x qual : Str} {st : Stmt} {ps attrs : List Str} {C f : Addr} {fd : FuncData} (F : FunS P K "__init__" qual st C f fd) (b : Binds K fd ps []) (g : mg x = some (.ref C))
    (cls : ∃ nm q N bs bm sn sub ab col dd k0 k1 k2 k3 k5, K.lookup C = some (excClassObj nm q C N bs bm true sn sub ab col dd k0 k1 k2 k3 k5 "ValueError.__new__") ∧ PySem.HandSPX.refsVE bm = true)
    (ini : PySem.W.findIn K (.ref C) "__init__" = some (some (.ref f))) (h : errB K C f attrs = true) : Nonempty { E : Err P K mg x qual st ps attrs // E.C = C } := by
  unfold errB at h
  simp only [Bool.and_eq_true, decide_eq_true_eq, List.all_eq_true] at h
  obtain ⟨h1, h2, h3, h4, h5, h6, h7, h8, h9, h10, h11, h12, h13, h14, h15, h16, h17, h18⟩ := h
  exact ⟨⟨⟨C, f, fd, F, b, ⟨⟨cls, h1, h2, h3, h4⟩, Option.isSome_iff_exists.mp h5, h6, h7, h8, h9⟩, ⟨h5, h10, h11, h2, h12, h13, h14, h15, h16⟩, g, ini, h17, h18⟩, rfl⟩⟩
/-- isinstance between errors of the text: each is of its own class alone, of the class q and a ValueError -/
def isB (K : PySem.W.Frag) (q : Addr) (cs : List Addr) : Bool := (List.range cs.length).all fun i => decide (PySem.W.kitOne K (.ref (cs.getD i 0)) (.type "ValueError") = some true) && (decide (PySem.W.kitOne K (.ref (cs.getD i 0)) (.ref q) = some true) &&
  (List.range cs.length).all fun j => decide (PySem.W.kitOne K (.ref (cs.getD i 0)) (.ref (cs.getD j 0)) = some (decide (i = j))))
theorem isB_of {K : PySem.W.Frag} {q : Addr} {cs : List Addr} (h : isB K q cs = true) {i : Nat} (hi : i < cs.length) : PySem.W.kitOne K (.ref (cs.getD i 0)) (.type "ValueError") = some true ∧ PySem.W.kitOne K (.ref (cs.getD i 0)) (.ref q) = some true ∧
    ∀ j, j < cs.length → PySem.W.kitOne K (.ref (cs.getD i 0)) (.ref (cs.getD j 0)) = some (decide (i = j)) := by
  unfold isB at h
  rw [List.all_eq_true] at h
  have h1 := h i (List.mem_range.mpr hi)
  simp only [Bool.and_eq_true, decide_eq_true_eq, List.all_eq_true] at h1
  exact ⟨h1.1, h1.2.1, fun j hj => h1.2.2 j (List.mem_range.mpr hj)⟩
end QX

set_option Elab.async false
set_option linter.all false
set_option maxRecDepth 100000
set_option maxHeartbeats 4000000
/-! An own error raised, caught, and its field read in the suite. -/
namespace QX
open PySem PySem.Spec PyProof.Rows L2
theorem Err.xf {P : Program} {K : PySem.W.Frag} {mg : Str → Option Value} {x qual : Str} {st : Stmt} {ps attrs : List Str} (R : Err P K mg x qual st ps attrs) : XfC K R.C := ⟨R.T.ga, R.T.gg, R.T.sb, R.T.hd⟩
/-- a callee that may raise, where it is shown that it doesn't -/
theorem passF {X : Cx} : Passes (L2.CX X.prog X.w) X (fun _ _ _ => False) := fun _ _ _ _ _ _ _ c => by
  obtain ⟨_, _, _, _, _, _, _, _, _, _, _, _, z⟩ := c
  exact z.elim
/-- a callee that may raise, in a def that lets it out -/
theorem passE {X : Cx} {E : XK} {E₁ : Value → Shared → Prop} (hs : X.stack = X.env :: X.outer := by rfl) (hf : X.env.frame = some X.env.locals := by rfl) (hex : X.ex = [] := by rfl)
    (hx : X.xe = (fun e s' => wpAny (model X.prog X.w) X.A (leaving X.env e) (fun _ s'' => CX X.prog X.w X.outer X.H_0 X.s_0 E e s'') E₁ s') := by rfl) : Passes (L2.CX X.prog X.w) X E :=
  passes_call (takes_of hs hf hex hx) fun _ _ _ _ h => h
/-- what raise X(v) asks, v its one part -/
theorem mkO1_of {C : Addr} {n : Str} {v : V} {H1 : Hp} {Q : XK} (sv : Say v) (q : ∀ d G, H1 d = none → (∀ b o, H1 b = some o → G b = some o) → G d = some (.xd [(n, v)]) → Q (.ref C) (some d) G) :
    ([v] : List V).length ≤ 1000 ∧ ∀ a, H1 a = none → spI1 C n (.ref a :: ([v] ++ [])) (upd H1 a (exo a C none)) (fun x H2 => x = .non ∧ ∃ (d : Addr) (fs : List (Str × V)), H2 a = some (exo a C (some d)) ∧ H2 d = some (exd d fs) ∧ H1 d = none ∧ Q (.ref C) (some d) (upd (del H2 a) d (.xd fs))) fun _ _ _ => False := by
  refine ⟨by show 1 ≤ 1000; decide, fun a na => ⟨a, v, rfl, upd_same, sv, fun dx H' nd kp ha hd => ⟨rfl, dx, _, ha, hd, ?_, ?_⟩⟩⟩
  · by_cases e : dx = a
    · rw [e, upd_same] at nd
      cases nd
    · rwa [upd_ne e] at nd
  · have n1 : H1 dx = none := by
      by_cases e : dx = a
      · rw [e, upd_same] at nd
        cases nd
      · rwa [upd_ne e] at nd
    refine q dx _ n1 (fun b o hb => ?_) upd_same
    rw [upd_ne (ne_of_none hb n1), del_ne (ne_of_none hb na)]
    exact kp b o (ne_of_none hb na) (by rw [upd_ne (ne_of_none hb na)]; exact hb)
/-- what raise X(v, u) asks -/
theorem mkO2_of {C : Addr} {n m : Str} {v u : V} {H1 : Hp} {Q : XK} (sv : Say v) (su : Say u) (q : ∀ d G, H1 d = none → (∀ b o, H1 b = some o → G b = some o) → G d = some (.xd [(m, u), (n, v)]) → Q (.ref C) (some d) G) :
    ([v, u] : List V).length ≤ 1000 ∧ ∀ a, H1 a = none → spI2 C n m (.ref a :: ([v, u] ++ [])) (upd H1 a (exo a C none)) (fun x H2 => x = .non ∧ ∃ (d : Addr) (fs : List (Str × V)), H2 a = some (exo a C (some d)) ∧ H2 d = some (exd d fs) ∧ H1 d = none ∧ Q (.ref C) (some d) (upd (del H2 a) d (.xd fs))) fun _ _ _ => False := by
  refine ⟨by show 2 ≤ 1000; decide, fun a na => ⟨a, v, u, rfl, upd_same, sv, su, fun dx H' nd kp ha hd => ⟨rfl, dx, _, ha, hd, ?_, ?_⟩⟩⟩
  · by_cases e : dx = a
    · rw [e, upd_same] at nd
      cases nd
    · rwa [upd_ne e] at nd
  · have n1 : H1 dx = none := by
      by_cases e : dx = a
      · rw [e, upd_same] at nd
        cases nd
      · rwa [upd_ne e] at nd
    refine q dx _ n1 (fun b o hb => ?_) upd_same
    rw [upd_ne (ne_of_none hb n1), del_ne (ne_of_none hb na)]
    exact kp b o (ne_of_none hb na) (by rw [upd_ne (ne_of_none hb na)]; exact hb)
end QX

set_option Elab.async false
set_option linter.all false
set_option maxRecDepth 100000
/-! isinstance(e, C) in the suite of an except, e the error that was caught, with its dict -/
namespace QX
open PySem PySem.Spec PyProof.Rows L2
/-- a: the caught error, cls: its class, d: its dict -/
def rIsCaught (K : PySem.W.Frag) (a : Addr) (cls : Value) (d : Option Addr) : List V → Hp → VK → Prop := fun xs H Q => ∃ (C dd : Addr) (fs : List (Str × V)) (c : V) (t : Value) (b : Bool),
  xs = [.ref a, c] ∧ cls = .ref C ∧ d = some dd ∧ H dd = some (.xd fs) ∧ IsC K C ∧ ClsV c t ∧ PySem.W.kitOne K (.ref C) t = some b ∧ Q (.bl b) H
theorem call_isCaught {X : Cx} {a : Addr} {oe : Obj} {cls : Value} {d : Option Addr} {pn : List (Addr × Obj)} (hz : Zc cls d oe) (hf : ∃ vs, oe.data = .fields vs) : CallR (X.suite a ((a, oe) :: pn)) (.builtin "isinstance") (rIsCaught X.K a cls d) := by
  intro pins s σ H xs us Q I r h
  obtain ⟨C, dd, fs, c, t, b, rfl, rfl, rfl, ea, T, hc, e, q⟩ := h
  match us, r with
  | [_, _], .cons rx (.cons rt .nil) =>
    cases rx
    obtain rfl := hc.eq rt
    obtain ⟨ha, _⟩ := I.pin (a, oe) (List.mem_append_left _ (List.mem_cons.mpr (.inl rfl)))
    obtain ⟨vs, hd⟩ := hf
    obtain ⟨mA, hns, _⟩ : ObjOk X.prog X.w H s.heap dd (.xd fs) := I.hok dd _ ea
    obtain ⟨od, ho, _⟩ := lookIn_ns hns
    have J : PySem.W.InstAt s.heap a oe C (some od) := ⟨ha, hz.1, (by unfold PySem.W.notCls; rw [hd] <;> rfl), (by rw [hz.2]; exact ho)⟩
    exact PySem.W.kia_one (PySem.W.kitx_exc T.cl T.ga T.gg T.sb T.ca T.cn T.ct T.mo) I.kIn J e (fun z => nomatch z) fun tk => ⟨.bl b, H, I.kept (t' := tk) (fun _ _ z => z), rfl, q⟩
end QX

set_option Elab.async false
set_option linter.all false
set_option maxRecDepth 100000
/-! a dict of the module's top with text keys: d.get(k, x), d[k], k in d -/
namespace KDx
open PySem PySem.Spec PyProof.Rows L2
section
variable {X : Cx} {o e f : Expr} {apos cpos : Pos} {td ty tx : TE}
def tKGet2 (K : PySem.W.Frag) (w : World) (td ty tx : TE) : TE := fun σ H Q => td σ H fun x H1 => ∃ d es n, x = .ref d ∧ KDict K w d es n ∧ ty σ H1 fun y H2 => tx σ H2 fun z H3 => ∃ (q : Str) (r : Option Value), y = .str q ∧ PySem.W.nsIn K d q = some r ∧
  (r = none → Q z H3) ∧ (∀ u, r = some u → ∃ v, RelV v u ∧ Q v H3)
theorem pe_kget2 (ho : PE X o td) (he : PE X e ty) (hf : PE X f tx) (m : M2 X o "get" apos e f cpos := by exact ⟨rfl, rfl, rfl, rfl⟩) : PE X (.Call (.Attribute o "get" apos) [e, f] [] cpos) (tKGet2 X.K X.w td ty tx) := by
  refine ⟨fun pins s σ H Q I h => ?_⟩
  refine wpAny_Call_method m.base m.few m.line PySem.F.plainAttrs_dict PySem.F.slot_dict_get PySem.F.type_dict_get (thn (ho.run pins s σ H _ I h) fun u s1 ⟨x, H1, I1, rx, d, es, n, ex, D, q1⟩ => ?_)
  subst ex
  obtain rfl : u = Value.ref d := rx
  have hm1 := PySem.W.mapOf_K (prog := X.prog) (w := X.w) I1.kIn D.at_ D.lit
  refine ⟨hm1.typeIs, fun b e => by cases e; exact ⟨_, I1.kIn _ _ D.at_, rfl⟩, ?_⟩
  rw [m.trees]
  refine Calls.callWith_builtin rfl (Calls.evalArgs_plain (Calls.spliced_cons (thn (he.run pins s1 σ H1 _ I1 q1) fun iv s2 ⟨y, H2, I2, ry, q2⟩ =>
    Calls.spliced_cons (thn (hf.run pins s2 σ H2 _ I2 q2) fun fv s3 ⟨z, H3, I3, rz, q, r, ey, er, qn, qs⟩ => Calls.spliced_nil ?_))))
  subst ey
  obtain ⟨t, rfl⟩ := ry
  have hm := PySem.W.mapOf_K (prog := X.prog) (w := X.w) I3.kIn D.at_ D.lit
  refine call_meetsIn PySem.F.slot_dict_get hm.typeIs PySem.F.entry_dict_get (PySem.F.args_dict_get_3 _ _ _) (meets_dict_get_default (strKind X.prog X.w) d (strKind_is X.prog X.w q t) D.low fv) ⟨_, hm, ?_⟩
  rw [PySem.W.find_K D.at_ er]
  cases r with
  | none => exact ⟨z, H3, I3.tok _, rz, qn rfl⟩
  | some u =>
    obtain ⟨v, rv, qv⟩ := qs u rfl
    exact ⟨v, H3, I3.tok _, rv, qv⟩
end
/-- what d.get(x, dflt) gives for each x of the list -/
def getB (K : PySem.W.Frag) (a : Addr) (dflt : Int) (l : List (Str × Int)) : Bool := l.all fun q => match PySem.W.nsIn K a q.1 with
  | some none => q.2 == dflt
  | some (some (.int i _)) => i == q.2
  | _ => false
theorem getB_ok {K : PySem.W.Frag} {a : Addr} {dflt : Int} {l : List (Str × Int)} (h : getB K a dflt l = true) {x : Str} {v : Int} (hx : (x, v) ∈ l) : ∃ r, PySem.W.nsIn K a x = some r ∧ (r = none → v = dflt) ∧ (∀ u, r = some u → RelV (.int v) u) := by
  have q := List.all_eq_true.mp h _ hx
  dsimp only at q
  split at q
  · rename_i e
    exact ⟨none, e, fun _ => by simpa using q, fun u z => by cases z⟩
  · rename_i i t e
    refine ⟨_, e, fun z => (by cases z), fun u z => ?_⟩
    cases z
    have : i = v := by simpa using q
    subst this
    exact ⟨t, rfl⟩
  · cases q
/-- the values of a dict of texts -/
def strB (K : PySem.W.Frag) (a : Addr) (l : List (Str × Str)) : Bool := l.all fun q => match PySem.W.nsIn K a q.1 with
  | some (some (.str z _)) => decide (z = q.2)
  | _ => false
theorem strB_ok {K : PySem.W.Frag} {a : Addr} {l : List (Str × Str)} (h : strB K a l = true) {x z : Str} (hx : (x, z) ∈ l) : ∃ u, PySem.W.nsIn K a x = some (some u) ∧ RelV (.str z) u := by
  have q := List.all_eq_true.mp h _ hx
  dsimp only at q
  split at q
  · rename_i y t e
    have : y = z := by simpa using q
    subst this
    exact ⟨_, e, t, rfl⟩
  · cases q
/-- a tuple of texts of the module's top -/
def strOf : Value → Option Str
  | .str z _ => some z
  | _ => none
def tupB (K : PySem.W.Frag) (a : Addr) (l : List Str) : Bool := match K.lookup a with
  | some ⟨.type "tuple", _, .seq its _, _⟩ => decide (its.toList.map strOf = l.map some)
  | _ => false
theorem vals_strs : ∀ {us : List Value} {l : List Str}, us.map strOf = l.map some → Vals (l.map V.str) us
  | [], [], _ => .nil
  | [], _ :: _, h => by cases h
  | _ :: _, [], h => by cases h
  | u :: us, z :: l, h => by
    have h1 : strOf u :: us.map strOf = some z :: l.map some := h
    injection h1 with h2 h3
    refine .cons ?_ (vals_strs h3)
    cases u <;> simp only [strOf] at h2 <;> cases h2
    exact ⟨_, rfl⟩
theorem tupB_ok {K : PySem.W.Frag} {H : Hp} {a : Addr} {l : List Str} (h : tupB K a l = true) (hl : l.length ≤ 1000) : SqT K H a (l.map V.str) := by
  unfold tupB at h
  split at h
  · rename_i dd its n sl hk
    have e := of_decide_eq_true h
    have e2 := congrArg List.length e
    rw [List.length_map, List.length_map] at e2
    refine .inr ⟨_, its, n, hk, rfl, rfl, ?_, vals_strs e⟩
    have : its.size = its.toList.length := by simp
    rw [this, e2, sizeLine_eq]
    omega
  · cases h
def cycles25 : List (Str × Int) := [("set", 1), ("move", 1), ("add", 1), ("addc", 1), ("sub", 1), ("subc", 1), ("and", 1), ("or", 1), ("xor", 1), ("less", 1), ("down", 1), ("up", 1), ("carry", 1), ("clear", 1), ("load", 1), ("store", 1), ("below", 1), ("halt", 1),
  ("downby", 2), ("jump", 2), ("call", 2), ("ret", 2), ("div", 2), ("mul", 4), ("high", 4)]
end KDx

set_option Elab.async false
set_option linter.all false
set_option maxRecDepth 100000
set_option maxHeartbeats 4000000
/-! tuple * int for every int from 0 on: once is the tuple itself, never is an empty one -/
namespace TR
open PySem PySem.Spec PyProof.Rows L2
theorem tuple_mul1 (l : Addr) (items : Array Value) (n : Nat) (dd : Option Addr) (sl : Array (Option Value)) (u : Tok) :
    Meets (Builtin.«tuple.__mul__» ⟨[.ref l, .int 1 u], []⟩) (fun _ R s => s.heap.get? l = some { cls := .type "tuple", dict := dd, data := .seq items n, slots := sl } ∧ R (.ok (.ret (Value.ref l))) s) :=
  .of_wp fun prog w A R s h => by
    obtain ⟨hp, g, d, tk, os⟩ := s
    obtain ⟨hl, h⟩ := h
    have f1 := AutoSeq1.idx_int
    have c1 : (items.isEmpty || (1 : Int) == 1) = true := by simp
    wp_walk using wpAny_loadPart' hl
    repeat (first
      | (refine wpAny_ite_true (decide_eq_true (by rw [c1])) ?_; wp_walk using wpAny_loadPart' hl)
      | (refine wpAny_ite_false (decide_eq_false (by decide)) ?_; wp_walk using wpAny_loadPart' hl))
    exact ⟨_, rfl, h⟩
theorem tuple_mul0 (l : Addr) (items : Array Value) (n : Nat) (dd : Option Addr) (sl : Array (Option Value)) (u : Tok) (hi : items.isEmpty = false) :
    Meets (Builtin.«tuple.__mul__» ⟨[.ref l, .int 0 u], []⟩) (fun _ R s => s.heap.get? l = some { cls := .type "tuple", dict := dd, data := .seq items n, slots := sl } ∧
      R (.ok (.ret (Value.ref s.heap.objs.size))) { s with heap := s.heap.push { cls := Value.type "tuple", data := Data.seq #[] }, toks := s.toks }) :=
  .of_wp fun prog w A R s h => by
    obtain ⟨hp, g, d, tk, os⟩ := s
    obtain ⟨hl, h⟩ := h
    have f1 := AutoSeq1.idx_int
    have c1 : (items.isEmpty || (0 : Int) == 1) = false := by rw [hi]; rfl
    have c2 : (decide ((0 : Int) ≤ 0) || items.isEmpty) = true := by simp
    wp_walk using wpAny_loadPart' hl
    exact ⟨_, rfl, h⟩
def rRepA (K : PySem.W.Frag) : R2 := fun x y H Q => ∃ l k xs, x = .ref l ∧ y = .int k ∧ SqT K H l xs ∧ xs ≠ [] ∧ 0 ≤ k ∧ k ≤ 1000 ∧ xs.length ≤ 1000 ∧
  (k = 1 → Q (.ref l) H) ∧ (k ≠ 1 → ∀ p, H p = none → Q (.ref p) (upd H p (.tup (List.replicate k.toNat xs).flatten)))
section
variable {X : Cx}
theorem op_repA : OpR X (binaryOp .Mult) (rRepA X.K) := by
  intro pins s σ H x y v u Q I rx ry h
  obtain ⟨l, k, xs, rfl, rfl, hT, hne, h1, h2, hz, q1, q2⟩ := h
  by_cases hk2 : 2 ≤ k
  · exact op_repT pins s σ H _ _ v u Q I rx ry ⟨l, k, xs, rfl, rfl, hT, hne, hk2, h2, hz, q2 (by omega)⟩
  cases rx
  obtain ⟨t, rfl⟩ := ry
  obtain ⟨its, r, ⟨⟨cls, dd, data, sl⟩, ho, hc, n, hd⟩, hs⟩ := I.tuple hT
  simp only at hc hd
  subst hc hd
  have hle : its.length = xs.length := r.length.symm
  have hi : its.toArray.isEmpty = false := by
    cases its with
    | nil => exact absurd (List.eq_nil_of_length_eq_zero hle.symm) hne
    | cons a b => rfl
  have hk : k = 0 ∨ k = 1 := by omega
  rcases hk with rfl | rfl
  · refine wpAny_binaryOp_repeat_ref (T := "tuple") (U := "int") (by decide) ⟨_, ho, rfl⟩ (fun s' => typeIs_int s' 0 t) noFill_tuple_mul F.fills_int_mul F.slot_int_rmul repeat_tuple F.slot_int_index.lookup
      (call_meets F.slot_int_rmul (typeIs_int s 0 t) F.entry_int_rmul (F.args_int_rmul_2 _ _) (int_rmul_tuple 0 t l its.toArray n dd sl)
        ⟨ho, rfl, ⟨_, ho, rfl⟩, call_meets F.slot_tuple_mul ⟨_, ho, rfl⟩ F.entry_tuple_mul (F.args_tuple_mul_2 _ _) (tuple_mul0 l its.toArray n dd sl t hi) ⟨ho, ?_⟩⟩)
    refine ⟨.ref s.heap.objs.size, _, I.laid (t' := s.toks) (o := .tup []) (fun b ob q => Heap.get?_push_of_some _ q) (Nat.le_refl _) ?_, rfl, q2 (by decide) _ (I.hok.fresh (Nat.le_refl _))⟩
    exact ⟨Nat.zero_le _, [], .nil, IsTup.new _ _⟩
  · refine wpAny_binaryOp_repeat_ref (T := "tuple") (U := "int") (by decide) ⟨_, ho, rfl⟩ (fun s' => typeIs_int s' 1 t) noFill_tuple_mul F.fills_int_mul F.slot_int_rmul repeat_tuple F.slot_int_index.lookup
      (call_meets F.slot_int_rmul (typeIs_int s 1 t) F.entry_int_rmul (F.args_int_rmul_2 _ _) (int_rmul_tuple 1 t l its.toArray n dd sl)
        ⟨ho, rfl, ⟨_, ho, rfl⟩, call_meets F.slot_tuple_mul ⟨_, ho, rfl⟩ F.entry_tuple_mul (F.args_tuple_mul_2 _ _) (tuple_mul1 l its.toArray n dd sl t) ⟨ho, ?_⟩⟩)
    exact ⟨.ref l, H, I, rfl, q1 rfl⟩
end
end TR

set_option Elab.async false
set_option linter.all false
set_option maxRecDepth 100000
/-! heaps that a law's own text works on: what it holds, as a list of addresses and objects; the two first helpers' promises -/
namespace Lw
open PySem PySem.Spec PyProof.Rows L2
theorem same_upd {H : Hp} {p : Addr} {o : HO} (h : H p = none) : Same H (upd H p o) := fun b x e => by
  rw [upd_ne (ne_of_none e h)]
  exact e
/-- what stood stands, but for the object at p -/
def Keep (H H' : Hp) (p : Addr) : Prop := ∀ b o, b ≠ p → H b = some o → H' b = some o
theorem Keep.trans {H H1 H2 : Hp} {p : Addr} (a : Keep H H1 p) (b : Keep H1 H2 p) : Keep H H2 p := fun c o n e => b c o n (a c o n e)
theorem keep_upd (H : Hp) (p : Addr) (o : HO) : Keep H (upd H p o) p := fun b u n e => by
  rw [upd_ne n]
  exact e
theorem Same.keep {H H' : Hp} {p : Addr} (s : Same H H') : Keep H H' p := fun b o _ e => s b o e
theorem Keep.new {H H1 H2 : Hp} {p : Addr} (n : H p = none) (s : Same H H1) (k : Keep H1 H2 p) : Same H H2 := fun b o e => k b o (ne_of_none e n) (s b o e)
theorem Keep.free {H H' : Hp} {p r : Addr} {o : HO} (k : Keep H H' p) (hp : H' p = some o) (hr : H' r = none) : H r = none := by
  cases e : H r with
  | none => rfl
  | some u =>
    have n : r ≠ p := fun z => by
      rw [z, hp] at hr
      cases hr
    rw [k r u n e] at hr
    cases hr
theorem at_int {ns : List Int} {i : Int} (h0 : 0 ≤ i) (h1 : i < ns.length) : ∃ z, atI (ns.map V.int) i = some (.int z) := by
  obtain ⟨j, rfl⟩ := Int.eq_ofNat_of_zero_le h0
  have hj : j < ns.length := by omega
  refine ⟨ns[j], atI_nat ?_⟩
  rw [List.getElem?_map, List.getElem?_eq_getElem hj]
  rfl
def spSource (K : PySem.W.Frag) : Sp := fun vs H Q _ => ∃ (a : Addr) (ns : List Int) (k : Int), vs = [.ref a, .int k] ∧ SqL K H a (ns.map V.int) ∧ ns.length ≤ 63 ∧ 0 ≤ k ∧
  ∀ (p : Addr) (x y : Int), H p = none → 0 ≤ x → Q (.ref p) (upd H p (.lst [.int x, .int y]))
def spDraw : Sp := fun vs H Q _ => ∃ (p : Addr) (x y m : Int), vs = [.ref p, .int m] ∧ H p = some (.lst [.int x, .int y]) ∧ 0 ≤ x ∧ 0 < m ∧ m ≤ 100000 ∧
  ∀ (v x' y' : Int), 0 ≤ v → v < m → 0 ≤ x' → Q (.int v) (upd H p (.lst [.int x', .int y']))
/-- since H0: what stood stands; L: what is new and known, each place once -/
structure Objs (H0 H : Hp) (L : List (Addr × HO)) : Prop where
  same : Same H0 H
  at_ : ∀ q ∈ L, H q.1 = some q.2
  nd : (L.map (·.1)).Nodup
  new : ∀ q ∈ L, H0 q.1 = none
section
variable {H0 H H' : Hp} {L : List (Addr × HO)} {a : Addr} {o o' : HO} {i : Nat}
theorem Objs.nil (H : Hp) : Objs H H [] := ⟨Same.refl H, fun _ h => absurd h (by simp), List.nodup_nil, fun _ h => absurd h (by simp)⟩
theorem Objs.get (h : Objs H0 H L) (i : Nat) (hi : L[i]? = some (a, o)) : H a = some o := h.at_ _ (List.mem_of_getElem? hi)
theorem Objs.mono (h : Objs H0 H L) (s : Same H H') : Objs H0 H' L := ⟨h.same.trans s, fun q hq => s _ _ (h.at_ q hq), h.nd, h.new⟩
theorem Objs.fresh (h : Objs H0 H L) (n : H a = none) : a ∉ L.map (·.1) ∧ H0 a = none :=
  ⟨fun z => (by
    obtain ⟨q, hq, e⟩ := List.mem_map.mp z
    have := h.at_ q hq
    rw [e, n] at this
    cases this), h.same.free n⟩
theorem Objs.push (h : Objs H0 H L) (n : H a = none) (s : Same H H') (e : H' a = some o) : Objs H0 H' ((a, o) :: L) := by
  obtain ⟨h1, h2⟩ := h.fresh n
  refine ⟨h.same.trans s, fun q hq => ?_, ?_, fun q hq => ?_⟩
  · rcases List.mem_cons.mp hq with z | z
    · rw [z]; exact e
    · exact s _ _ (h.at_ q z)
  · rw [List.map_cons, List.nodup_cons]
    exact ⟨h1, h.nd⟩
  · rcases List.mem_cons.mp hq with z | z
    · rw [z]; exact h2
    · exact h.new q z
theorem Objs.add (h : Objs H0 H L) (n : H a = none) : Objs H0 (upd H a o) ((a, o) :: L) := h.push n (same_upd n) upd_same
theorem Objs.skip (h : Objs H0 H L) (n : H a = none) : Objs H0 (upd H a o) L := h.mono (same_upd n)
theorem Objs.set (h : Objs H0 H L) (i : Nat) (hi : L[i]? = some (a, o)) (k : Keep H H' a) (e : H' a = some o') : Objs H0 H' (L.set i (a, o')) := by
  have hm : (a, o) ∈ L := List.mem_of_getElem? hi
  obtain ⟨hlt, hie⟩ := List.getElem?_eq_some_iff.mp hi
  have hmap : (L.set i (a, o')).map (·.1) = L.map (·.1) := by
    rw [List.map_set]
    apply List.ext_getElem?
    intro j
    by_cases hj : i = j
    · subst hj
      rw [List.getElem?_set_self (by simpa using hlt), List.getElem?_map, hi]
      rfl
    · rw [List.getElem?_set_ne hj]
  have h0 := h.new _ hm
  refine ⟨Keep.new h0 h.same k, fun q hq => ?_, by rw [hmap]; exact h.nd, fun q hq => ?_⟩
  · obtain ⟨j, hj⟩ := List.getElem?_of_mem hq
    by_cases hij : i = j
    · subst hij
      rw [List.getElem?_set_self hlt] at hj
      cases hj
      exact e
    · rw [List.getElem?_set_ne hij] at hj
      have hq2 := List.mem_of_getElem? hj
      refine k _ _ (fun z => ?_) (h.at_ q hq2)
      have e1 : (L.map (·.1))[i]? = some a := by rw [List.getElem?_map, hi]; rfl
      have e2 : (L.map (·.1))[j]? = some a := by rw [List.getElem?_map, hj, ← z]; rfl
      obtain ⟨g1, f1⟩ := List.getElem?_eq_some_iff.mp e1
      obtain ⟨g2, f2⟩ := List.getElem?_eq_some_iff.mp e2
      exact hij ((List.getElem_inj h.nd).mp (f1.trans f2.symm))
  · obtain ⟨j, hj⟩ := List.getElem?_of_mem hq
    by_cases hij : i = j
    · subst hij
      rw [List.getElem?_set_self hlt] at hj
      cases hj
      exact h0
    · rw [List.getElem?_set_ne hij] at hj
      exact h.new q (List.mem_of_getElem? hj)
theorem Objs.put (h : Objs H0 H L) (i : Nat) (hi : L[i]? = some (a, o)) : Objs H0 (upd H a o') (L.set i (a, o')) := h.set i hi (keep_upd H a o') upd_same
/-- one more, that was new at some time since -/
theorem Objs.join {b : Addr} {u : HO} (h : Objs H0 H' L) (n : b ∉ L.map (·.1)) (n0 : H0 b = none) (e : H' b = some u) : Objs H0 H' ((b, u) :: L) := by
  refine ⟨h.same, fun q hq => ?_, ?_, fun q hq => ?_⟩
  · rcases List.mem_cons.mp hq with z | z
    · rw [z]; exact e
    · exact h.at_ q z
  · rw [List.map_cons, List.nodup_cons]
    exact ⟨n, h.nd⟩
  · rcases List.mem_cons.mp hq with z | z
    · rw [z]; exact n0
    · exact h.new q z
theorem Objs.sub {L' : List (Addr × HO)} (h : Objs H0 H L) (s : List.Sublist L' L) : Objs H0 H L' :=
  ⟨h.same, fun q hq => h.at_ q (s.subset hq), h.nd.sublist (s.map _), fun q hq => h.new q (s.subset hq)⟩
theorem Objs.ne (h : Objs H0 H L) {b : Addr} {u : HO} (i j : Nat) (hi : L[i]? = some (a, o)) (hj : L[j]? = some (b, u)) (hij : i ≠ j) : a ≠ b := fun z => by
  have e1 : (L.map (·.1))[i]? = some a := by rw [List.getElem?_map, hi]; rfl
  have e2 : (L.map (·.1))[j]? = some a := by rw [List.getElem?_map, hj, z]; rfl
  obtain ⟨g1, f1⟩ := List.getElem?_eq_some_iff.mp e1
  obtain ⟨g2, f2⟩ := List.getElem?_eq_some_iff.mp e2
  exact hij ((List.getElem_inj h.nd).mp (f1.trans f2.symm))
end
theorem ixN_of {n : Nat} {i : Int} (h0 : 0 ≤ i) (h1 : i < n) : ixN n i = some i.toNat := by
  unfold ixN
  rw [if_pos h0, if_pos h1]
theorem get_at {ns : List Int} {i : Nat} (h : i < ns.length) : atI (ns.map V.int) (0 + (i : Int)) = some (.int ns[i]) := by
  rw [Int.zero_add]
  refine atI_nat ?_
  rw [List.getElem?_map, List.getElem?_eq_getElem h]
  rfl
theorem at_back {ns : List Int} {i : Nat} (h : i < ns.length) : atI (ns.map V.int) ((ns.length : Int) - 1 - (0 + (i : Int))) = some (.int (ns[ns.length - 1 - i]'(by omega))) := by
  rw [show (ns.length : Int) - 1 - (0 + (i : Int)) = ((ns.length - 1 - i : Nat) : Int) by omega]
  refine atI_nat ?_
  rw [List.getElem?_map, List.getElem?_eq_getElem (by omega)]
  rfl
theorem ne_of_none' {H : Hp} {a b : Addr} {o : HO} (h : H a = some o) (h' : H b = none) : b ≠ a := (ne_of_none h h').symm
end Lw

set_option Elab.async false
set_option linter.all false
set_option maxRecDepth 100000
set_option maxHeartbeats 2000000
/-! all(e for target in walked), any(..): the element may call own defs; by the frame of the generator as a context of its own. -/
namespace GA
open PySem PySem.Spec PyProof.Rows L2 GenW GxR

/-- the frame of a generator expression that was made at s -/
abbrev gen (X : Cx) (A : Around) (s : Shared) (H : Hp) (cenv : Env) (fp : List Addr) (pn : List (Addr × Obj)) : Cx :=
  { X with A := A, s_0 := s, H_0 := H, env := cenv, outer := X.stack, stack := cenv :: X.stack, ex := fp, fn := fun _ => false, pn := pn, xe := fun _ _ => False }
/-- its environment -/
abbrev genv (X : Cx) (scope : Scope) (C : Addr) (code : Value) : Env := genEnv scope (cloFrom X.env.cells scope.names []) C code builtinsNs X.env
structure GenOk (N : List Str) (sc scope : Scope) (own : List (Str × Nat)) : Prop where
  blk : BlkOk N sc scope own
  co : scope.isCoroutine = false
  cell : ∀ y ∈ scope.names, y.2 ≠ .cell
  dot : scope.names.lookup (".0" : Str) = some NameKind.local
theorem genOk_by {N : List Str} {sc scope : Scope} {own : List (Str × Nat)} (h : (scope.kind = .function ∧ (∀ y ∈ scope.names, scope.names.lookup y.1 = some y.2) ∧ (∀ p ∈ own, N[p.2]? = some p.1) ∧
    (∀ y ∈ scope.names, y.2 = .free → sc.names.lookup y.1 = some .cell ∨ sc.names.lookup y.1 = some .free) ∧ (∀ y ∈ scope.names, y.2 = .local ∨ y.2 = .cell → y.1 ∈ own.map (·.1) ∨ y.1 ∉ N)) ∧
    scope.isCoroutine = false ∧ (∀ y ∈ scope.names, y.2 ≠ .cell) ∧ scope.names.lookup (".0" : Str) = some NameKind.local) : GenOk N sc scope own :=
  ⟨⟨h.1.1, h.1.2.1, h.1.2.2.1, h.1.2.2.2.1, h.1.2.2.2.2⟩, h.2.1, h.2.2.1, h.2.2.2⟩

section
variable {X : Cx} {pins : List (Addr × Obj)} {σ : L2.St} {H : Hp} {s : Shared}
theorem gen_start {A : Around} {scope : Scope} {own : List (Str × Nat)} {fp : List Addr} {a : Addr} {code : Value} {go : Obj} {m0 : Str → Option Value} {s5 : Shared} (I : Inv X pins σ H s) (ok : GenOk X.N X.env.scope scope own) (hN : X.N.Nodup)
    (hA : A.frames = some X.stack) (hh : A.handled = none) (hfp : ∀ b ∈ fp, FpOk X pins H b ∧ b < s.heap.objs.size) (kp : ∀ b o, s.heap.get? b = some o → s5.heap.get? b = some o) (hns : s5.heap.Ns s.heap.objs.size m0) (hos : s5.os = s.os) (hb5 : AllBare s5.gens)
    (ha : s.heap.objs.size < a) (hgo : s5.heap.get? a = some go) (hgd : ∀ v, go.data ≠ .cell v) :
    Inv (gen X (A.deeper (genv X scope s.heap.objs.size code)) s H (genv X scope s.heap.objs.size code) fp [(a, go)]) [] (wipe σ (own.map (·.2))) H s5 := by
  have hfree : ∀ y ∈ scope.names, y.2 = .free → ∃ c, X.env.cells.lookup y.1 = some c := fun y hy e => by
    rcases ok.blk.free y hy e with k | k
    · exact I.ok.has _ (.inl k)
    · exact I.ok.has _ (.inr k)
  have cm : ∀ {y c}, (y, c) ∈ cloFrom X.env.cells scope.names [] → X.env.cells.lookup y = some c ∧ c < s.heap.objs.size ∧ (y, NameKind.free) ∈ scope.names := fun {y c} hm => by
    rcases cloFrom_mem hm with hm | ⟨h1, rfl⟩
    · cases hm
    · obtain ⟨c, hc⟩ := hfree _ h1 rfl
      rw [hc]
      obtain ⟨w, z⟩ := I.cell _ _ hc
      exact ⟨rfl, z.lt, h1⟩
  have cm2 : ∀ {y c}, (cloFrom X.env.cells scope.names []).lookup y = some c → X.env.cells.lookup y = some c ∧ c < s.heap.objs.size ∧ (y, NameKind.free) ∈ scope.names := fun {y c} e => cm (PySem.mem_of_lookup e)
  have look : ∀ {y}, scope.names.lookup y = some .free → ∃ c, (cloFrom X.env.cells scope.names []).lookup y = some c := fun {y} hl =>
    mem_lookup (cloFrom_has (cells := X.env.cells) (acc := []) (PySem.mem_of_lookup hl))
  refine ⟨⟨I.ok.mod, ok.blk.kind, I.ok.glob, rfl, Nat.le_refl _, fun y z c e1 e2 => I.ok.inj y z c (cm2 e1).1 (cm2 e2).1, fun y hy => ?_, fun y c z e => ?_, fun _ => hh, Around.frames_deeper hA, .inr ⟨rfl, rfl⟩, fun b hb => ⟨?_, fun y c e z => ?_⟩, I.bs, Nat.le_trans I.ok.bsz I.sz, fun b o e hb => ?_, fun b hb z => ?_, I.stack, I.stkFree⟩,
    hos, hb5, Un.kept kp, ⟨m0, hns, fun i y av e1 e2 e3 => ?_⟩, fun y c e => ?_, I.hok.fresh (Nat.le_refl _), fun y c e => ?_, fun p hp => ?_, I.hok.kept kp, by rw [wipe_length]; exact I.len⟩
  · have hy : scope.names.lookup y = some .cell ∨ scope.names.lookup y = some .free := hy
    rcases hy with hy | hy
    · exact absurd rfl (ok.cell _ (PySem.mem_of_lookup hy))
    · exact look hy
  · cases z
  · exact Nat.ne_of_lt (hfp b hb).2
  · exact (hfp b hb).1.2.2.2.2.1 y c (cm2 e).1 z
  · rcases (hfp b hb).1.2.2.2.1 with z | z
    · exact I.ok.noex b o e z
    · exact absurd (Nat.lt_of_lt_of_le (Heap.lt_size e) (Nat.le_trans I.ok.bsz z)) (Nat.lt_irrefl _)
  · rcases List.mem_cons.mp (I.stkSub b z) with z | z
    · exact (hfp b hb).1.2.1 z
    · exact (hfp b hb).1.2.2.1 z
  · obtain ⟨e2, hne⟩ := wipe_some e2
    have hfr : scope.names.lookup y = some .free := by
      have no : ∀ k, scope.names.lookup y = some k → ¬ (k = .local ∨ k = .cell) := fun k e hh => by
        rcases ok.blk.own _ (PySem.mem_of_lookup e) hh with e' | e'
        · obtain ⟨p, hp, hpy⟩ := List.mem_map.mp e'
          have e3 := ok.blk.ix p hp
          have : p.1 = y := hpy
          rw [this] at e3
          exact hne (List.mem_map.mpr ⟨p, hp, nodup_ix hN e3 e1⟩)
        · exact e' (List.mem_of_getElem? e1)
      have e3 : Vis scope y := e3
      rcases e3 with e3 | e3 | e3
      · exact absurd (.inl rfl) (no _ e3)
      · exact absurd (.inr rfl) (no _ e3)
      · exact e3
    obtain ⟨m, hn, hl⟩ := I.loc
    have hvis : Vis X.env.scope y := (ok.blk.free _ (PySem.mem_of_lookup hfr) rfl).elim (fun k => .inr (.inl k)) (fun k => .inr (.inr k))
    obtain ⟨w, r, q⟩ := hl i y av e1 e2 hvis
    obtain ⟨c, hc⟩ := look hfr
    refine ⟨w, r, .inr ⟨.inr hfr, c, hc, ?_⟩⟩
    rcases q with ⟨k, _⟩ | ⟨_, c', e', z⟩
    · have k : X.env.scope.names.lookup y = some .local := k
      rcases ok.blk.free _ (PySem.mem_of_lookup hfr) rfl with k' | k' <;> rw [show X.env.scope.names.lookup y = _ from k'] at k <;> cases k
    · rw [(cm2 hc).1] at e'
      cases e'
      obtain ⟨o, ho, hd⟩ := z
      exact ⟨o, kp _ _ ho, hd⟩
  · obtain ⟨v, o, ho, hd⟩ := I.cell y c (cm2 e).1
    exact ⟨v, o, kp _ _ ho, hd⟩
  · exact I.freeC y c (cm2 e).1
  · have e : p = (a, go) := by simpa using hp
    subst e
    refine ⟨hgo, I.hok.fresh (Nat.le_of_lt ha), Nat.ne_of_gt ha, fun z => ?_, hgd⟩
    have z : a ∈ frs X.stack := z
    rcases List.mem_cons.mp (I.stkSub a z) with e | e
    · exact absurd (Nat.lt_trans I.lt ha) (by rw [e]; exact Nat.lt_irrefl _)
    · exact I.nofs (Nat.le_of_lt ha) e

/-- the generator expression's code object: made, or found in the def's table; the table may have grown -/
theorem gcode {A : Around} {E : Value → Shared → Prop} {c P : Addr} {gpos : Pos} {qn : Str} {scope : Scope} {Q : Value → Shared → Prop} (TB : LamX.TabB X.base X.mg c P) (hcode : X.env.code = .ref c) (I : Inv X pins σ H s) (ht : TabG H P)
    (hQ : ∀ code s' H', Tabbed P H H' → Inv X pins σ H' s' → s.heap.objs.size ≤ s'.heap.objs.size → (∀ b o, b ≠ P → s.heap.get? b = some o → s'.heap.get? b = some o) → Q code s') :
    wpAny (model X.prog X.w) A (genexprCode X.env gpos qn scope) Q E s := by
  obtain ⟨ps, hP, ht⟩ := ht
  have hPs : s.heap.get? P = some { cls := .none, data := .fields ps } := I.hok P _ hP
  have cd : PySem.W.CodeHd s.heap c P := TB.code.keeps fun b u e => I.bk b u e
  cases hf : codeAmong gpos ps.toList with
  | none =>
    refine wpAny_genexprCodeX hcode (cd.code hPs ht) (cd.tab hPs) hf fun c' h' tk hx hge hlt hco' _ htab' _ => ?_
    obtain ⟨o1, vs, f1, tf, fl, tg, inF, tx, tt, op, _, _, _, _, _, _, _, _, _, htr, _⟩ := hco'
    have J := inv_tab (h' := h') (g' := s.gens) (d' := s.drawn) (t' := tk) I hP (fun b o hb e => hx b o hb e) htab'.2 I.bare
    exact hQ _ _ _ ⟨⟨_, upd_same, htr⟩, fun b hb => upd_ne hb⟩ J (Nat.le_trans hge (Nat.le_of_lt hlt)) fun b o hb e => hx b o hb e
  | some cv =>
    refine wpAny_genexprCode_hit hcode (cd.code hPs ht) hf ?_
    exact hQ cv s H ⟨⟨ps, hP, ht⟩, fun _ _ => rfl⟩ I (Nat.le_refl _) fun _ _ _ e => e
theorem gblt {A : Around} {E : Value → Shared → Prop} {c P : Addr} {Q : Addr → Shared → Prop} (TB : LamX.TabB X.base X.mg c P) (I : Inv X pins σ H s) (h : Q builtinsNs s) : wpAny (model X.prog X.w) A (builtinsFor X.env.globals X.env.builtins) Q E s := by
  obtain ⟨bm, ob, e1, e2, e3, e4, e5, e6, e7, e8⟩ := TB.bm
  exact wpAny_builtinsFor (m := X.mg) (by rw [I.ok.glob]; exact I.mod.glob.keeps I.bk) e1 e2 (I.bk _ _ e5) e6 e7 e8 h

/-! ### the generator's run -/
structure Wk (s s' : Shared) : Prop where
  os : s'.os = s.os
  bare : AllBare s'.gens
  keep : ∀ b o, s.heap.get? b = some o → s'.heap.get? b = some o
def YB (Y0 : Bool → Shared → Prop) : Protocol := fun _ _ v s kap => ∃ b, v = .bool b ∧ Y0 b s ∧ (b = true → ∀ s', Wk s s' → kap (.send .none) s')
def RB (F : Shared → Prop) : GenEnd := fun _ _ r s => ((r = .ok (.ret .none) ∨ r = .ok .next) ∧ F s) ∨ ∃ e, r = .error e ∧ False
theorem over_gloop {A : Around} {e : Expr} {gs : List Comprehension} {sc : Scope} {pos : Pos} {it : Value} {cenv : Env} : A.over (.compLoop (.GeneratorExp e gs sc pos) 0 it .none cenv) [] = A.deeper cenv := by
  first
    | rfl
    | (obtain ⟨hd, d, fr, gs, u⟩ := A; simp [Around.over, Around.deeper, marksOver, frameCount, unitsOf, envsOf, guardsOf, pushEnvs, pushGuards, Code.envs, Code.env?, Code.isFrame, Code.guards, Code.isGuard, Code.weight, Code.frames, Code.isCreation, Code.isCaller, Code.cUnits])
theorem over_gstart {A : Around} {e : Expr} {gs : List Comprehension} {sc : Scope} {pos : Pos} {it : Value} {cenv : Env} : A.over (.compStart (.GeneratorExp e gs sc pos) 0 it .none cenv) [] = A.deeper cenv := by
  first
    | rfl
    | (obtain ⟨hd, d, fr, gs, u⟩ := A; simp [Around.over, Around.deeper, marksOver, frameCount, unitsOf, envsOf, guardsOf, pushEnvs, pushGuards, Code.envs, Code.env?, Code.isFrame, Code.guards, Code.isGuard, Code.weight, Code.frames, Code.isCreation, Code.isCaller, Code.cUnits])
end
section
variable {Z : Cx} {tg iter elt : Expr} {scope : Scope} {gpos : Pos} {A : Around} {it : Addr} {fp : List Addr} {tn : Nat → Heap → Prop} {J : It} {g : TG} {te : TE} {W : Nat → Nat → Hp → Prop} {QT QF : Hp → Prop} {σ0 : L2.St} {vs : List Nat}
theorem seg_gloop (hA : A.deeper Z.env = Z.A) (hc : Z.calm = true) (hxe : ∀ e s, ¬ Z.xe e s) (hco : Z.env.scope.isCoroutine = false) (T : Turn Z.prog Z.w Z.K tg J fp it tn) (pg : PG Z tg g) (pe : PE Z elt te)
    (hσ : ∀ σ2 : L2.St, wipe σ2 vs = σ0 → ∀ (i : Nat) v, σ0[i]? = some (some v) → σ2[i]? = some (some v)) (hl : ∀ σ2 : L2.St, wipe σ2 vs = σ0 → σ0.length = σ2.length)
    (stat : ∀ {σ' : L2.St} {H' : Hp} {s' : Shared}, Inv Z [] σ' H' s' → (∀ b ∈ fp, H' b = none) → ∀ b ∈ fp, FpOk Z [] H' b)
    (turn : ∀ i m H, W i m H → (J.stop i H ∧ QT H) ∨ (J.go i H ∧ ∃ Nx : Hp → Prop, (∀ H', Nx H' → ∃ m', m' < m ∧ W (i + 1) m' H') ∧ ∀ x H', J.yld i H x H' → g x σ0 H' fun σ2 H2 => wipe σ2 vs = σ0 ∧
      te σ2 H2 fun y H4 => ∃ b, y = .bl b ∧ (if b = true then Nx H4 else QF H4))) :
    ∀ (m n i : Nat) (s₀ s : Shared) (H : Hp), m < n → Inv Z [] σ0 H s → tn i s.heap → (∀ b ∈ fp, H b = none) → W i m H →
      Seg (model Z.prog Z.w) A (RB fun s => ∃ H', Inv Z [] σ0 H' s ∧ QT H') (YB fun b s => ∃ H', Inv Z [] σ0 H' s ∧ (b = false → QF H')) n s₀
        (.compLoop (.GeneratorExp elt [⟨tg, iter, [], 0⟩] scope gpos) 0 (.ref it) .none Z.env)
        ((model Z.prog Z.w).den (.compLoop (.GeneratorExp elt [⟨tg, iter, [], 0⟩] scope gpos) 0 (.ref it) .none Z.env)) [] s := by
  intro m
  induction m using Nat.strongRecOn with
  | ind m ih =>
    intro n i s₀ s H hmn I st nfp w
    have ov : A.over (.compLoop (.GeneratorExp elt [⟨tg, iter, [], 0⟩] scope gpos) 0 (.ref it) .none Z.env) [] = Z.A := over_gloop.trans hA
    obtain ⟨n, rfl⟩ : ∃ k, n = k + 1 := ⟨n - 1, by omega⟩
    show Seg _ A _ _ _ s₀ _ ((compTurn (.GeneratorExp elt [⟨tg, iter, [], 0⟩] scope gpos) 0 (.ref it) .none Z.env).onRaise (leaving Z.env)) [] s
    rw [compTurn_gen, Sem.onRaise_eq_wrap]
    refine seg_bind_wrap (wpAny_standAt ?_)
    refine seg_bind_wrap ?_
    rw [ov]
    rcases turn i m H w with ⟨stop, q⟩ | ⟨go, Nx, hNx, step⟩
    · refine thnF (T.done Z rfl rfl rfl hc i [] s σ0 H (fun _ _ => False) I (stat I nfp) st stop) fun r s1 ⟨hr, I1⟩ => ?_
      subst hr
      exact seg_end (.ok .next) (.inl ⟨.inr rfl, H, I1, q⟩)
    · refine thnF (T.item Z rfl rfl rfl hc i [] s σ0 H (fun _ _ => False) I (stat I nfp) st go) fun r s1 ⟨u, hr, h1⟩ => ?_
      subst hr
      refine seg_bind_wrap ?_
      rw [ov]
      refine thnF h1 fun _ s2 ⟨x, H2, I2, r2, y2, st2, n2⟩ => ?_
      have I2' := I2.pinned (stat I2 n2) (T.obj _ _ st2)
      refine seg_bind_wrap ?_
      rw [ov]
      refine wpAny_mono (pg.run _ s2 _ H2 x u _ I2' r2 (step x H2 y2)) (fun _ s3 ⟨σ3, H3, I3, hw3, q3⟩ => ?_) fun e s' z => (hxe e s' z).elim
      refine seg_bind_wrap (wpAny_tests_nil ?_)
      simp only [if_true]
      have hy : ∀ v, yieldOut Z.env v = yieldValue v := fun v => by simp only [yieldOut, hco, Bool.false_eq_true, if_false]
      simp only [hy]
      rw [Sem.bind_eq_wrap', Sem.bind_eq_wrap', Sem.wrap_wrap, Sem.wrap_wrap]
      refine seg_wrap ?_
      rw [ov]
      refine wpAny_mono (pe.run _ s3 σ3 H3 _ I3 q3) (fun z s4 ⟨yv, H4, I4, r4, b, eb, q4⟩ => ?_) fun e s' z => (hxe e s' z).elim
      subst eb
      obtain rfl : z = Value.bool b := r4
      have pin' : ∀ b ∈ fp, ∀ o, s2.heap.get? b = some o → s4.heap.get? b = some o ∧ H4 b = none := fun b hb o e =>
        let z := I4.pin (b, o) (List.mem_append_right _ (List.mem_append_right _ (mem_pinsAt hb e)))
        ⟨z.1, z.2.1⟩
      have I5 : Inv Z [] σ0 H4 s4 := (I4.unpinned (pins := [])).weak (hl σ3 hw3) (hσ σ3 hw3)
      refine seg_at (seg_yield rfl rfl rfl ⟨b, rfl, ⟨H4, I5, fun hb => by subst hb; simpa using q4⟩, fun hb s' wk => ?_⟩)
      subst hb
      obtain ⟨m', hm, w'⟩ := hNx H4 (by simpa using q4)
      have I6 : Inv Z [] σ0 H4 s' := I5.call' (ch := []) wk.os (Un.kept wk.keep) (I5.hok.kept wk.keep) wk.bare fun b hb => absurd hb (by simp)
      refine seg_again rfl (ih m' hm n (i + 1) s' s' H4 (by omega) I6 (T.keep _ _ _ st2 fun b hb o e => wk.keep b o (pin' b hb o e).1) (fun b hb => ?_) w')
      obtain ⟨o, e, _⟩ := T.obj _ _ st2 b hb
      exact (pin' b hb o e).2

theorem seg_gstart (hA : A.deeper Z.env = Z.A) (hc : Z.calm = true) (hxe : ∀ e s, ¬ Z.xe e s) (hco : Z.env.scope.isCoroutine = false) (T : Turn Z.prog Z.w Z.K tg J fp it tn) (pg : PG Z tg g) (pe : PE Z elt te)
    (hσ : ∀ σ2 : L2.St, wipe σ2 vs = σ0 → ∀ (i : Nat) v, σ0[i]? = some (some v) → σ2[i]? = some (some v)) (hl : ∀ σ2 : L2.St, wipe σ2 vs = σ0 → σ0.length = σ2.length)
    (stat : ∀ {σ' : L2.St} {H' : Hp} {s' : Shared}, Inv Z [] σ' H' s' → (∀ b ∈ fp, H' b = none) → ∀ b ∈ fp, FpOk Z [] H' b)
    (turn : ∀ i m H, W i m H → (J.stop i H ∧ QT H) ∨ (J.go i H ∧ ∃ Nx : Hp → Prop, (∀ H', Nx H' → ∃ m', m' < m ∧ W (i + 1) m' H') ∧ ∀ x H', J.yld i H x H' → g x σ0 H' fun σ2 H2 => wipe σ2 vs = σ0 ∧
      te σ2 H2 fun y H4 => ∃ b, y = .bl b ∧ (if b = true then Nx H4 else QF H4))) (m n : Nat) (s₀ s : Shared) (H : Hp) (hmn : m < n) (I : Inv Z [] σ0 H s) (st : tn 0 s.heap) (nfp : ∀ b ∈ fp, H b = none) (w : W 0 m H) :
      Seg (model Z.prog Z.w) A (RB fun s => ∃ H', Inv Z [] σ0 H' s ∧ QT H') (YB fun b s => ∃ H', Inv Z [] σ0 H' s ∧ (b = false → QF H')) n s₀
        (.compStart (.GeneratorExp elt [⟨tg, iter, [], 0⟩] scope gpos) 0 (.ref it) .none Z.env)
        ((model Z.prog Z.w).den (.compStart (.GeneratorExp elt [⟨tg, iter, [], 0⟩] scope gpos) 0 (.ref it) .none Z.env)) [] s := by
  have loop := seg_gloop (iter := iter) (scope := scope) (gpos := gpos) hA hc hxe hco T pg pe hσ hl stat turn m n 0 s₀ s H hmn I st nfp w
  show Seg _ A _ _ _ s₀ _ ((compStart (.GeneratorExp elt [⟨tg, iter, [], 0⟩] scope gpos) 0 (.ref it) .none Z.env).onRaise (leaving Z.env)) [] s
  unfold compStart
  rw [Sem.onRaise_eq_wrap]
  show Seg _ A _ _ _ s₀ _ ((ask >>= _).wrap _ _ _ _) [] s
  refine seg_bind_wrap (wpAny_askSetting ?_)
  split
  · exact seg_again rfl loop
  · first
      | exact seg_bind_wrap (wpAny_rule (seg_bind_wrap (wpAny_standAt (seg_bind_wrap (T.self _ 0 s _ _ st (seg_again rfl loop))))))
      | (refine seg_bind_wrap (wpAny_rule ?_); show Seg _ A _ _ _ s₀ _ ((standAt iter.pos >>= _).wrap _ _ _ _) [] s; exact seg_bind_wrap (wpAny_standAt (seg_bind_wrap (T.self _ 0 s _ _ st (seg_again rfl loop)))))
/-- only the table of generators, the tokens and what was drawn are others; the heap has grown -/
theorem inv_wk {H : Hp} {s s' : Shared} (I : Inv Z [] σ0 H s) (wk : Wk s s') : Inv Z [] σ0 H s' :=
  I.call' (ch := []) wk.os (Un.kept wk.keep) (I.hok.kept wk.keep) wk.bare fun b hb => absurd hb (by simp)
/-! ### who asks: all, any -/
theorem all_loop {A : Around} {a : Addr} {gi : Nat} (hh : A.handled = none) (hd : A.depth < recursionLimit) (hgen : ∀ {H : Hp} {s : Shared}, Inv Z [] σ0 H s → s.heap.IsGen a gi) :
    ∀ (n : Nat) (s : Shared) (gs : GenState) (H : Hp), Inv Z [] σ0 H s → s.gens[gi]? = some gs →
      gs.Goes (model Z.prog Z.w) A.in1.in1 (RB fun s => ∃ H', Inv Z [] σ0 H' s ∧ QT H') (YB fun b s => ∃ H', Inv Z [] σ0 H' s ∧ (b = false → QF H')) n (.send .none) (s.setGen gi .running) →
      codeAny (model Z.prog Z.w) A (.builtin "all.loop" ⟨[.ref a], []⟩) (fun r s' => ∃ b H', r = .ok (.ret (.bool b)) ∧ Inv Z [] σ0 H' s' ∧ (if b = true then QT H' else QF H')) s := by
  intro n
  induction n with
  | zero =>
    intro s gs H I hgs hgo
    refine codeAny_builtin F.entry_all_loop ?_
    rw [Around.under_plainId F.plain_all_loop _]
    show wpAny _ A.in1 (pyNext (.ref a) >>= _) _ _ s
    refine wpAny_bind (next_genG (F := fun _ _ s => ∃ H', Inv Z [] σ0 H' s ∧ QT H') (Er := fun _ _ => False) hh I.nolimit hd (hgen I) hgs hgo (fun v s₁ gs' hb hv => ?_) (fun s₁ hp h' hk => ?_) fun _ _ z => z.elim)
    · obtain ⟨b, rfl, ⟨H1, I1, q1⟩, nx⟩ := hv
      refine wpAny_bind (wpAny_holding (wpAny_truthy_bool ?_))
      refine wpAny_bind (wpAny_letGo ?_)
      cases b with
      | true => exact (nx rfl s₁ ⟨rfl, I1.bare, fun _ _ e => e⟩).elim
      | false =>
        first
          | exact wpAny_pure ⟨false, H1, rfl, inv_wk I1 ⟨rfl, allBare_setGen I1.bare hb, fun _ _ e => e⟩, by simpa using q1 rfl⟩
          | (simp only [Bool.false_eq_true, if_false]; exact wpAny_pure ⟨false, H1, rfl, inv_wk I1 ⟨rfl, allBare_setGen I1.bare hb, fun _ _ e => e⟩, by simpa using q1 rfl⟩)
          | (simp only [Bool.false_eq_true, if_false]; exact wpAny_bind (wpAny_rule (wpAny_pure ⟨false, H1, rfl, inv_wk I1 ⟨rfl, allBare_setGen I1.bare hb, fun _ _ e => e⟩, by simpa using q1 rfl⟩)))
    · obtain ⟨H1, I1, q1⟩ := hp
      refine wpAny_bind (wpAny_rule (wpAny_pure ⟨true, H1, rfl, inv_wk I1 ⟨rfl, allBare_setGen I1.bare rfl, hk⟩, by simpa using q1⟩))
  | succ n ih =>
    intro s gs H I hgs hgo
    refine codeAny_builtin F.entry_all_loop ?_
    rw [Around.under_plainId F.plain_all_loop _]
    show wpAny _ A.in1 (pyNext (.ref a) >>= _) _ _ s
    have hsz : gi + 1 ≤ s.gens.size := by
      rcases Nat.lt_or_ge gi s.gens.size with h | h
      · exact h
      · rw [Array.getElem?_eq_none h] at hgs; cases hgs
    refine wpAny_bind (wpAny_gsz hsz (next_genG (F := fun _ _ s => ∃ H', Inv Z [] σ0 H' s ∧ QT H') (Er := fun _ _ => False) hh I.nolimit hd (hgen I) hgs hgo (fun v s₁ gs' hb hv => fun hs1 => ?_) (fun s₁ hp h' hk => fun _ => ?_) fun _ _ z => z.elim))
    · obtain ⟨b, rfl, ⟨H1, I1, q1⟩, nx⟩ := hv
      refine wpAny_bind (wpAny_holding (wpAny_truthy_bool ?_))
      refine wpAny_bind (wpAny_letGo ?_)
      have hs1' : gi < s₁.gens.size := by
        rw [setGen_size] at hs1
        exact hs1
      cases b with
      | true =>
        simp only [if_true]
        refine wpAny_pure ⟨plainId_quiet F.plain_all_loop _, ih _ gs' H1 (inv_wk I1 ⟨rfl, allBare_setGen I1.bare hb, fun _ _ e => e⟩) (setGen_at hs1') ?_⟩
        exact nx rfl _ ⟨rfl, allBare_setGen (allBare_setGen I1.bare hb) rfl, fun _ _ e => e⟩
      | false =>
        first
          | exact wpAny_pure ⟨false, H1, rfl, inv_wk I1 ⟨rfl, allBare_setGen I1.bare hb, fun _ _ e => e⟩, by simpa using q1 rfl⟩
          | (simp only [Bool.false_eq_true, if_false]; exact wpAny_pure ⟨false, H1, rfl, inv_wk I1 ⟨rfl, allBare_setGen I1.bare hb, fun _ _ e => e⟩, by simpa using q1 rfl⟩)
          | (simp only [Bool.false_eq_true, if_false]; exact wpAny_bind (wpAny_rule (wpAny_pure ⟨false, H1, rfl, inv_wk I1 ⟨rfl, allBare_setGen I1.bare hb, fun _ _ e => e⟩, by simpa using q1 rfl⟩)))
    · obtain ⟨H1, I1, q1⟩ := hp
      refine wpAny_bind (wpAny_rule (wpAny_pure ⟨true, H1, rfl, inv_wk I1 ⟨rfl, allBare_setGen I1.bare rfl, hk⟩, by simpa using q1⟩))
end

section
variable {X : Cx} {tg iter elt : Expr} {scope : Scope} {gpos p pos : Pos} {wi : TI} {g : TG} {te : TE} {own : List (Str × Nat)} {c P : Addr} {k : Nat}
/-- all(elt for target in iter): W by the turn and a measure, Nx what a turn is to reach -/
def tAll (P : Addr) (wi : TI) (g : TG) (te : TE) (vs : List Nat) : TE := fun σ H Q => wi σ H fun J H1 => TabG H1 P ∧ ∀ H2, Tabbed P H1 H2 → ∃ W : Nat → Nat → Hp → Prop, (∃ m, W 0 m H2) ∧ ∀ i m H, W i m H →
  (J.stop i H ∧ Q (.bl true) H) ∨ (J.go i H ∧ ∃ Nx : Hp → Prop, (∀ H', Nx H' → ∃ m', m' < m ∧ W (i + 1) m' H') ∧ ∀ x H', J.yld i H x H' → g x (wipe σ vs) H' fun σ2 H2 => wipe σ2 vs = wipe σ vs ∧
    te σ2 H2 fun y H4 => ∃ b, y = .bl b ∧ (if b = true then Nx H4 else Q (.bl false) H4))
theorem wipe_wipe {σ σ2 : L2.St} {vs : List Nat} (h : wipe σ2 vs = wipe σ vs) : (∀ (i : Nat) v, (wipe σ vs)[i]? = some (some v) → σ2[i]? = some (some v)) ∧ (wipe σ vs).length = σ2.length := by
  refine ⟨fun i v e => ?_, ?_⟩
  · rw [← h] at e
    exact (wipe_some e).1
  · rw [← h, wipe_length]
theorem pe_all (hr : Room (k + 1) X.A) (hc : X.calm = true) (hN : X.N.Nodup) (hg : Gl X "all") (hm : X.mg "all" = none) (hb : bootBuiltins "all" = some (.builtin "all")) (TB : LamX.TabB X.base X.mg c P) (hcode : X.env.code = .ref c) (hi : PI X tg iter wi) (ok : GenOk X.N X.env.scope scope own)
    (hpg : ∀ (s : Shared) (H : Hp) (C : Addr) (code : Value) (fp : List Addr) (pn : List (Addr × Obj)), PG (gen X (X.A.in1.in1.deeper (genv X scope C code)) s H (genv X scope C code) fp pn) tg g)
    (hpe : ∀ (s : Shared) (H : Hp) (C : Addr) (code : Value) (fp : List Addr) (pn : List (Addr × Obj)), Room k (X.A.in1.in1.deeper (genv X scope C code)) → PE (gen X (X.A.in1.in1.deeper (genv X scope C code)) s H (genv X scope C code) fp pn) elt te)
    (hs : ∀ v, genFold iter X.env v = pure v := by intro _; rfl)
    (he : starEach [.GeneratorExp elt [⟨tg, iter, [], 0⟩] scope gpos] X.env = (false, eval (.GeneratorExp elt [⟨tg, iter, [], 0⟩] scope gpos) X.env) :: starEach [] X.env := by rfl) :
    PE X (.Call (.Name "all" p) [.GeneratorExp elt [⟨tg, iter, [], 0⟩] scope gpos] [] pos) (tAll P wi g te (own.map (·.2))) := by
  refine ⟨fun pins s σ H Q I h => ?_⟩
  refine wpAny_Call_Name_kw (ld_blt I hg hm hb ?_)
  refine PyProof.Rows.callWith_builtin1 ?_ he (by rfl)
  rw [he]
  show wpAny _ _ (spliced ((false, eval (.GeneratorExp elt [⟨tg, iter, [], 0⟩] scope gpos) X.env) :: backTo pos (starEach [] X.env))) _ _ s
  refine Calls.spliced_cons ?_
  have hfree : ∀ y ∈ scope.names, y.2 = .free → ∃ c, X.env.cells.lookup y.1 = some c := fun y hy e => by
    rcases ok.blk.free y hy e with k | k
    · exact I.ok.has _ (.inl k)
    · exact I.ok.has _ (.inr k)
  refine wpAny_GeneratorExp_make ok.co (closure_ok hfree) ok.cell ok.dot ok.blk.kind hr.depth ?_ hs
  refine thn (hi.run pins s σ H _ I h) fun xv s1 h1 => thn h1 fun itv s2 h2 => ?_
  obtain ⟨it, fp, tn, J, H2, rfl, I2, T, st2, f2, tab2, q2⟩ := h2
  refine ⟨I2.nolimit, ?_⟩
  refine gcode TB hcode I2 tab2 fun code s3 H3 tb3 I3 sz3 kp3 => ?_
  refine gblt TB I3 ?_
  intro h' hn' hs'
  have nP : ∀ b, H2 b = none → b ≠ P := fun b e z => by
    obtain ⟨ps, e2, _⟩ := tab2
    rw [z, e2] at e
    cases e
  have f3 : ∀ b ∈ fp, FpOk X pins H3 b ∧ b < s3.heap.objs.size := fun b hb => by
    obtain ⟨o, e, _⟩ := T.obj _ _ st2 b hb
    have hP := nP b (f2 b hb).1
    refine ⟨⟨by rw [tb3.2 b hP]; exact (f2 b hb).1, (f2 b hb).2⟩, Heap.lt_size (kp3 b o hP e)⟩
  have st3 : tn 0 s3.heap := T.keep _ _ _ st2 fun b hb o e => kp3 b o (nP b (f2 b hb).1) e
  have hsz : h'.objs.size = s3.heap.objs.size + 1 := by rw [hs'.1, Heap.size_push]
  have keep' : ∀ b o, s3.heap.get? b = some o → h'.get? b = some o := fun b o e => hs'.extBut b o (Nat.ne_of_lt (Heap.lt_size e)) (Heap.get?_push_of_some _ e)
  generalize hgo : ({ cls := .type "generator", data := .fields #[.int s3.gens.size 0, .str "<genexpr>" (s3.toks + 1), .str (X.env.qual ++ "<genexpr>") (s3.toks + 1 + 1)] } : Obj) = go
  have hgoc : go.cls = .type "generator" ∧ go.data = .fields #[.int s3.gens.size 0, .str "<genexpr>" (s3.toks + 1), .str (X.env.qual ++ "<genexpr>") (s3.toks + 1 + 1)] ∧ go.slots = #[] := by rw [← hgo]; exact ⟨rfl, rfl, rfl⟩
  have hpush : (h'.push go).get? h'.objs.size = some go := by rw [← hgo]; exact Heap.get?_push_size _ rfl
  generalize hgi : s3.gens.size = gi at hgoc
  obtain ⟨W, ⟨m0, w0⟩, turn⟩ := q2 H3 tb3
  generalize hs5 : ({ s3 with gens := s3.gens.push (.fresh (.compStart (.GeneratorExp elt [⟨tg, iter, [], 0⟩] scope gpos) 0 (.ref it) .none (genEnv scope (cloFrom X.env.cells scope.names []) s3.heap.objs.size code builtinsNs X.env))), toks := s3.toks + 1 + 1 + 1, heap := h'.push go } : Shared) = s5
  have e5h : s5.heap = h'.push go := by rw [← hs5]
  have kp5 : ∀ b o, s3.heap.get? b = some o → s5.heap.get? b = some o := fun b o e => by rw [e5h]; exact Heap.get?_push_of_some _ (keep' b o e)
  have hns5 := hn'.push go
  rw [← e5h] at hns5
  have b5 : AllBare s5.gens := by rw [← hs5]; exact I3.bare.push rfl
  have os5 : s5.os = s3.os := by rw [← hs5]
  have g5 : s5.gens[gi]? = some (.fresh (.compStart (.GeneratorExp elt [⟨tg, iter, [], 0⟩] scope gpos) 0 (.ref it) .none (genv X scope s3.heap.objs.size code))) := by
    rw [← hs5, ← hgi]
    exact Array.getElem?_push_size ..
  have ha : s3.heap.objs.size < h'.objs.size := by rw [hsz]; exact Nat.lt_succ_self _
  have I5 := gen_start (code := code) (s5 := s5) I3 ok hN (show X.A.in1.in1.frames = some X.stack from I.ok.frames) (show X.A.in1.in1.handled = none from I.ok.hd hc) f3 kp5 hns5 os5 b5 ha (by rw [e5h]; exact hpush) (fun v q => by rw [hgoc.2.1] at q; cases q)
  have st5 : tn 0 s5.heap := T.keep _ _ _ st3 fun b _ o e => kp5 b o e
  have pg := hpg s3 H3 s3.heap.objs.size code fp [(h'.objs.size, go)]
  have pe := hpe s3 H3 s3.heap.objs.size code fp [(h'.objs.size, go)] ⟨hr.hd, by have := hr.dp; show X.A.depth + 1 + 3 * k + 5 < _; omega, by have := hr.un; show X.A.units + 1 + 1 + 3 + 16 * k + 200 < _; omega⟩
  generalize hZ : gen X (X.A.in1.in1.deeper (genv X scope s3.heap.objs.size code)) s3 H3 (genv X scope s3.heap.objs.size code) fp [(h'.objs.size, go)] = Z at I5 pg pe
  have zp : Z.prog = X.prog := by rw [← hZ]
  have zw : Z.w = X.w := by rw [← hZ]
  have zK : Z.K = X.K := by rw [← hZ]
  have ze : Z.env = genv X scope s3.heap.objs.size code := by rw [← hZ]
  have stat : ∀ {σ' : L2.St} {H' : Hp} {s' : Shared}, Inv Z [] σ' H' s' → (∀ b ∈ fp, H' b = none) → ∀ b ∈ fp, FpOk Z [] H' b := fun {σ' H' s'} I' hn b hb => by
    have hx : Z.ex = fp := by rw [← hZ]
    have hb' : b ∈ Z.ex := by rw [hx]; exact hb
    refine ⟨hn b hb, (I'.ok.exf b hb').1, I'.ok.exfs b hb', .inl hb', fun x c e => (I'.ok.exf b hb').2 x c e, fun p hp => ?_⟩
    have hpn : Z.pn = [(h'.objs.size, go)] := by rw [← hZ]
    rw [hpn] at hp
    have e : p = (h'.objs.size, go) := by simpa using hp
    rw [e]
    exact Nat.ne_of_gt (Nat.lt_trans (f3 b hb).2 ha)
  have hσ : ∀ σ2 : L2.St, wipe σ2 (own.map (·.2)) = wipe σ (own.map (·.2)) → ∀ (i : Nat) v, (wipe σ (own.map (·.2)))[i]? = some (some v) → σ2[i]? = some (some v) := fun σ2 e => (wipe_wipe e).1
  have hl : ∀ σ2 : L2.St, wipe σ2 (own.map (·.2)) = wipe σ (own.map (·.2)) → (wipe σ (own.map (·.2))).length = σ2.length := fun σ2 e => (wipe_wipe e).2
  have T' : Turn Z.prog Z.w Z.K tg J fp it tn := by rw [zp, zw, zK]; exact T
  have hgen : ∀ {H : Hp} {s : Shared}, Inv Z [] (wipe σ (own.map (·.2))) H s → s.heap.IsGen h'.objs.size gi := fun {H s} J => by
    have hpn : Z.pn = [(h'.objs.size, go)] := by rw [← hZ]
    have q := (J.pin (h'.objs.size, go) (by rw [hpn]; simp)).1
    exact ⟨go, _, _, q, hgoc.1, hgoc.2.1, hgoc.2.2⟩
  refine Calls.spliced_nil ?_
  refine call_function_tree F.kind_all F.plain_all F.entry_all (F.args_all1 _) ?_
  unfold Builtin.«all»
  refine wpAny_bind (m := oneArg "all" _) (wpAny_pure ?_)
  refine wpAny_bind (wpAny_pyIter_gen (s := s5) (hgen I5) ?_)
  refine wpAny_pure ⟨plainId_quiet F.plain_all_loop _, ?_⟩
  have seg := seg_gstart (A := X.A.in1.in1) (Z := Z) (iter := iter) (scope := scope) (gpos := gpos) (QT := Q (.bl true)) (QF := Q (.bl false)) (by rw [ze, ← hZ]) (by rw [← hZ]; exact hc) (fun e s z => by rw [← hZ] at z; exact z) (by rw [ze]; exact ok.co) T' pg pe hσ hl stat turn m0 (m0 + 1) (s5.setGen gi .running) (s5.setGen gi .running) H3
    (Nat.lt_succ_self _) (inv_wk I5 ⟨rfl, allBare_setGen b5 rfl, fun _ _ e => e⟩) st5 (fun b hb => (f3 b hb).1.1) w0
  have loop := all_loop (A := X.A) (Z := Z) (QT := Q (.bl true)) (QF := Q (.bl false)) (a := h'.objs.size) (gi := gi) hr.hd hr.depth hgen (m0 + 1) s5 _ H3 I5 g5 ⟨rfl, by rw [ze] at seg; exact seg⟩
  rw [zp, zw] at loop
  refine codeAny_mono loop fun r s' hq => ?_
  obtain ⟨b, H', rfl, I6, q6⟩ := hq
  have u6 : Un (frs X.stack) fp H3 H' s3.heap s'.heap := by
    have := I6.base
    rw [← hZ] at this
    exact this
  have o6 : s'.os = s3.os := by
    have := I6.os
    rw [← hZ] at this
    exact this
  have k6 : HOk X.prog X.w H' s'.heap := by
    have := I6.hok
    rw [zp, zw] at this
    exact this
  refine ⟨.bl b, H', I3.call' (ch := fp) o6 u6 k6 I6.bare fun b hb => ⟨(f3 b hb).1.2.2.2.1, (f3 b hb).1.2.1, (f3 b hb).1.2.2.2.2.1, (f3 b hb).1.2.2.2.2.2⟩, rfl, ?_⟩
  cases b with
  | true => simpa using q6
  | false => simpa using q6
end

/-- a reading of all(..) over what a Walk walks: Pv by the turn and the heap -/
theorem all_it {J : It} {n : Nat} {G : Hp → Prop} {Y : Nat → Hp → V → Hp → Prop} (w : Walk J n G Y) {g : TG} {te : TE} {vs : List Nat} {σ : L2.St} {H2 : Hp} {QT QF : Hp → Prop} (Pv : Nat → Hp → Prop) (h0 : Pv 0 H2) (hG : ∀ i H, i ≤ n → Pv i H → G H)
    (hs : ∀ i x H H', i < n → Pv i H → Y i H x H' → g x (wipe σ vs) H' fun σ2 H2 => wipe σ2 vs = wipe σ vs ∧ te σ2 H2 fun y H4 => ∃ b, y = .bl b ∧ (if b = true then Pv (i + 1) H4 else QF H4)) (hd : ∀ H, Pv n H → QT H) :
    ∃ W : Nat → Nat → Hp → Prop, (∃ m, W 0 m H2) ∧ ∀ i m H, W i m H →
      (J.stop i H ∧ QT H) ∨ (J.go i H ∧ ∃ Nx : Hp → Prop, (∀ H', Nx H' → ∃ m', m' < m ∧ W (i + 1) m' H') ∧ ∀ x H', J.yld i H x H' → g x (wipe σ vs) H' fun σ2 H2 => wipe σ2 vs = wipe σ vs ∧
        te σ2 H2 fun y H4 => ∃ b, y = .bl b ∧ (if b = true then Nx H4 else QF H4)) := by
  refine ⟨fun i m H => m = n - i ∧ i ≤ n ∧ Pv i H, ⟨n, rfl, Nat.zero_le _, h0⟩, ?_⟩
  rintro i m H ⟨rfl, hi, p⟩
  have q := hG i H hi p
  by_cases hlt : i < n
  · refine .inr ⟨w.goes i H hlt q, Pv (i + 1), fun H' p' => ⟨n - (i + 1), by omega, rfl, hlt, p'⟩, fun x H' y => hs i x H H' hlt p (w.yields i H x H' hlt q y)⟩
  · have e : i = n := by omega
    subst e
    exact .inl ⟨w.stops H q, hd H p⟩
/-- a def of the text whose code object stands at c -/
structure FunC (K : PySem.W.Frag) (x qual : Str) (st : Stmt) (f : Addr) (fd : FuncData) (c : Addr) : Prop where
  ex : ∃ (oc : Value) (od : Option Addr) (kV doc pm : Value) (an : Option Addr) (ct : Value) (osl : Array (Option Value)),
    fd = PySem.W.fnOf x qual (defArgs st) (defBody st) (defScope st) .none kV doc pm an (.ref c) ct ∧ K.lookup f = some ⟨oc, od, .func fd, osl⟩ ∧ PySem.W.codeIn K (.ref c) qual = true
  kp : PySem.W.keepIn K (.ref f) = true
section
variable {P : Program} {w : World} {K : PySem.W.Frag} {mg : Str → Option Value} {base : Heap}
theorem FunC.ok {x qual : Str} {st : Stmt} {f c : Addr} {fd : FuncData} {N ps : List Str} {k : Nat} {sp : Sp} (F : FunC K x qual st f fd c) (S : FnScope N ps (defScope st)) (len : ∀ vs H Q E, sp vs H Q E → vs.length = ps.length)
    (hbody : ∀ (A : Around) (outer : List Env) (s : Shared) (H : Hp) (vs : List V) (Q : VK) (E : XK), Room k (A.deeper (envOfC qual (defScope st) s.heap.objs.size f (.ref c))) → sp vs H Q E →
      ∃ t, PSs (cxOf CX0 P w K mg base N qual (defScope st) f (.ref c) A outer s H E).nox (defBody st) t ∧ t { nx := fun _ H' => Q .non H', rt := Q } (start N vs) H) : FnOk P w K mg base CX0 (k + 1) f fd ps sp := by
  obtain ⟨oc, od, kV, doc, pm, an, ct, osl, rfl, lk, hcd⟩ := F.ex
  refine fn_of lk hcd S len fun A outer s H vs Q E hr hsp => ?_
  obtain ⟨t, h, q⟩ := hbody A outer s H vs Q E hr hsp
  exact ⟨t, h.nox, q⟩
theorem FunC.binds {x qual : Str} {st : Stmt} {f c : Addr} {fd : FuncData} {ps : List Str} (F : FunC K x qual st f fd c)
    (h : ∀ (kV doc pm : Value) (an : Option Addr) (cdv ct : Value) (us : List Value), us.length = ps.length → bindArgs (PySem.W.fnOf x qual (defArgs st) (defBody st) (defScope st) .none kV doc pm an cdv ct) ⟨us, []⟩ = pure (ps.zip us)) : Binds K fd ps [] := by
  obtain ⟨oc, od, kV, doc, pm, an, ct, osl, rfl, lk, hcd⟩ := F.ex
  exact .all (h kV doc pm an (.ref c) ct)
theorem func_mk {x qual : Str} {st : Stmt} {f c : Addr} {oc : Value} {od an : Option Addr} {osl : Array (Option Value)} {kV doc pm ct : Value} (l : K.lookup f = some ⟨oc, od, .func (PySem.W.fnOf x qual (defArgs st) (defBody st) (defScope st) .none kV doc pm an (.ref c) ct), osl⟩)
    (k1 : PySem.W.codeIn K (.ref c) qual = true) (k : PySem.W.keepIn K (.ref f) = true) : FunC K x qual st f (PySem.W.fnOf x qual (defArgs st) (defBody st) (defScope st) .none kV doc pm an (.ref c) ct) c := ⟨⟨oc, od, kV, doc, pm, an, ct, osl, rfl, l, k1⟩, k⟩
end
/-! ### the end of a law whose defs hold generator expressions -/
def GTab (q : Program) (K : PySem.W.Frag) (h : Heap) : Prop := ∀ (x : Str) (c P : Addr), ((recsOf q).find? fun e => e.name == x).isSome = true → PySem.W.tabIn K x = some (c, P) → PySem.W.CodeHd h c P ∧ h.get? P = some { cls := .none, data := .fields #[] }
theorem tab_by {K : PySem.W.Frag} {x : Str} {f c P : Addr} {oc oq : Value} {od dq : Option Addr} {fd : FuncData} {sl sq : Array (Option Value)} {vq : Array Value} (a : PySem.W.nsIn K mainGlobals x = some (some (.ref f))) (l : K.lookup f = some ⟨oc, od, .func fd, sl⟩) (e : fd.code = .ref c) (q : K.lookup c = some ⟨oq, dq, .fields vq, sq⟩) (v : vq[11]? = some (.ref P)) : PySem.W.tabIn K x = some (c, P) := by
  unfold PySem.W.tabIn
  rw [a]
  simp only [l, e, q, v]
theorem walk_ofG {l : PySem.W.OpenLaw} {n k : Nat} {q : Program} {loose : List Str} {XP : (Str → Option Value) → Heap → Prop} {YP : World → Heap → Prop} {d : DefRec} {K : Params → PySem.W.Frag} {CX : World → CXT} {x : Str}
    (hn : l.most = some n) (hn2 : n ≤ sizeLine) (hdf : d.params.defaults = []) (hr : Room k callerA) (hY : ∀ (w : World) (h : Heap), YP w h → (K w.params).In h)
    (F : ∀ (w : World) (mg : Str → Option Value) (fa : Addr) (h : Heap), YP w h → (K w.params).In h → h.Ns mainGlobals mg → mg d.name = some (.ref fa) → GTab q (K w.params) h → LamX.LawAtS l w (K w.params) (CX w) k n x mg fa h)
    (hCX : ∀ (w : World) (H : Hp) (s : Shared) (e : Value) (s' : Shared), CX w [] H s (fun _ _ _ => False) e s' → False) :
    PySem.W.WalkO q loose XP YP l.row.toRowW d [] (fun f vs => PySem.call f vs) := by
  refine Att.attach_callB hn hdf fun w s₀ s₁ mg mb fa o pm cd doc a vs ns G Y ho hd hcd hmg hobj hints hlen hbits hg => ?_
  have KX := hY w _ Y
  have gt : GTab q (K w.params) s₁.heap := fun x c P hr ht => by
    obtain ⟨d2, hd2⟩ := Option.isSome_iff_exists.mp hr
    exact PySem.W.tab_of (mb := mb) G.T KX hd2 ht
  obtain ⟨fd, cs, sp, hT, nT, C, hb, hsp, hF⟩ := F w mg fa _ Y KX G.T.g hmg gt
  exact LamX.law_callTs KX G.T.g G.T.b G.T.builtins G.T.nolimit hg hT nT C G.T.bmain hobj hints (Nat.le_trans hlen hn2) hr hF hb (fun H hH hS => hsp H a ns hlen hbits hH hS) fun H e s' => hCX w H s₁ e s'
end GA

set_option Elab.async false
set_option linter.all false
set_option maxRecDepth 100000
/-! a field of an instance as one of several targets; a method that may raise, called in a try; an expression that is never come to -/
namespace Fl
open PySem PySem.Spec PyProof.Rows L2
section
variable {X : Cx} {pos : Pos}
/-- o.f = v -/
def gFld (K : PySem.W.Frag) (to : TE) (f : Str) : TG := fun v σ H Q => to σ H fun x H1 => ∃ a C dx fs, x = .ref a ∧ H1 a = some (.ins C dx fs) ∧ Cls K C ∧ NoAttr K C f ∧ fs.length < 1000 ∧ Q σ (upd H1 a (.ins C dx (putF f v fs)))
theorem pg_fld {o : Expr} {to : TE} {f : Str} (ho : PE X o to) : PG X (.Attribute o f pos) (gFld X.K to f) where
  run := by
    intro pins s σ H v u Q I r h
    rw [assign_Attribute]
    refine wpAny_bind (wpAny_holding (thn (ho.run pins s σ H _ I h) ?_))
    rintro ov s1 ⟨x, H1, I1, r1, a, C, dx, fs, rfl, ea, c, n, l, q⟩
    cases r1
    refine wpAny_bind (wpAny_standAt (wpAny_bind (wpAny_holding ?_)))
    exact setattr_ok I1 ea c n l r fun s2 I2 => wpAny_release ⟨σ, _, I2, q⟩
/-- an expression that is never come to -/
def tNo : TE := fun _ _ _ => False
theorem pe_no {e : Expr} : PE X e tNo where
  run := fun _ _ _ _ _ _ h => absurd h id
/-- o.m(..), with what it raises read at the slots -/
def tMethAt (C : Addr) (m : Str) (sp : Sp) (E : L2.St → XK) (ta : TE) (t : TA) : TE := fun σ H Q => tMeth C m sp [] (E σ) ta t σ H Q
section
variable {CX : CXT} {k : Nat} {f C : Addr} {fd : FuncData} {ps : List Str} {sp : Sp} {E : L2.St → XK} {m : Str} {apos : Pos} {e o : Expr} {es : List Expr} {ta : TE} {t : TA} {pl : Sem Bool}
theorem pe_methT (he : PE X o ta) (c : Cls X.K C) (hm : Meth X.K C m f) (F : FnOk X.prog X.w X.K X.mg X.base CX k f fd ps sp) (hr : Room k X.A) (hb : Binds X.K fd ps []) (hx : ∀ σ, PassesAt CX X σ (E σ)) (ha : PA X (e :: es) t)
    (hs : starEach (e :: es) X.env = (false, eval e X.env) :: starEach es X.env := by rfl) (hp : (backTo pos (starEach es X.env)).any (·.1) = false := by rfl)
    (ht : eval (.Call (.Attribute o m apos) (e :: es) [] pos) X.env = (do let ov ← eval o X.env; standAt apos.atName; let (f, first) ← holding [ov] (getMethod ov m pl); callWith pos f first (backTo pos (starEach (e :: es) X.env)) (backToKw pos (keywordEach [] X.env))) := by rfl) :
    PE X (.Call (.Attribute o m apos) (e :: es) [] pos) (tMethAt C m sp E ta t) where
  run := by
    intro pins s σ H Q I h
    refine PySem.W.methodCall_KW (pl := pl) (thn (he.run pins s σ H _ I h) ?_) ht
    rintro u s1 ⟨x, H1, I1, rx, a, dx, fs, rfl, ea, l, q⟩
    cases rx
    refine getmeth_ok I1 ea c hm l (PySem.W.callWith_K (first := [.ref a]) (h₀ := X.base) I.ok.mod.kin hm.kp (thn (ha.run pos pins s1 σ H1 _ I1 q) ?_) hs hp)
    rintro us s2 ⟨vs, H2, I2, r, q2⟩
    rw [List.append_nil] at q2
    exact ⟨I2.kIn, run_fnS (us := .ref a :: us) (vs := .ref a :: vs) F hr hb (hx σ) I2 (.cons rfl r) q2⟩
theorem pe_methT0 (he : PE X o ta) (c : Cls X.K C) (hm : Meth X.K C m f) (F : FnOk X.prog X.w X.K X.mg X.base CX k f fd ps sp) (hr : Room k X.A) (hb : Binds X.K fd ps []) (hx : ∀ σ, PassesAt CX X σ (E σ))
    (ht : eval (.Call (.Attribute o m apos) [] [] pos) X.env = (do let ov ← eval o X.env; standAt apos.atName; let (f, first) ← holding [ov] (getMethod ov m pl); callWith pos f first (backTo pos (starEach [] X.env)) (backToKw pos (keywordEach [] X.env))) := by rfl) :
    PE X (.Call (.Attribute o m apos) [] [] pos) (tMethAt C m sp E ta tNil) where
  run := by
    intro pins s σ H Q I h
    refine PySem.W.methodCall_KW (pl := pl) (thn (he.run pins s σ H _ I h) ?_) ht
    rintro u s1 ⟨x, H1, I1, rx, a, dx, fs, rfl, ea, l, q⟩
    cases rx
    exact getmeth_ok I1 ea c hm l (PySem.W.callWith_K0 (first := [.ref a]) I1.kIn hm.kp (run_fnS (us := [.ref a]) (vs := [.ref a]) F hr hb (hx σ) I1 (.cons rfl .nil) q))
end
end
end Fl

set_option Elab.async false
set_option linter.all false
set_option maxRecDepth 100000
set_option maxHeartbeats 4000000
namespace K32
open PySem PySem.Spec PyProof.Rows L2 QX
def topS (i : Nat) : Stmt := PySem.Challenge.pw_quietsmith_k32_control_steps.main.body.getD i (.Pass ⟨0, 0, 0, 0⟩)
abbrev s_wall : Stmt := topS 0
abbrev n_wall : List Str := ["k"]
theorem sc_wall : FnScope ["k"] ["k"] (defScope s_wall) := ⟨rfl, rfl, rfl, by decide +kernel, rfl, by decide +kernel, by decide +kernel⟩
abbrev s_base_cycles : Stmt := topS 9
abbrev n_base_cycles : List Str := ["name"]
theorem sc_base_cycles : FnScope ["name"] ["name"] (defScope s_base_cycles) := ⟨rfl, rfl, rfl, by decide +kernel, rfl, by decide +kernel, by decide +kernel⟩
abbrev s_Cache_init : Stmt := inClass (topS 10) 0
abbrev n_Cache_init : List Str := ["self"]
theorem sc_Cache_init : FnScope ["self"] ["self"] (defScope s_Cache_init) := ⟨rfl, rfl, rfl, by decide +kernel, rfl, by decide +kernel, by decide +kernel⟩
abbrev s_Cache_lines : Stmt := inClass (topS 10) 2
abbrev n_Cache_lines : List Str := ["self"]
theorem sc_Cache_lines : FnScope ["self"] ["self"] (defScope s_Cache_lines) := ⟨rfl, rfl, rfl, by decide +kernel, rfl, by decide +kernel, by decide +kernel⟩
abbrev s_Predictor_init : Stmt := inClass (topS 11) 0
abbrev n_Predictor_init : List Str := ["self"]
theorem sc_Predictor_init : FnScope ["self"] ["self"] (defScope s_Predictor_init) := ⟨rfl, rfl, rfl, by decide +kernel, rfl, by decide +kernel, by decide +kernel⟩
abbrev s_Predictor_branch : Stmt := inClass (topS 11) 1
abbrev n_Predictor_branch : List Str := ["self", "place", "jumps", "which", "mark"]
theorem sc_Predictor_branch : FnScope ["self", "place", "jumps", "which", "mark"] ["self", "place", "jumps"] (defScope s_Predictor_branch) := ⟨rfl, rfl, rfl, by decide +kernel, rfl, by decide +kernel, by decide +kernel⟩
abbrev s_Predictor_counters : Stmt := inClass (topS 11) 2
abbrev n_Predictor_counters : List Str := ["self"]
theorem sc_Predictor_counters : FnScope ["self"] ["self"] (defScope s_Predictor_counters) := ⟨rfl, rfl, rfl, by decide +kernel, rfl, by decide +kernel, by decide +kernel⟩
abbrev s_is_integer : Stmt := topS 17
abbrev n_is_integer : List Str := ["value", "least", "greatest"]
theorem sc_is_integer : FnScope ["value", "least", "greatest"] ["value", "least", "greatest"] (defScope s_is_integer) := ⟨rfl, rfl, rfl, by decide +kernel, rfl, by decide +kernel, by decide +kernel⟩
abbrev s_region_end : Stmt := topS 20
abbrev n_region_end : List Str := ["region"]
theorem sc_region_end : FnScope ["region"] ["region"] (defScope s_region_end) := ⟨rfl, rfl, rfl, by decide +kernel, rfl, by decide +kernel, by decide +kernel⟩
abbrev s_layout_end : Stmt := topS 21
abbrev n_layout_end : List Str := ["layout"]
theorem sc_layout_end : FnScope ["layout"] ["layout"] (defScope s_layout_end) := ⟨rfl, rfl, rfl, by decide +kernel, rfl, by decide +kernel, by decide +kernel⟩
abbrev s_is_memory : Stmt := topS 22
abbrev n_is_memory : List Str := ["layout", "value", "region", "word"]
theorem sc_is_memory : FnScope ["layout", "value", "region", "word"] ["layout", "value"] (defScope s_is_memory) := ⟨rfl, rfl, rfl, by decide +kernel, rfl, by decide +kernel, by decide +kernel⟩
abbrev s_outcome : Stmt := topS 28
abbrev n_outcome : List Str := ["instruction", "words", "carry", "name", "first"]
theorem sc_outcome : FnScope ["instruction", "words", "carry", "name", "first"] ["instruction", "words", "carry"] (defScope s_outcome) := ⟨rfl, rfl, rfl, by decide +kernel, rfl, by decide +kernel, by decide +kernel⟩
abbrev s_mosts_of : Stmt := topS 35
abbrev n_mosts_of : List Str := ["layout", "mosts", "region", "start", "size", "_", "most"]
theorem sc_mosts_of : FnScope ["layout", "mosts", "region", "start", "size", "_", "most"] ["layout"] (defScope s_mosts_of) := ⟨rfl, rfl, rfl, by decide +kernel, rfl, by decide +kernel, by decide +kernel⟩
abbrev s_Machine_init : Stmt := inClass (topS 36) 0
abbrev n_Machine_init : List Str := ["self", "code_file", "memory", "layout", "code"]
theorem sc_Machine_init : FnScope ["self", "code_file", "memory", "layout", "code"] ["self", "code_file", "memory"] (defScope s_Machine_init) := ⟨rfl, rfl, rfl, by decide +kernel, rfl, by decide +kernel, by decide +kernel⟩
abbrev s_Machine_step : Stmt := inClass (topS 36) 1
abbrev n_Machine_step : List Str := ["self", "instruction", "name"]
theorem sc_Machine_step : FnScope ["self", "instruction", "name"] ["self"] (defScope s_Machine_step) := ⟨rfl, rfl, rfl, by decide +kernel, rfl, by decide +kernel, by decide +kernel⟩
abbrev s_Machine_run : Stmt := inClass (topS 36) 2
abbrev n_Machine_run : List Str := ["self", "limit", "made"]
theorem sc_Machine_run : FnScope ["self", "limit", "made"] ["self", "limit"] (defScope s_Machine_run) := ⟨rfl, rfl, rfl, by decide +kernel, rfl, by decide +kernel, by decide +kernel⟩
abbrev s_Machine_show : Stmt := inClass (topS 36) 3
abbrev n_Machine_show : List Str := ["self", "address", "cycles", "following"]
theorem sc_Machine_show : FnScope ["self", "address", "cycles", "following"] ["self", "address", "cycles", "following"] (defScope s_Machine_show) := ⟨rfl, rfl, rfl, by decide +kernel, rfl, by decide +kernel, by decide +kernel⟩
abbrev s_Machine_compute : Stmt := inClass (topS 36) 4
abbrev n_Machine_compute : List Str := ["self", "instruction", "name", "word", "cycles"]
theorem sc_Machine_compute : FnScope ["self", "instruction", "name", "word", "cycles"] ["self", "instruction"] (defScope s_Machine_compute) := ⟨rfl, rfl, rfl, by decide +kernel, rfl, by decide +kernel, by decide +kernel⟩
abbrev s_Machine_leave : Stmt := inClass (topS 36) 6
abbrev n_Machine_leave : List Str := ["self", "instruction", "name", "cycles", "following"]
theorem sc_Machine_leave : FnScope ["self", "instruction", "name", "cycles", "following"] ["self", "instruction"] (defScope s_Machine_leave) := ⟨rfl, rfl, rfl, by decide +kernel, rfl, by decide +kernel, by decide +kernel⟩
abbrev s_Machine_place_behind : Stmt := inClass (topS 36) 7
abbrev n_Machine_place_behind : List Str := ["self", "instruction", "_", "first", "word", "place"]
theorem sc_Machine_place_behind : FnScope ["self", "instruction", "_", "first", "word", "place"] ["self", "instruction"] (defScope s_Machine_place_behind) := ⟨rfl, rfl, rfl, by decide +kernel, rfl, by decide +kernel, by decide +kernel⟩
abbrev s_Machine_ended : Stmt := inClass (topS 36) 8
abbrev n_Machine_ended : List Str := ["self"]
theorem sc_Machine_ended : FnScope ["self"] ["self"] (defScope s_Machine_ended) := ⟨rfl, rfl, rfl, by decide +kernel, rfl, by decide +kernel, by decide +kernel⟩
abbrev s_Machine_place : Stmt := inClass (topS 36) 9
abbrev n_Machine_place : List Str := ["self"]
theorem sc_Machine_place : FnScope ["self"] ["self"] (defScope s_Machine_place) := ⟨rfl, rfl, rfl, by decide +kernel, rfl, by decide +kernel, by decide +kernel⟩
abbrev s_Machine_cycles : Stmt := inClass (topS 36) 10
abbrev n_Machine_cycles : List Str := ["self"]
theorem sc_Machine_cycles : FnScope ["self"] ["self"] (defScope s_Machine_cycles) := ⟨rfl, rfl, rfl, by decide +kernel, rfl, by decide +kernel, by decide +kernel⟩
abbrev s_Machine_carry : Stmt := inClass (topS 36) 11
abbrev n_Machine_carry : List Str := ["self"]
theorem sc_Machine_carry : FnScope ["self"] ["self"] (defScope s_Machine_carry) := ⟨rfl, rfl, rfl, by decide +kernel, rfl, by decide +kernel, by decide +kernel⟩
abbrev s_Machine_registers : Stmt := inClass (topS 36) 12
abbrev n_Machine_registers : List Str := ["self"]
theorem sc_Machine_registers : FnScope ["self"] ["self"] (defScope s_Machine_registers) := ⟨rfl, rfl, rfl, by decide +kernel, rfl, by decide +kernel, by decide +kernel⟩
abbrev s_Machine_memory : Stmt := inClass (topS 36) 13
abbrev n_Machine_memory : List Str := ["self"]
theorem sc_Machine_memory : FnScope ["self"] ["self"] (defScope s_Machine_memory) := ⟨rfl, rfl, rfl, by decide +kernel, rfl, by decide +kernel, by decide +kernel⟩
abbrev s_Machine_stack : Stmt := inClass (topS 36) 14
abbrev n_Machine_stack : List Str := ["self"]
theorem sc_Machine_stack : FnScope ["self"] ["self"] (defScope s_Machine_stack) := ⟨rfl, rfl, rfl, by decide +kernel, rfl, by decide +kernel, by decide +kernel⟩
abbrev s_Machine_shown : Stmt := inClass (topS 36) 15
abbrev n_Machine_shown : List Str := ["self"]
theorem sc_Machine_shown : FnScope ["self"] ["self"] (defScope s_Machine_shown) := ⟨rfl, rfl, rfl, by decide +kernel, rfl, by decide +kernel, by decide +kernel⟩
abbrev s_law_source : Stmt := topS 38
abbrev n_law_source : List Str := ["script", "k", "cell", "state"]
theorem sc_law_source : FnScope ["script", "k", "cell", "state"] ["script", "k"] (defScope s_law_source) := ⟨rfl, rfl, rfl, by decide +kernel, rfl, by decide +kernel, by decide +kernel⟩
abbrev s_law_draw : Stmt := topS 39
abbrev n_law_draw : List Str := ["source", "many", "worth"]
theorem sc_law_draw : FnScope ["source", "many", "worth"] ["source", "many"] (defScope s_law_draw) := ⟨rfl, rfl, rfl, by decide +kernel, rfl, by decide +kernel, by decide +kernel⟩
abbrev s_law_same_words : Stmt := topS 40
abbrev n_law_same_words : List Str := ["actual", "due", "k"]
theorem sc_law_same_words : FnScope ["actual", "due", "k"] ["actual", "due"] (defScope s_law_same_words) := ⟨rfl, rfl, rfl, by decide +kernel, rfl, by decide +kernel, by decide +kernel⟩
abbrev s_law_instruction : Stmt := topS 41
abbrev n_law_instruction : List Str := ["source", "size", "deep", "place", "word", "at", "shape"]
theorem sc_law_instruction : FnScope ["source", "size", "deep", "place", "word", "at", "shape"] ["source", "size", "deep"] (defScope s_law_instruction) := ⟨rfl, rfl, rfl, by decide +kernel, rfl, by decide +kernel, by decide +kernel⟩
abbrev s_law_refusal : Stmt := topS 42
abbrev n_law_refusal : List Str := ["machine", "turns", "actual", "e"]
theorem sc_law_refusal : FnScope ["machine", "turns", "actual", "e"] ["machine", "turns"] (defScope s_law_refusal) := ⟨rfl, rfl, rfl, by decide +kernel, rfl, by decide +kernel, by decide +kernel⟩
abbrev s_law_holds : Stmt := topS 43
abbrev n_law_holds : List Str := ["machine", "place", "stack", "registers", "ended", "count", "turn", "told"]
theorem sc_law_holds : FnScope ["machine", "place", "stack", "registers", "ended", "count", "turn", "told"] ["machine", "place", "stack", "registers", "ended", "count"] (defScope s_law_holds) := ⟨rfl, rfl, rfl, by decide +kernel, rfl, by decide +kernel, by decide +kernel⟩
abbrev s_law_goes : Stmt := topS 44
abbrev n_law_goes : List Str := ["row", "place", "stack", "registers"]
theorem sc_law_goes : FnScope ["row", "place", "stack", "registers"] ["row", "place", "stack", "registers"] (defScope s_law_goes) := ⟨rfl, rfl, rfl, by decide +kernel, rfl, by decide +kernel, by decide +kernel⟩
abbrev s_law_refused : Stmt := topS 45
abbrev n_law_refused : List Str := ["machine", "reason", "turns"]
theorem sc_law_refused : FnScope ["machine", "reason", "turns"] ["machine", "reason"] (defScope s_law_refused) := ⟨rfl, rfl, rfl, by decide +kernel, rfl, by decide +kernel, by decide +kernel⟩
abbrev s_law_one_holds : Stmt := topS 46
abbrev n_law_one_holds : List Str := ["script", "at", "source", "size", "deep", "code", "machine", "place", "stack", "registers", "count", "turn", "row", "again", "made", "k"]
theorem sc_law_one_holds : FnScope ["script", "at", "source", "size", "deep", "code", "machine", "place", "stack", "registers", "count", "turn", "row", "again", "made", "k"] ["script", "at"] (defScope s_law_one_holds) := ⟨rfl, rfl, rfl, by decide +kernel, rfl, by decide +kernel, by decide +kernel⟩
abbrev s_law : Stmt := topS 47
abbrev n_law : List Str := ["script", "turn"]
theorem sc_law : FnScope ["script", "turn"] ["script"] (defScope s_law) := ⟨rfl, rfl, rfl, by decide +kernel, rfl, by decide +kernel, by decide +kernel⟩
abbrev i_BadInput : Stmt := inClass (topS 14) 0
theorem sc_BadInput : ScS ["self"] (defScope i_BadInput) := ⟨rfl, rfl, rfl, by decide +kernel, by decide +kernel, by decide +kernel, by decide +kernel, rfl, rfl⟩
abbrev i_BadRun : Stmt := inClass (topS 15) 0
theorem sc_BadRun : ScS ["self", "reason"] (defScope i_BadRun) := ⟨rfl, rfl, rfl, by decide +kernel, by decide +kernel, by decide +kernel, by decide +kernel, rfl, rfl⟩
structure Tx (P : Program) (w : World) (K : PySem.W.Frag) (mg : Str → Option Value) where
  E_BadInput : Err P K mg "BadInput" "BadInput.__init__" i_BadInput ["self"] []
  E_BadRun : Err P K mg "BadRun" "BadRun.__init__" i_BadRun ["self", "reason"] ["reason"]
  c_QuietError : Addr
  g_QuietError : mg "QuietError" = some (.ref c_QuietError)
  te_BadInput : PySem.W.exmOne K (.ref E_BadInput.C) (.ref c_QuietError) = some true
  te_BadRun : PySem.W.exmOne K (.ref E_BadRun.C) (.ref c_QuietError) = some true
  c_Cache : Addr
  g_Cache : mg "Cache" = some (.ref c_Cache)
  cl_Cache : Cls K c_Cache
  no_Cache_blocks : NoAttr K c_Cache "blocks"
  c_Predictor : Addr
  g_Predictor : mg "Predictor" = some (.ref c_Predictor)
  cl_Predictor : Cls K c_Predictor
  no_Predictor_marks : NoAttr K c_Predictor "marks"
  c_Machine : Addr
  g_Machine : mg "Machine" = some (.ref c_Machine)
  cl_Machine : Cls K c_Machine
  no_Machine_code : NoAttr K c_Machine "code"
  no_Machine_mosts : NoAttr K c_Machine "mosts"
  no_Machine_cells : NoAttr K c_Machine "cells"
  no_Machine_words : NoAttr K c_Machine "words"
  no_Machine_flag : NoAttr K c_Machine "flag"
  no_Machine_waiting : NoAttr K c_Machine "waiting"
  no_Machine_at : NoAttr K c_Machine "at"
  no_Machine_clock : NoAttr K c_Machine "clock"
  no_Machine_over : NoAttr K c_Machine "over"
  no_Machine_trace : NoAttr K c_Machine "trace"
  no_Machine_cache : NoAttr K c_Machine "cache"
  no_Machine_predictor : NoAttr K c_Machine "predictor"
  a_wall : Addr
  d_wall : FuncData
  F_wall : Fun K "_wall" "_wall" s_wall a_wall d_wall
  b_wall : Binds K d_wall ["k"] []
  g_wall : mg "_wall" = some (.ref a_wall)
  a_base_cycles : Addr
  d_base_cycles : FuncData
  F_base_cycles : Fun K "base_cycles" "base_cycles" s_base_cycles a_base_cycles d_base_cycles
  b_base_cycles : Binds K d_base_cycles ["name"] []
  g_base_cycles : mg "base_cycles" = some (.ref a_base_cycles)
  a_Cache_init : Addr
  d_Cache_init : FuncData
  F_Cache_init : Fun K "__init__" "Cache.__init__" s_Cache_init a_Cache_init d_Cache_init
  b_Cache_init : Binds K d_Cache_init ["self"] []
  mk_Cache : Mk K c_Cache a_Cache_init
  a_Cache_lines : Addr
  d_Cache_lines : FuncData
  F_Cache_lines : Fun K "lines" "Cache.lines" s_Cache_lines a_Cache_lines d_Cache_lines
  b_Cache_lines : Binds K d_Cache_lines ["self"] []
  m_Cache_lines : Meth K c_Cache "lines" a_Cache_lines
  a_Predictor_init : Addr
  d_Predictor_init : FuncData
  F_Predictor_init : Fun K "__init__" "Predictor.__init__" s_Predictor_init a_Predictor_init d_Predictor_init
  b_Predictor_init : Binds K d_Predictor_init ["self"] []
  mk_Predictor : Mk K c_Predictor a_Predictor_init
  a_Predictor_branch : Addr
  d_Predictor_branch : FuncData
  F_Predictor_branch : Fun K "branch" "Predictor.branch" s_Predictor_branch a_Predictor_branch d_Predictor_branch
  b_Predictor_branch : Binds K d_Predictor_branch ["self", "place", "jumps"] []
  m_Predictor_branch : Meth K c_Predictor "branch" a_Predictor_branch
  a_Predictor_counters : Addr
  d_Predictor_counters : FuncData
  F_Predictor_counters : Fun K "counters" "Predictor.counters" s_Predictor_counters a_Predictor_counters d_Predictor_counters
  b_Predictor_counters : Binds K d_Predictor_counters ["self"] []
  m_Predictor_counters : Meth K c_Predictor "counters" a_Predictor_counters
  a_is_integer : Addr
  d_is_integer : FuncData
  F_is_integer : Fun K "is_integer" "is_integer" s_is_integer a_is_integer d_is_integer
  b_is_integer : Binds K d_is_integer ["value", "least", "greatest"] []
  g_is_integer : mg "is_integer" = some (.ref a_is_integer)
  a_region_end : Addr
  d_region_end : FuncData
  F_region_end : Fun K "region_end" "region_end" s_region_end a_region_end d_region_end
  b_region_end : Binds K d_region_end ["region"] []
  g_region_end : mg "region_end" = some (.ref a_region_end)
  a_layout_end : Addr
  d_layout_end : FuncData
  F_layout_end : Fun K "layout_end" "layout_end" s_layout_end a_layout_end d_layout_end
  b_layout_end : Binds K d_layout_end ["layout"] []
  g_layout_end : mg "layout_end" = some (.ref a_layout_end)
  a_is_memory : Addr
  d_is_memory : FuncData
  cc_is_memory : Addr
  P_is_memory : Addr
  F_is_memory : GA.FunC K "is_memory" "is_memory" s_is_memory a_is_memory d_is_memory cc_is_memory
  b_is_memory : Binds K d_is_memory ["layout", "value"] []
  g_is_memory : mg "is_memory" = some (.ref a_is_memory)
  a_outcome : Addr
  d_outcome : FuncData
  F_outcome : Fun K "outcome" "outcome" s_outcome a_outcome d_outcome
  b_outcome : Binds K d_outcome ["instruction", "words", "carry"] []
  g_outcome : mg "outcome" = some (.ref a_outcome)
  a_mosts_of : Addr
  d_mosts_of : FuncData
  F_mosts_of : Fun K "mosts_of" "mosts_of" s_mosts_of a_mosts_of d_mosts_of
  b_mosts_of : Binds K d_mosts_of ["layout"] []
  g_mosts_of : mg "mosts_of" = some (.ref a_mosts_of)
  a_Machine_init : Addr
  d_Machine_init : FuncData
  F_Machine_init : Fun K "__init__" "Machine.__init__" s_Machine_init a_Machine_init d_Machine_init
  b_Machine_init : Binds K d_Machine_init ["self", "code_file", "memory"] []
  mk_Machine : Mk K c_Machine a_Machine_init
  a_Machine_step : Addr
  d_Machine_step : FuncData
  F_Machine_step : Fun K "step" "Machine.step" s_Machine_step a_Machine_step d_Machine_step
  b_Machine_step : Binds K d_Machine_step ["self"] []
  m_Machine_step : Meth K c_Machine "step" a_Machine_step
  a_Machine_run : Addr
  d_Machine_run : FuncData
  F_Machine_run : Fun K "run" "Machine.run" s_Machine_run a_Machine_run d_Machine_run
  b_Machine_run : Binds K d_Machine_run ["self", "limit"] []
  m_Machine_run : Meth K c_Machine "run" a_Machine_run
  a_Machine_show : Addr
  d_Machine_show : FuncData
  F_Machine_show : Fun K "show" "Machine.show" s_Machine_show a_Machine_show d_Machine_show
  b_Machine_show : Binds K d_Machine_show ["self", "address", "cycles", "following"] []
  m_Machine_show : Meth K c_Machine "show" a_Machine_show
  a_Machine_compute : Addr
  d_Machine_compute : FuncData
  F_Machine_compute : Fun K "compute" "Machine.compute" s_Machine_compute a_Machine_compute d_Machine_compute
  b_Machine_compute : Binds K d_Machine_compute ["self", "instruction"] []
  m_Machine_compute : Meth K c_Machine "compute" a_Machine_compute
  a_Machine_leave : Addr
  d_Machine_leave : FuncData
  F_Machine_leave : Fun K "leave" "Machine.leave" s_Machine_leave a_Machine_leave d_Machine_leave
  b_Machine_leave : Binds K d_Machine_leave ["self", "instruction"] []
  m_Machine_leave : Meth K c_Machine "leave" a_Machine_leave
  a_Machine_place_behind : Addr
  d_Machine_place_behind : FuncData
  F_Machine_place_behind : Fun K "place_behind" "Machine.place_behind" s_Machine_place_behind a_Machine_place_behind d_Machine_place_behind
  b_Machine_place_behind : Binds K d_Machine_place_behind ["self", "instruction"] []
  m_Machine_place_behind : Meth K c_Machine "place_behind" a_Machine_place_behind
  a_Machine_ended : Addr
  d_Machine_ended : FuncData
  F_Machine_ended : Fun K "ended" "Machine.ended" s_Machine_ended a_Machine_ended d_Machine_ended
  b_Machine_ended : Binds K d_Machine_ended ["self"] []
  m_Machine_ended : Meth K c_Machine "ended" a_Machine_ended
  a_Machine_place : Addr
  d_Machine_place : FuncData
  F_Machine_place : Fun K "place" "Machine.place" s_Machine_place a_Machine_place d_Machine_place
  b_Machine_place : Binds K d_Machine_place ["self"] []
  m_Machine_place : Meth K c_Machine "place" a_Machine_place
  a_Machine_cycles : Addr
  d_Machine_cycles : FuncData
  F_Machine_cycles : Fun K "cycles" "Machine.cycles" s_Machine_cycles a_Machine_cycles d_Machine_cycles
  b_Machine_cycles : Binds K d_Machine_cycles ["self"] []
  m_Machine_cycles : Meth K c_Machine "cycles" a_Machine_cycles
  a_Machine_carry : Addr
  d_Machine_carry : FuncData
  F_Machine_carry : Fun K "carry" "Machine.carry" s_Machine_carry a_Machine_carry d_Machine_carry
  b_Machine_carry : Binds K d_Machine_carry ["self"] []
  m_Machine_carry : Meth K c_Machine "carry" a_Machine_carry
  a_Machine_registers : Addr
  d_Machine_registers : FuncData
  F_Machine_registers : Fun K "registers" "Machine.registers" s_Machine_registers a_Machine_registers d_Machine_registers
  b_Machine_registers : Binds K d_Machine_registers ["self"] []
  m_Machine_registers : Meth K c_Machine "registers" a_Machine_registers
  a_Machine_memory : Addr
  d_Machine_memory : FuncData
  F_Machine_memory : Fun K "memory" "Machine.memory" s_Machine_memory a_Machine_memory d_Machine_memory
  b_Machine_memory : Binds K d_Machine_memory ["self"] []
  m_Machine_memory : Meth K c_Machine "memory" a_Machine_memory
  a_Machine_stack : Addr
  d_Machine_stack : FuncData
  F_Machine_stack : Fun K "stack" "Machine.stack" s_Machine_stack a_Machine_stack d_Machine_stack
  b_Machine_stack : Binds K d_Machine_stack ["self"] []
  m_Machine_stack : Meth K c_Machine "stack" a_Machine_stack
  a_Machine_shown : Addr
  d_Machine_shown : FuncData
  F_Machine_shown : Fun K "shown" "Machine.shown" s_Machine_shown a_Machine_shown d_Machine_shown
  b_Machine_shown : Binds K d_Machine_shown ["self"] []
  m_Machine_shown : Meth K c_Machine "shown" a_Machine_shown
  a_law_source : Addr
  d_law_source : FuncData
  F_law_source : Fun K "_law_source" "_law_source" s_law_source a_law_source d_law_source
  b_law_source : Binds K d_law_source ["script", "k"] []
  g_law_source : mg "_law_source" = some (.ref a_law_source)
  a_law_draw : Addr
  d_law_draw : FuncData
  F_law_draw : Fun K "_law_draw" "_law_draw" s_law_draw a_law_draw d_law_draw
  b_law_draw : Binds K d_law_draw ["source", "many"] []
  g_law_draw : mg "_law_draw" = some (.ref a_law_draw)
  a_law_same_words : Addr
  d_law_same_words : FuncData
  F_law_same_words : Fun K "_law_same_words" "_law_same_words" s_law_same_words a_law_same_words d_law_same_words
  b_law_same_words : Binds K d_law_same_words ["actual", "due"] []
  g_law_same_words : mg "_law_same_words" = some (.ref a_law_same_words)
  a_law_instruction : Addr
  d_law_instruction : FuncData
  F_law_instruction : Fun K "_law_instruction" "_law_instruction" s_law_instruction a_law_instruction d_law_instruction
  b_law_instruction : Binds K d_law_instruction ["source", "size", "deep"] []
  g_law_instruction : mg "_law_instruction" = some (.ref a_law_instruction)
  a_law_refusal : Addr
  d_law_refusal : FuncData
  F_law_refusal : Fun K "_law_refusal" "_law_refusal" s_law_refusal a_law_refusal d_law_refusal
  b_law_refusal : Binds K d_law_refusal ["machine", "turns"] []
  g_law_refusal : mg "_law_refusal" = some (.ref a_law_refusal)
  a_law_holds : Addr
  d_law_holds : FuncData
  F_law_holds : Fun K "_law_holds" "_law_holds" s_law_holds a_law_holds d_law_holds
  b_law_holds : Binds K d_law_holds ["machine", "place", "stack", "registers", "ended", "count"] []
  g_law_holds : mg "_law_holds" = some (.ref a_law_holds)
  a_law_goes : Addr
  d_law_goes : FuncData
  F_law_goes : Fun K "_law_goes" "_law_goes" s_law_goes a_law_goes d_law_goes
  b_law_goes : Binds K d_law_goes ["row", "place", "stack", "registers"] []
  g_law_goes : mg "_law_goes" = some (.ref a_law_goes)
  a_law_refused : Addr
  d_law_refused : FuncData
  F_law_refused : Fun K "_law_refused" "_law_refused" s_law_refused a_law_refused d_law_refused
  b_law_refused : Binds K d_law_refused ["machine", "reason"] []
  g_law_refused : mg "_law_refused" = some (.ref a_law_refused)
  a_law_one_holds : Addr
  d_law_one_holds : FuncData
  F_law_one_holds : Fun K "_law_one_holds" "_law_one_holds" s_law_one_holds a_law_one_holds d_law_one_holds
  b_law_one_holds : Binds K d_law_one_holds ["script", "at"] []
  g_law_one_holds : mg "_law_one_holds" = some (.ref a_law_one_holds)
  a_law : Addr
  d_law : FuncData
  F_law : Fun K "law" "law" s_law a_law d_law
  b_law : Binds K d_law ["script"] []
  g_law : mg "law" = some (.ref a_law)
  c_CYCLES : Addr
  g_CYCLES : mg "CYCLES" = some (.ref c_CYCLES)
  r_CYCLES : RelV (.ref c_CYCLES) (.ref c_CYCLES)
  es_CYCLES : Array DictEntry
  n_CYCLES : Nat
  D_CYCLES : KDict K w c_CYCLES es_CYCLES n_CYCLES
  t_LINES : Tok
  g_LINES : mg "LINES" = some (.int (8) t_LINES)
  r_LINES : RelV (.int (8)) (.int (8) t_LINES)
  t_BLOCK_SIZE : Tok
  g_BLOCK_SIZE : mg "BLOCK_SIZE" = some (.int (4) t_BLOCK_SIZE)
  r_BLOCK_SIZE : RelV (.int (4)) (.int (4) t_BLOCK_SIZE)
  t_HIT : Tok
  g_HIT : mg "HIT" = some (.int (1) t_HIT)
  r_HIT : RelV (.int (1)) (.int (1) t_HIT)
  t_MISS : Tok
  g_MISS : mg "MISS" = some (.int (6) t_MISS)
  r_MISS : RelV (.int (6)) (.int (6) t_MISS)
  t_COUNTERS : Tok
  g_COUNTERS : mg "COUNTERS" = some (.int (16) t_COUNTERS)
  r_COUNTERS : RelV (.int (16)) (.int (16) t_COUNTERS)
  t_STRONGEST : Tok
  g_STRONGEST : mg "STRONGEST" = some (.int (3) t_STRONGEST)
  r_STRONGEST : RelV (.int (3)) (.int (3) t_STRONGEST)
  t_GREATEST_WORD : Tok
  g_GREATEST_WORD : mg "GREATEST_WORD" = some (.int (65535) t_GREATEST_WORD)
  r_GREATEST_WORD : RelV (.int (65535)) (.int (65535) t_GREATEST_WORD)
  t_WORD : Tok
  g_WORD : mg "WORD" = some (.int (65536) t_WORD)
  r_WORD : RelV (.int (65536)) (.int (65536) t_WORD)
  c_SHIFTS : Addr
  g_SHIFTS : mg "SHIFTS" = some (.ref c_SHIFTS)
  r_SHIFTS : RelV (.ref c_SHIFTS) (.ref c_SHIFTS)
  t_REGISTERS : Tok
  g_REGISTERS : mg "REGISTERS" = some (.int (16) t_REGISTERS)
  r_REGISTERS : RelV (.int (16)) (.int (16) t_REGISTERS)
  t_DEEPEST_STACK : Tok
  g_DEEPEST_STACK : mg "DEEPEST_STACK" = some (.int (16) t_DEEPEST_STACK)
  r_DEEPEST_STACK : RelV (.int (16)) (.int (16) t_DEEPEST_STACK)
  t_NO_ADDRESS : Tok
  g_NO_ADDRESS : mg "NO_ADDRESS" = some (.int (-1) t_NO_ADDRESS)
  r_NO_ADDRESS : RelV (.int (-1)) (.int (-1) t_NO_ADDRESS)
  t_WRONG_GUESS : Tok
  g_WRONG_GUESS : mg "WRONG_GUESS" = some (.int (3) t_WRONG_GUESS)
  r_WRONG_GUESS : RelV (.int (3)) (.int (3) t_WRONG_GUESS)
  c_LEAVES : Addr
  g_LEAVES : mg "LEAVES" = some (.ref c_LEAVES)
  r_LEAVES : RelV (.ref c_LEAVES) (.ref c_LEAVES)
  z_ValueError : mg "ValueError" = none
  z_abs : mg "abs" = none
  z_all : mg "all" = none
  z_bool : mg "bool" = none
  z_int : mg "int" = none
  z_isinstance : mg "isinstance" = none
  z_len : mg "len" = none
  z_list : mg "list" = none
  z_max : mg "max" = none
  z_min : mg "min" = none
  z_range : mg "range" = none
  z_tuple : mg "tuple" = none
  kitcy : KDx.getB K c_CYCLES 1 KDx.cycles25 = true
  kitlv : KDx.tupB K c_LEAVES ["jump", "below", "call", "ret", "halt"] = true
  kit : isB K c_QuietError [E_BadInput.C, E_BadRun.C] = true
  z_super : mg "super" = none

open Lw GxR
/-! ### the promises -/
/-- the block that line holds behind the accesses -/
def held (as : List Int) (line : Int) : Int := as.foldl (fun h a => if a / 4 % 8 = line then a / 4 else h) (-1)
theorem held_app (as : List Int) (a line : Int) : held (as ++ [a]) line = if a / 4 % 8 = line then a / 4 else held as line := by
  unfold held
  rw [List.foldl_append]
  rfl
def blocks (as : List Int) : List Int := (List.range 8).map fun k : Nat => held as (k : Int)
def step1 (n : Int) (c : Int) (j : Int × Bool) : Int := if j.1 % 16 = n then (if j.2 = true then (if c + 1 < 3 then c + 1 else 3) else (if c - 1 < 0 then 0 else c - 1)) else c
def count (js : List (Int × Bool)) (n : Int) : Int := js.foldl (step1 n) 1
theorem count_app (js : List (Int × Bool)) (j : Int × Bool) (n : Int) : count (js ++ [j]) n = step1 n (count js n) j := by
  unfold count
  rw [List.foldl_append]
  rfl
def marks (js : List (Int × Bool)) : List Int := (List.range 16).map fun k : Nat => count js (k : Int)
theorem blocks_len (as : List Int) : (blocks as).length = 8 := by simp [blocks]
theorem marks_len (js : List (Int × Bool)) : (marks js).length = 16 := by simp [marks]
theorem blocks_at (as : List Int) {i : Int} (h0 : 0 ≤ i) (h1 : i < 8) : atI ((blocks as).map V.int) i = some (.int (held as i)) := by
  obtain ⟨j, rfl⟩ := Int.eq_ofNat_of_zero_le h0
  refine atI_nat ?_
  rw [List.getElem?_map]
  unfold blocks
  rw [List.getElem?_map, List.getElem?_range (by omega)]
  rfl
theorem marks_at (js : List (Int × Bool)) {i : Int} (h0 : 0 ≤ i) (h1 : i < 16) : atI ((marks js).map V.int) i = some (.int (count js i)) := by
  obtain ⟨j, rfl⟩ := Int.eq_ofNat_of_zero_le h0
  refine atI_nat ?_
  rw [List.getElem?_map]
  unfold marks
  rw [List.getElem?_map, List.getElem?_range (by omega)]
  rfl
theorem blocks_app (as : List Int) (a : Int) (h0 : 0 ≤ a / 4 % 8) (h1 : a / 4 % 8 < 8) : blocks (as ++ [a]) = (blocks as).set (a / 4 % 8).toNat (a / 4) := by
  apply List.ext_getElem?
  intro j
  by_cases hj : j < 8
  · have e1 : (blocks (as ++ [a]))[j]? = some (held (as ++ [a]) j) := by
      unfold blocks
      rw [List.getElem?_map, List.getElem?_range hj]
      rfl
    rw [e1, held_app]
    by_cases hl : (a / 4 % 8).toNat = j
    · rw [hl, List.getElem?_set_self (by rw [blocks_len]; exact hj), if_pos (by omega)]
    · rw [List.getElem?_set_ne hl, if_neg (by omega)]
      unfold blocks
      rw [List.getElem?_map, List.getElem?_range hj]
      rfl
  · rw [List.getElem?_eq_none (by rw [blocks_len]; omega), List.getElem?_eq_none (by rw [List.length_set, blocks_len]; omega)]
theorem marks_app (js : List (Int × Bool)) (p : Int) (b : Bool) (h0 : 0 ≤ p % 16) (h1 : p % 16 < 16) : marks (js ++ [(p, b)]) = (marks js).set (p % 16).toNat (if b = true then (if count js (p % 16) + 1 < 3 then count js (p % 16) + 1 else 3) else (if count js (p % 16) - 1 < 0 then 0 else count js (p % 16) - 1)) := by
  apply List.ext_getElem?
  intro j
  by_cases hj : j < 16
  · have e1 : (marks (js ++ [(p, b)]))[j]? = some (count (js ++ [(p, b)]) j) := by
      unfold marks
      rw [List.getElem?_map, List.getElem?_range hj]
      rfl
    rw [e1, count_app]
    unfold step1
    by_cases hl : (p % 16).toNat = j
    · have e2 : p % 16 = (j : Int) := by omega
      rw [hl, List.getElem?_set_self (by rw [marks_len]; exact hj), if_pos e2, e2]
    · rw [List.getElem?_set_ne hl, if_neg (by show ¬ (p % 16 = (j : Int)); omega)]
      unfold marks
      rw [List.getElem?_map, List.getElem?_range hj]
      rfl
  · rw [List.getElem?_eq_none (by rw [marks_len]; omega), List.getElem?_eq_none (by rw [List.length_set, marks_len]; omega)]
def spBase : Sp := fun vs H Q _ => ∃ (z : Str) (v : Int), vs = [.str z] ∧ (z, v) ∈ KDx.cycles25 ∧ Q (.int v) H
def spCInit (C : Addr) : Sp := fun vs H Q _ => ∃ (x dx : Addr), vs = [.ref x] ∧ H x = some (.ins C dx []) ∧ ∀ (b : Addr) (H' : Hp), H b = none → Keep H H' x → H' b = some (.lst ((blocks []).map V.int)) → H' x = some (.ins C dx [("blocks", .ref b)]) → Q .non H'
def spPInit (C : Addr) : Sp := fun vs H Q _ => ∃ (x dx : Addr), vs = [.ref x] ∧ H x = some (.ins C dx []) ∧ ∀ (b : Addr) (H' : Hp), H b = none → Keep H H' x → H' b = some (.lst ((marks []).map V.int)) → H' x = some (.ins C dx [("marks", .ref b)]) → Q .non H'
def spBranch (C : Addr) : Sp := fun vs H Q _ => ∃ (x dx b : Addr) (js : List (Int × Bool)) (p : Int) (j : Bool), vs = [.ref x, .int p, .bl j] ∧ H x = some (.ins C dx [("marks", .ref b)]) ∧ H b = some (.lst ((marks js).map V.int)) ∧ 0 ≤ p ∧
  ∀ H', Keep H H' b → H' b = some (.lst ((marks (js ++ [(p, j)])).map V.int)) → Q (.bl (decide (V.bl (decide (2 ≤ count js (p % 16))) = V.bl j))) H'
/-! ### the machine -/
structure MS where
  at_ : Int
  over : Bool
  ws : List Int
  wt : List Int
  js : List (Int × Bool)
  tn : Nat
abbrev mf (cd mo ce w wt t ca p : Addr) (flag at_ clock : Int) (over : Bool) : List (Str × V) := [("code", .ref cd), ("mosts", .ref mo), ("cells", .ref ce), ("words", .ref w), ("flag", .int flag), ("waiting", .ref wt), ("at", .int at_), ("clock", .int clock), ("over", .bl over), ("trace", .ref t), ("cache", .ref ca), ("predictor", .ref p)]
/-- a machine at m in the state S; L: what else is known; its code stands at cd -/
def MAt (C CP : Addr) (H0 H : Hp) (m cd : Addr) (S : MS) (L : List (Addr × HO)) : Prop := ∃ (dx mo ce w wt t ca p dp pm : Addr) (flag clock : Int) (trs : List V), trs.length = S.tn ∧ S.ws.length = 16 ∧ S.wt.length ≤ 16 ∧ 0 ≤ S.at_ ∧
  Objs H0 H ((m, .ins C dx (mf cd mo ce w wt t ca p flag S.at_ clock S.over)) :: (w, .lst (S.ws.map V.int)) :: (wt, .lst (S.wt.map V.int)) :: (t, .lst trs) :: (p, .ins CP dp [("marks", .ref pm)]) :: (pm, .lst ((marks S.js).map V.int)) :: L)
def spShow (C CP : Addr) : Sp := fun vs H Q _ => ∃ H0 m cd S L ad cy fo, vs = [.ref m, .int ad, .int cy, .int fo] ∧ MAt C CP H0 H m cd S L ∧ S.tn ≤ 100000 ∧ 0 ≤ fo ∧ ∀ H', MAt C CP H0 H' m cd { S with at_ := fo, tn := S.tn + 1 } L → Q .non H'
inductive Ins where
  | set (a : Nat) (w : Int)
  | halt
  | jump (p : Int)
  | below (a : Nat) (w p : Int)
  | call (p : Int)
  | ret
def Ins.row : Ins → List V
  | .set a w => [.str "set", .int a, .int w]
  | .halt => [.str "halt"]
  | .jump p => [.str "jump", .int p]
  | .below a w p => [.str "below", .int a, .int w, .int p]
  | .call p => [.str "call", .int p]
  | .ret => [.str "ret"]
def Ins.ok : Ins → Prop
  | .set a _ => a < 16
  | .below a _ p => a < 16 ∧ 0 ≤ p
  | .jump p => 0 ≤ p
  | .call p => 0 ≤ p
  | _ => True
/-- what below goes on to -/
def behind (S : MS) (a : Nat) (w p : Int) : Int := if S.ws.getD a 0 < w then p else S.at_ + 1
def goesM (S : MS) : Ins → Except Str MS
  | .set a w => .ok { S with ws := S.ws.set a w, at_ := S.at_ + 1, tn := S.tn + 1 }
  | .halt => .ok { S with over := true, tn := S.tn + 1 }
  | .jump p => .ok { S with at_ := p, tn := S.tn + 1 }
  | .below a w p => .ok { S with at_ := behind S a w p, js := S.js ++ [(S.at_, decide (behind S a w p ≠ S.at_ + 1))], tn := S.tn + 1 }
  | .call p => if S.wt.length ≥ 16 then .error "depth" else .ok { S with wt := S.wt ++ [S.at_ + 1], at_ := p, tn := S.tn + 1 }
  | .ret => if 0 < S.wt.length then .ok { S with wt := S.wt.dropLast, at_ := S.wt.getD (S.wt.length - 1) 0, tn := S.tn + 1 } else .ok { S with over := true, tn := S.tn + 1 }
def Rz (C : Addr) (r : Str) (H : Hp) (E : XK) : Prop := ∀ d G, H d = none → (∀ b o, H b = some o → G b = some o) → G d = some (.xd [("reason", .str r)]) → E (.ref C) (some d) G
def Out {α : Type} (C : Addr) (H : Hp) (E : XK) (q : α → Prop) : Except Str α → Prop
  | .ok x => q x
  | .error r => Rz C r H E
def spBehind (C CP : Addr) : Sp := fun vs H Q _ => ∃ H0 m cd S L r a w p, vs = [.ref m, .ref r] ∧ MAt C CP H0 H m cd S L ∧ (r, HO.tup (Ins.below a w p).row) ∈ L ∧ a < 16 ∧ Q (.int (behind S a w p)) H
/-- the waiting places are places -/
def Wts (S : MS) : Prop := ∀ x ∈ S.wt, 0 ≤ x
def spLeave (C CP B : Addr) : Sp := fun vs H Q E => ∃ H0 m cd S L r i, vs = [.ref m, .ref r] ∧ MAt C CP H0 H m cd S L ∧ (r, HO.tup (Ins.row i)) ∈ L ∧ i.ok ∧ (∀ a w, i ≠ .set a w) ∧ S.tn ≤ 100000 ∧ Wts S ∧ Out B H E (fun S' => ∀ H', MAt C CP H0 H' m cd S' L → Q .non H') (goesM S i)
def spCompute (C CP : Addr) : Sp := fun vs H Q _ => ∃ H0 m cd S L r a w, vs = [.ref m, .ref r] ∧ MAt C CP H0 H m cd S L ∧ (r, HO.tup (Ins.set a w).row) ∈ L ∧ a < 16 ∧ S.tn ≤ 100000 ∧ ∀ H', MAt C CP H0 H' m cd { S with ws := S.ws.set a w, at_ := S.at_ + 1, tn := S.tn + 1 } L → Q .non H'
def spOutcome : Sp := fun vs H Q _ => ∃ r a w wl c, vs = [.ref r, wl, .int c] ∧ H r = some (.tup (Ins.set a w).row) ∧ ∀ p, H p = none → Q (.ref p) (upd H p (.tup [.int w, .int c]))
section
variable {P : Program} {w : World} {K : PySem.W.Frag} {mg : Str → Option Value} {base : Heap}
theorem ok_base (T : Tx P w K mg) : FnOk P w K mg base CX0 1 T.a_base_cycles T.d_base_cycles ["name"] spBase := by
  refine T.F_base_cycles.ok sc_base_cycles (fun vs H Q E h => ?_) (fun cdv A outer s H vs Q E hr h => ?_)
  · obtain ⟨z, v, rfl, _⟩ := h
    rfl
  · obtain ⟨z, v, rfl, hz, q⟩ := h
    refine ⟨_, (pss_one (ps_ret (KDx.pe_kget2 (pe_glob rfl T.g_CYCLES T.r_CYCLES) (pv 0) pe_int))), ?_⟩
    obtain ⟨r, e, h1, h2⟩ := KDx.getB_ok T.kitcy hz
    refine ⟨T.c_CYCLES, _, _, rfl, T.D_CYCLES, _, rfl, z, r, rfl, e, fun er => ?_, fun u er => ⟨_, h2 u er, q⟩⟩
    rw [← h1 er]
    exact q
theorem ok_cinit (T : Tx P w K mg) : FnOk P w K mg base CX0 1 T.a_Cache_init T.d_Cache_init ["self"] (spCInit T.c_Cache) := by
  refine T.F_Cache_init.ok sc_Cache_init (fun vs H Q E h => ?_) (fun cdv A outer s H vs Q E hr h => ?_)
  · obtain ⟨x, dx, rfl, _⟩ := h
    rfl
  · obtain ⟨x, dx, rfl, hx, q⟩ := h
    refine ⟨_, (pss_one (ps_fld (pv 0) (pe_op op_rep (pe_lst (pa_cons (pe_un un_neg pe_int) pa_nil)) (pe_glob rfl T.g_LINES T.r_LINES)) rfl)), ?_⟩
    refine ⟨_, rfl, Nat.le_of_ble_eq_true rfl, fun l hl => ⟨l, 8, [.int (-1)], rfl, rfl, upd_same, by decide, by decide, by decide, fun b hb => ?_⟩⟩
    have nl : x ≠ l := ne_of_none hx hl
    have nb : x ≠ b := ne_of_none (same_upd hl _ _ hx) hb
    have nlb : l ≠ b := ne_of_none upd_same hb
    refine ⟨_, rfl, x, _, dx, _, rfl, (by rw [upd_ne nb, upd_ne nl]; exact hx), T.cl_Cache, T.no_Cache_blocks, (by decide), ?_⟩
    refine q b _ ((same_upd hl).free hb) (fun c o n e => ?_) (by rw [upd_ne nb.symm, upd_same]; rfl) upd_same
    rw [upd_ne n, upd_ne (ne_of_none (same_upd hl _ _ e) hb), upd_ne (ne_of_none e hl)]
    exact e
theorem ok_pinit (T : Tx P w K mg) : FnOk P w K mg base CX0 1 T.a_Predictor_init T.d_Predictor_init ["self"] (spPInit T.c_Predictor) := by
  refine T.F_Predictor_init.ok sc_Predictor_init (fun vs H Q E h => ?_) (fun cdv A outer s H vs Q E hr h => ?_)
  · obtain ⟨x, dx, rfl, _⟩ := h
    rfl
  · obtain ⟨x, dx, rfl, hx, q⟩ := h
    refine ⟨_, (pss_one (ps_fld (pv 0) (pe_op op_rep (pe_lst (pa_cons pe_int pa_nil)) (pe_glob rfl T.g_COUNTERS T.r_COUNTERS)) rfl)), ?_⟩
    refine ⟨Nat.le_of_ble_eq_true rfl, fun l hl => ⟨l, 16, [.int 1], rfl, rfl, upd_same, by decide, by decide, by decide, fun b hb => ?_⟩⟩
    have nl : x ≠ l := ne_of_none hx hl
    have nb : x ≠ b := ne_of_none (same_upd hl _ _ hx) hb
    have nlb : l ≠ b := ne_of_none upd_same hb
    refine ⟨_, rfl, x, _, dx, _, rfl, (by rw [upd_ne nb, upd_ne nl]; exact hx), T.cl_Predictor, T.no_Predictor_marks, (by decide), ?_⟩
    refine q b _ ((same_upd hl).free hb) (fun c o n e => ?_) (by rw [upd_ne nb.symm, upd_same]; rfl) upd_same
    rw [upd_ne n, upd_ne (ne_of_none (same_upd hl _ _ e) hb), upd_ne (ne_of_none e hl)]
    exact e
theorem ok_branch (T : Tx P w K mg) : FnOk P w K mg base CX0 1 T.a_Predictor_branch T.d_Predictor_branch ["self", "place", "jumps"] (spBranch T.c_Predictor) := by
  refine T.F_Predictor_branch.ok sc_Predictor_branch (fun vs H Q E h => ?_) (fun cdv A outer s H vs Q E hr h => ?_)
  · obtain ⟨x, dx, b, js, p, j, rfl, _⟩ := h
    rfl
  · obtain ⟨x, dx, b, js, p, j, rfl, hx, hb, hp, q⟩ := h
    refine ⟨_, (pss_cons (ps_set (i := 3) sc_Predictor_branch.nd rfl (.inl rfl) (pe_op op_mod (pv 1) (pe_glob rfl T.g_COUNTERS T.r_COUNTERS)))
        (pss_cons (ps_set (i := 4) sc_Predictor_branch.nd rfl (.inl rfl) (pe_ix ix_list (pe_fld (pv 0) rfl) (pv 3) (fun _ _ => rfl)))
        (pss_cons (ps_asg (pe_ifExp (pt_val (pv 2)) (pe_callB (call_min2 rfl) (by rfl) T.z_min (by decide +kernel) (pa_cons (pe_op op_add (pv 4) pe_int) (pa_cons (pe_glob rfl T.g_STRONGEST T.r_STRONGEST) pa_nil))) (pe_callB (call_max2 rfl) (by rfl) T.z_max (by decide +kernel) (pa_cons (pe_op op_sub (pv 4) pe_int) (pa_cons pe_int pa_nil)))) (pg_sub (pe_fld (pv 0) rfl) (pv 3) set_list))
        (pss_one (ps_ret (pe_cmpR op_eq (pe_cmpR op_ge (pv 4) pe_int (nomark _)) (pv 2) (nomark _))))))), ?_⟩
    have m0 : 0 ≤ p % 16 := Int.emod_nonneg _ (by decide)
    have m1 : p % 16 < 16 := Int.emod_lt_of_pos _ (by decide)
    (repeat (first | refine ⟨_, rfl, ?_⟩ | refine ⟨_, _, rfl, rfl, ?_⟩ | refine ⟨rfl, ?_⟩ | refine .inl ⟨_, rfl, ?_⟩ | refine .inr ⟨_, rfl, ?_⟩ | refine ⟨.inr ⟨by decide, by decide⟩, ?_⟩ | refine ⟨⟨by decide, by decide⟩, ?_⟩ | refine ⟨⟨by decide, by decide, by decide⟩, ?_⟩ | refine ⟨.inr ⟨by omega, by omega⟩, ?_⟩ | refine ⟨(by show (0 : Int) < _; first | decide | omega), ?_⟩ | refine ⟨Nat.le_trans (Nat.le_of_ble_eq_true rfl : _ ≤ 50) (by decide), ?_⟩ | refine ⟨_, _, _, _, rfl, rfl, upd_same, rfl, ?_⟩ | refine ⟨_, _, _, _, rfl, rfl, SqL.of upd_same, rfl, ?_⟩ | refine ⟨_, _, _, _, rfl, rfl, SqT.of upd_same, rfl, ?_⟩ | refine ⟨_, _, rfl, .inl (SqL.of upd_same), ?_⟩ | refine ⟨_, _, rfl, .inr (SqT.of upd_same), ?_⟩ | (refine' ⟨_, _, _, _, rfl, rfl, _, _, _⟩; rotate_left 2; (focus (first | assumption | exact SqL.of (by assumption) | exact SqT.of (by assumption) | exact Same.seq (by assumption) (by assumption))); (focus (exact rfl))) | (refine' ⟨_, _, rfl, _, _⟩; rotate_left 1; (focus (first | exact .inl (by assumption) | exact .inl (SqL.of (by assumption)) | exact .inr (by assumption) | exact .inr (SqT.of (by assumption)))))))
    refine ⟨x, _, dx, _, _, rfl, hx, T.cl_Predictor, T.no_Predictor_marks, rfl, ?_⟩
    refine ⟨_, rfl, b, _, _, _, rfl, rfl, SqL.of hb, marks_at js m0 m1, ?_⟩
    (repeat (first | refine ⟨_, rfl, ?_⟩ | refine ⟨_, _, rfl, rfl, ?_⟩ | refine ⟨rfl, ?_⟩ | refine .inl ⟨_, rfl, ?_⟩ | refine .inr ⟨_, rfl, ?_⟩ | refine ⟨.inr ⟨by decide, by decide⟩, ?_⟩ | refine ⟨⟨by decide, by decide⟩, ?_⟩ | refine ⟨⟨by decide, by decide, by decide⟩, ?_⟩ | refine ⟨.inr ⟨by omega, by omega⟩, ?_⟩ | refine ⟨(by show (0 : Int) < _; first | decide | omega), ?_⟩ | refine ⟨Nat.le_trans (Nat.le_of_ble_eq_true rfl : _ ≤ 50) (by decide), ?_⟩ | refine ⟨_, _, _, _, rfl, rfl, upd_same, rfl, ?_⟩ | refine ⟨_, _, _, _, rfl, rfl, SqL.of upd_same, rfl, ?_⟩ | refine ⟨_, _, _, _, rfl, rfl, SqT.of upd_same, rfl, ?_⟩ | refine ⟨_, _, rfl, .inl (SqL.of upd_same), ?_⟩ | refine ⟨_, _, rfl, .inr (SqT.of upd_same), ?_⟩ | (refine' ⟨_, _, _, _, rfl, rfl, _, _, _⟩; rotate_left 2; (focus (first | assumption | exact SqL.of (by assumption) | exact SqT.of (by assumption) | exact Same.seq (by assumption) (by assumption))); (focus (exact rfl))) | (refine' ⟨_, _, rfl, _, _⟩; rotate_left 1; (focus (first | exact .inl (by assumption) | exact .inl (SqL.of (by assumption)) | exact .inr (by assumption) | exact .inr (SqT.of (by assumption)))))))
    have fin : ∀ (H' : Hp) (v : Int), H' = upd H b (.lst (((marks js).map V.int).set (p % 16).toNat (.int v))) → v = (if j = true then (if count js (p % 16) + 1 < 3 then count js (p % 16) + 1 else 3) else (if count js (p % 16) - 1 < 0 then 0 else count js (p % 16) - 1)) →
        Q (.bl (decide (V.bl (decide (2 ≤ count js (p % 16))) = V.bl j))) H' := fun H' v eH ev => by
      refine q H' (by rw [eH]; exact keep_upd _ _ _) ?_
      rw [eH, upd_same, marks_app js p j m0 m1, List.map_set, ev]
    cases j with
    | true =>
      refine iteT ?_
      (repeat (first | refine ⟨_, rfl, ?_⟩ | refine ⟨_, _, rfl, rfl, ?_⟩ | refine ⟨rfl, ?_⟩ | refine .inl ⟨_, rfl, ?_⟩ | refine .inr ⟨_, rfl, ?_⟩ | refine ⟨.inr ⟨by decide, by decide⟩, ?_⟩ | refine ⟨⟨by decide, by decide⟩, ?_⟩ | refine ⟨⟨by decide, by decide, by decide⟩, ?_⟩ | refine ⟨.inr ⟨by omega, by omega⟩, ?_⟩ | refine ⟨(by show (0 : Int) < _; first | decide | omega), ?_⟩ | refine ⟨Nat.le_trans (Nat.le_of_ble_eq_true rfl : _ ≤ 50) (by decide), ?_⟩ | refine ⟨_, _, _, _, rfl, rfl, upd_same, rfl, ?_⟩ | refine ⟨_, _, _, _, rfl, rfl, SqL.of upd_same, rfl, ?_⟩ | refine ⟨_, _, _, _, rfl, rfl, SqT.of upd_same, rfl, ?_⟩ | refine ⟨_, _, rfl, .inl (SqL.of upd_same), ?_⟩ | refine ⟨_, _, rfl, .inr (SqT.of upd_same), ?_⟩ | (refine' ⟨_, _, _, _, rfl, rfl, _, _, _⟩; rotate_left 2; (focus (first | assumption | exact SqL.of (by assumption) | exact SqT.of (by assumption) | exact Same.seq (by assumption) (by assumption))); (focus (exact rfl))) | (refine' ⟨_, _, rfl, _, _⟩; rotate_left 1; (focus (first | exact .inl (by assumption) | exact .inl (SqL.of (by assumption)) | exact .inr (by assumption) | exact .inr (SqT.of (by assumption)))))))
      refine ⟨_, _, rfl, ?_⟩
      (repeat (first | refine ⟨_, rfl, ?_⟩ | refine ⟨_, _, rfl, rfl, ?_⟩ | refine ⟨rfl, ?_⟩ | refine .inl ⟨_, rfl, ?_⟩ | refine .inr ⟨_, rfl, ?_⟩ | refine ⟨.inr ⟨by decide, by decide⟩, ?_⟩ | refine ⟨⟨by decide, by decide⟩, ?_⟩ | refine ⟨⟨by decide, by decide, by decide⟩, ?_⟩ | refine ⟨.inr ⟨by omega, by omega⟩, ?_⟩ | refine ⟨(by show (0 : Int) < _; first | decide | omega), ?_⟩ | refine ⟨Nat.le_trans (Nat.le_of_ble_eq_true rfl : _ ≤ 50) (by decide), ?_⟩ | refine ⟨_, _, _, _, rfl, rfl, upd_same, rfl, ?_⟩ | refine ⟨_, _, _, _, rfl, rfl, SqL.of upd_same, rfl, ?_⟩ | refine ⟨_, _, _, _, rfl, rfl, SqT.of upd_same, rfl, ?_⟩ | refine ⟨_, _, rfl, .inl (SqL.of upd_same), ?_⟩ | refine ⟨_, _, rfl, .inr (SqT.of upd_same), ?_⟩ | (refine' ⟨_, _, _, _, rfl, rfl, _, _, _⟩; rotate_left 2; (focus (first | assumption | exact SqL.of (by assumption) | exact SqT.of (by assumption) | exact Same.seq (by assumption) (by assumption))); (focus (exact rfl))) | (refine' ⟨_, _, rfl, _, _⟩; rotate_left 1; (focus (first | exact .inl (by assumption) | exact .inl (SqL.of (by assumption)) | exact .inr (by assumption) | exact .inr (SqT.of (by assumption)))))))
      refine ⟨x, _, dx, _, _, rfl, hx, T.cl_Predictor, T.no_Predictor_marks, rfl, ?_⟩
      refine ⟨_, rfl, b, _, _, (p % 16).toNat, rfl, rfl, hb, ixN_of m0 (by rw [List.length_map, marks_len]; exact m1), ?_⟩
      (repeat (first | refine ⟨_, rfl, ?_⟩ | refine ⟨_, _, rfl, rfl, ?_⟩ | refine ⟨rfl, ?_⟩ | refine .inl ⟨_, rfl, ?_⟩ | refine .inr ⟨_, rfl, ?_⟩ | refine ⟨.inr ⟨by decide, by decide⟩, ?_⟩ | refine ⟨⟨by decide, by decide⟩, ?_⟩ | refine ⟨⟨by decide, by decide, by decide⟩, ?_⟩ | refine ⟨.inr ⟨by omega, by omega⟩, ?_⟩ | refine ⟨(by show (0 : Int) < _; first | decide | omega), ?_⟩ | refine ⟨Nat.le_trans (Nat.le_of_ble_eq_true rfl : _ ≤ 50) (by decide), ?_⟩ | refine ⟨_, _, _, _, rfl, rfl, upd_same, rfl, ?_⟩ | refine ⟨_, _, _, _, rfl, rfl, SqL.of upd_same, rfl, ?_⟩ | refine ⟨_, _, _, _, rfl, rfl, SqT.of upd_same, rfl, ?_⟩ | refine ⟨_, _, rfl, .inl (SqL.of upd_same), ?_⟩ | refine ⟨_, _, rfl, .inr (SqT.of upd_same), ?_⟩ | (refine' ⟨_, _, _, _, rfl, rfl, _, _, _⟩; rotate_left 2; (focus (first | assumption | exact SqL.of (by assumption) | exact SqT.of (by assumption) | exact Same.seq (by assumption) (by assumption))); (focus (exact rfl))) | (refine' ⟨_, _, rfl, _, _⟩; rotate_left 1; (focus (first | exact .inl (by assumption) | exact .inl (SqL.of (by assumption)) | exact .inr (by assumption) | exact .inr (SqT.of (by assumption)))))))
      exact fin _ _ rfl (by rw [if_pos rfl]; split <;> split <;> omega)
    | false =>
      refine iteF ?_
      (repeat (first | refine ⟨_, rfl, ?_⟩ | refine ⟨_, _, rfl, rfl, ?_⟩ | refine ⟨rfl, ?_⟩ | refine .inl ⟨_, rfl, ?_⟩ | refine .inr ⟨_, rfl, ?_⟩ | refine ⟨.inr ⟨by decide, by decide⟩, ?_⟩ | refine ⟨⟨by decide, by decide⟩, ?_⟩ | refine ⟨⟨by decide, by decide, by decide⟩, ?_⟩ | refine ⟨.inr ⟨by omega, by omega⟩, ?_⟩ | refine ⟨(by show (0 : Int) < _; first | decide | omega), ?_⟩ | refine ⟨Nat.le_trans (Nat.le_of_ble_eq_true rfl : _ ≤ 50) (by decide), ?_⟩ | refine ⟨_, _, _, _, rfl, rfl, upd_same, rfl, ?_⟩ | refine ⟨_, _, _, _, rfl, rfl, SqL.of upd_same, rfl, ?_⟩ | refine ⟨_, _, _, _, rfl, rfl, SqT.of upd_same, rfl, ?_⟩ | refine ⟨_, _, rfl, .inl (SqL.of upd_same), ?_⟩ | refine ⟨_, _, rfl, .inr (SqT.of upd_same), ?_⟩ | (refine' ⟨_, _, _, _, rfl, rfl, _, _, _⟩; rotate_left 2; (focus (first | assumption | exact SqL.of (by assumption) | exact SqT.of (by assumption) | exact Same.seq (by assumption) (by assumption))); (focus (exact rfl))) | (refine' ⟨_, _, rfl, _, _⟩; rotate_left 1; (focus (first | exact .inl (by assumption) | exact .inl (SqL.of (by assumption)) | exact .inr (by assumption) | exact .inr (SqT.of (by assumption)))))))
      refine ⟨_, _, rfl, ?_⟩
      (repeat (first | refine ⟨_, rfl, ?_⟩ | refine ⟨_, _, rfl, rfl, ?_⟩ | refine ⟨rfl, ?_⟩ | refine .inl ⟨_, rfl, ?_⟩ | refine .inr ⟨_, rfl, ?_⟩ | refine ⟨.inr ⟨by decide, by decide⟩, ?_⟩ | refine ⟨⟨by decide, by decide⟩, ?_⟩ | refine ⟨⟨by decide, by decide, by decide⟩, ?_⟩ | refine ⟨.inr ⟨by omega, by omega⟩, ?_⟩ | refine ⟨(by show (0 : Int) < _; first | decide | omega), ?_⟩ | refine ⟨Nat.le_trans (Nat.le_of_ble_eq_true rfl : _ ≤ 50) (by decide), ?_⟩ | refine ⟨_, _, _, _, rfl, rfl, upd_same, rfl, ?_⟩ | refine ⟨_, _, _, _, rfl, rfl, SqL.of upd_same, rfl, ?_⟩ | refine ⟨_, _, _, _, rfl, rfl, SqT.of upd_same, rfl, ?_⟩ | refine ⟨_, _, rfl, .inl (SqL.of upd_same), ?_⟩ | refine ⟨_, _, rfl, .inr (SqT.of upd_same), ?_⟩ | (refine' ⟨_, _, _, _, rfl, rfl, _, _, _⟩; rotate_left 2; (focus (first | assumption | exact SqL.of (by assumption) | exact SqT.of (by assumption) | exact Same.seq (by assumption) (by assumption))); (focus (exact rfl))) | (refine' ⟨_, _, rfl, _, _⟩; rotate_left 1; (focus (first | exact .inl (by assumption) | exact .inl (SqL.of (by assumption)) | exact .inr (by assumption) | exact .inr (SqT.of (by assumption)))))))
      refine ⟨x, _, dx, _, _, rfl, hx, T.cl_Predictor, T.no_Predictor_marks, rfl, ?_⟩
      refine ⟨_, rfl, b, _, _, (p % 16).toNat, rfl, rfl, hb, ixN_of m0 (by rw [List.length_map, marks_len]; exact m1), ?_⟩
      (repeat (first | refine ⟨_, rfl, ?_⟩ | refine ⟨_, _, rfl, rfl, ?_⟩ | refine ⟨rfl, ?_⟩ | refine .inl ⟨_, rfl, ?_⟩ | refine .inr ⟨_, rfl, ?_⟩ | refine ⟨.inr ⟨by decide, by decide⟩, ?_⟩ | refine ⟨⟨by decide, by decide⟩, ?_⟩ | refine ⟨⟨by decide, by decide, by decide⟩, ?_⟩ | refine ⟨.inr ⟨by omega, by omega⟩, ?_⟩ | refine ⟨(by show (0 : Int) < _; first | decide | omega), ?_⟩ | refine ⟨Nat.le_trans (Nat.le_of_ble_eq_true rfl : _ ≤ 50) (by decide), ?_⟩ | refine ⟨_, _, _, _, rfl, rfl, upd_same, rfl, ?_⟩ | refine ⟨_, _, _, _, rfl, rfl, SqL.of upd_same, rfl, ?_⟩ | refine ⟨_, _, _, _, rfl, rfl, SqT.of upd_same, rfl, ?_⟩ | refine ⟨_, _, rfl, .inl (SqL.of upd_same), ?_⟩ | refine ⟨_, _, rfl, .inr (SqT.of upd_same), ?_⟩ | (refine' ⟨_, _, _, _, rfl, rfl, _, _, _⟩; rotate_left 2; (focus (first | assumption | exact SqL.of (by assumption) | exact SqT.of (by assumption) | exact Same.seq (by assumption) (by assumption))); (focus (exact rfl))) | (refine' ⟨_, _, rfl, _, _⟩; rotate_left 1; (focus (first | exact .inl (by assumption) | exact .inl (SqL.of (by assumption)) | exact .inr (by assumption) | exact .inr (SqT.of (by assumption)))))))
      exact fin _ _ rfl (by rw [if_neg Bool.false_ne_true])
end
end K32

set_option Elab.async false
set_option linter.all false
set_option maxRecDepth 100000
set_option maxHeartbeats 4000000
namespace K32
open PySem PySem.Spec PyProof.Rows L2 QX Lw GxR
theorem line5' {n : Nat} (h : n ≤ 1000000) : n < sizeLine := Nat.lt_of_le_of_lt h (by rw [sizeLine_eq]; decide)
theorem ws_at {ns : List Int} {a : Nat} (h : ns.length = 16) (ha : a < 16) : atI (ns.map V.int) (a : Int) = some (.int (ns.getD a 0)) := by
  refine atI_nat ?_
  have h2 : a < ns.length := by omega
  rw [List.getElem?_map, List.getElem?_eq_getElem h2]
  show some (V.int ns[a]) = _
  rw [List.getD_eq_getElem?_getD, List.getElem?_eq_getElem h2]
  rfl
section
variable {P : Program} {w : World} {K : PySem.W.Frag} {mg : Str → Option Value} {base : Heap}
theorem ok_show (T : Tx P w K mg) : FnOk P w K mg base CX0 1 T.a_Machine_show T.d_Machine_show ["self", "address", "cycles", "following"] (spShow T.c_Machine T.c_Predictor) := by
  refine T.F_Machine_show.ok sc_Machine_show (fun vs H Q E h => ?_) (fun cdv A outer s H vs Q E hr h => ?_)
  · obtain ⟨H0, m, cd, S, L, ad, cy, fo, rfl, _⟩ := h
    rfl
  · obtain ⟨H0, m, cd, S, L, ad, cy, fo, rfl, hm, htn, hfo, q⟩ := h
    obtain ⟨dx, mo, ce, wa, wt, t, ca, p, dp, pm, flag, clock, trs, e1, e2, e3, e4, o⟩ := hm
    refine ⟨_, (pss_cons (ps_fldaug (pv 0) (pv 2) in_add)
        (pss_cons (ps_expr (pe_bm PySem.F.plainAttrs_list PySem.F.slot_list_append PySem.F.type_list_append mt_append (pe_fld (pv 0) rfl) (pa_cons (pe_tup (pa_cons (pe_fld (pv 0) rfl) (pa_cons (pv 1) (pa_cons (pe_fld (pv 0) rfl) pa_nil)))) pa_nil)))
        (pss_one (ps_fld (pv 0) (pv 3) rfl)))), ?_⟩
    refine ⟨_, rfl, m, _, dx, _, _, rfl, o.get 0 rfl, T.cl_Machine, T.no_Machine_clock, rfl, ?_⟩
    refine ⟨_, rfl, _, _, rfl, rfl, dx, _, o.get 0 rfl, Nat.le_of_ble_eq_true rfl, ?_⟩
    have o1 : Objs H0 (upd H m (.ins T.c_Machine dx (putF "clock" (.int (clock + cy)) (mf cd mo ce wa wt t ca p flag S.at_ clock S.over)))) ((m, .ins T.c_Machine dx (mf cd mo ce wa wt t ca p flag S.at_ (clock + cy) S.over)) :: _) := o.put 0 rfl
    generalize (upd H m (.ins T.c_Machine dx (putF "clock" (.int (clock + cy)) (mf cd mo ce wa wt t ca p flag S.at_ clock S.over)))) = H1 at o1 ⊢
    refine ⟨_, rfl, m, _, dx, _, _, rfl, o1.get 0 rfl, T.cl_Machine, T.no_Machine_trace, rfl, ?_⟩
    refine ⟨.inl ⟨rfl, _, SqL.of (o1.get 3 rfl)⟩, ?_⟩
    refine ⟨_, rfl, m, _, dx, _, _, rfl, o1.get 0 rfl, T.cl_Machine, T.no_Machine_at, rfl, ?_⟩
    refine ⟨_, rfl, _, rfl, m, _, dx, _, _, rfl, o1.get 0 rfl, T.cl_Machine, T.no_Machine_clock, rfl, ?_⟩
    refine ⟨Nat.le_of_ble_eq_true rfl, fun tp htp => ?_⟩
    have o2 := o1.skip (o := .tup [.int S.at_, .int ad, .int (clock + cy)]) htp
    refine ⟨t, _, _, rfl, rfl, o2.get 3 rfl, line5' (by omega), ?_⟩
    have o3 := o2.put (o' := .lst (trs ++ [.ref tp])) 3 rfl
    refine ⟨_, rfl, _, rfl, m, _, dx, _, rfl, o3.get 0 rfl, T.cl_Machine, T.no_Machine_at, Nat.le_of_ble_eq_true rfl, ?_⟩
    refine q _ ⟨dx, mo, ce, wa, wt, t, ca, p, dp, pm, flag, clock + cy, trs ++ [.ref tp], by rw [List.length_append, e1]; rfl, e2, e3, hfo, ?_⟩
    exact o3.put 0 rfl
theorem ok_behind (T : Tx P w K mg) : FnOk P w K mg base CX0 1 T.a_Machine_place_behind T.d_Machine_place_behind ["self", "instruction"] (spBehind T.c_Machine T.c_Predictor) := by
  refine T.F_Machine_place_behind.ok sc_Machine_place_behind (fun vs H Q E h => ?_) (fun cdv A outer s H vs Q E hr h => ?_)
  · obtain ⟨H0, m, cd, S, L, r, a, w, p, rfl, _⟩ := h
    rfl
  · obtain ⟨H0, m, cd, S, L, r, a, w, pl, rfl, hm, hr2, ha, q⟩ := h
    obtain ⟨dx, mo, ce, wa, wt, t, ca, p, dp, pm, flag, clock, trs, e1, e2, e3, e4, o⟩ := hm
    refine ⟨_, (pss_cons (ps_asg (pv 1) (pg_tup rfl (pgs_cons (pg_name (i := 2) sc_Machine_place_behind.nd rfl (.inl rfl)) (pgs_cons (pg_name (i := 3) sc_Machine_place_behind.nd rfl (.inl rfl)) (pgs_cons (pg_name (i := 4) sc_Machine_place_behind.nd rfl (.inl rfl)) (pgs_cons (pg_name (i := 5) sc_Machine_place_behind.nd rfl (.inl rfl)) pgs_nil))))))
        (pss_one (ps_ret (pe_ifExp (pt_cmpR op_lt (pe_ix ix_list (pe_fld (pv 0) rfl) (pv 3) (fun _ _ => rfl)) (pv 4) (nomark _)) (pv 5) (pe_op op_add (pe_fld (pv 0) rfl) pe_int))))), ?_⟩
    have hr3 : H r = some (.tup (Ins.below a w pl).row) := o.at_ (r, _) (by simp [hr2])
    refine ⟨_, rfl, r, _, rfl, SqT.of hr3, rfl, ?_⟩
    refine ⟨_, _, rfl, _, _, rfl, _, _, rfl, _, _, rfl, rfl, ?_⟩
    refine ⟨_, rfl, m, _, dx, _, _, rfl, o.get 0 rfl, T.cl_Machine, T.no_Machine_words, rfl, ?_⟩
    refine ⟨_, rfl, wa, _, _, _, rfl, rfl, SqL.of (o.get 1 rfl), ws_at e2 ha, ?_⟩
    refine ⟨_, rfl, _, _, rfl, rfl, _, rfl, ?_⟩
    unfold behind at q
    refine ite2 (fun e => ?_) (fun e => ?_)
    · rw [if_pos (of_decide_eq_true e)] at q
      exact ⟨_, rfl, q⟩
    · rw [if_neg (fun z => e (decide_eq_true z))] at q
      refine ⟨_, rfl, m, _, dx, _, _, rfl, o.get 0 rfl, T.cl_Machine, T.no_Machine_at, rfl, ?_⟩
      exact ⟨_, _, rfl, rfl, q⟩
theorem ok_outcome (T : Tx P w K mg) : FnOk P w K mg base CX0 1 T.a_outcome T.d_outcome ["instruction", "words", "carry"] spOutcome := by
  refine T.F_outcome.ok sc_outcome (fun vs H Q E h => ?_) (fun cdv A outer s H vs Q E hr h => ?_)
  · obtain ⟨r, a, w, wl, c, rfl, _⟩ := h
    rfl
  · obtain ⟨r, a, w, wl, c, rfl, hr2, q⟩ := h
    refine ⟨_, (pss_cons (ps_set (i := 3) sc_outcome.nd rfl (.inl rfl) (pe_ix ix_tup (pv 0) pe_int (fun _ _ => rfl)))
        (pss_cons (ps_if (pt_cmpR op_eq (pv 3) pe_str (nomark _))
        (pss_one (ps_ret (pe_tup (pa_cons (pe_ix ix_tup (pv 0) pe_int (fun _ _ => rfl)) (pa_cons (pv 2) pa_nil)))))
        pss_nil)
        (pss_cons ps_never
        (pss_cons ps_never
        (pss_cons ps_never
        (pss_cons ps_never
        (pss_one ps_never))))))), ?_⟩
    (repeat (first | refine ⟨_, rfl, ?_⟩ | refine ⟨_, _, rfl, rfl, ?_⟩ | refine ⟨rfl, ?_⟩ | refine .inl ⟨_, rfl, ?_⟩ | refine .inr ⟨_, rfl, ?_⟩ | refine ⟨.inr ⟨by decide, by decide⟩, ?_⟩ | refine ⟨⟨by decide, by decide⟩, ?_⟩ | refine ⟨⟨by decide, by decide, by decide⟩, ?_⟩ | refine ⟨.inr ⟨by omega, by omega⟩, ?_⟩ | refine ⟨(by show (0 : Int) < _; first | decide | omega), ?_⟩ | refine ⟨Nat.le_trans (Nat.le_of_ble_eq_true rfl : _ ≤ 50) (by decide), ?_⟩ | refine ⟨_, _, _, _, rfl, rfl, upd_same, rfl, ?_⟩ | refine ⟨_, _, _, _, rfl, rfl, SqL.of upd_same, rfl, ?_⟩ | refine ⟨_, _, _, _, rfl, rfl, SqT.of upd_same, rfl, ?_⟩ | refine ⟨_, _, rfl, .inl (SqL.of upd_same), ?_⟩ | refine ⟨_, _, rfl, .inr (SqT.of upd_same), ?_⟩ | (refine' ⟨_, _, _, _, rfl, rfl, _, _, _⟩; rotate_left 2; (focus (first | assumption | exact SqL.of (by assumption) | exact SqT.of (by assumption) | exact Same.seq (by assumption) (by assumption))); (focus (exact rfl))) | (refine' ⟨_, _, rfl, _, _⟩; rotate_left 1; (focus (first | exact .inl (by assumption) | exact .inl (SqL.of (by assumption)) | exact .inr (by assumption) | exact .inr (SqT.of (by assumption)))))))
    exact fun p hp => q p hp
theorem ok_compute (T : Tx P w K mg) : FnOk P w K mg base CX0 2 T.a_Machine_compute T.d_Machine_compute ["self", "instruction"] (spCompute T.c_Machine T.c_Predictor) := by
  have G_outcome : FnOk P w K mg base CX0 1 T.a_outcome T.d_outcome ["instruction", "words", "carry"] spOutcome := ok_outcome T
  have G_base_cycles : FnOk P w K mg base CX0 1 T.a_base_cycles T.d_base_cycles ["name"] spBase := ok_base T
  have G_Machine_show : FnOk P w K mg base CX0 1 T.a_Machine_show T.d_Machine_show ["self", "address", "cycles", "following"] (spShow T.c_Machine T.c_Predictor) := ok_show T
  refine T.F_Machine_compute.ok sc_Machine_compute (fun vs H Q E h => ?_) (fun cdv A outer s H vs Q E hr h => ?_)
  · obtain ⟨H0, m, cd, S, L, r, a, w, rfl, _⟩ := h
    rfl
  · obtain ⟨H0, m, cd, S, L, r, a, w, rfl, hm, hr2, ha, htn, q⟩ := h
    obtain ⟨dx, mo, ce, wa, wt, t, ca, p, dp, pm, flag, clock, trs, e1, e2, e3, e4, o⟩ := hm
    have hr_outcome : Room 1 _ := hr
    have hr_base_cycles : Room 1 _ := hr
    have hr_Machine_show : Room 1 _ := hr
    have hr3 : H r = some (.tup (Ins.set a w).row) := o.at_ (r, _) (by simp [hr2])
    refine ⟨_, (pss_cons (ps_set (i := 2) sc_Machine_compute.nd rfl (.inl rfl) (pe_ix ix_tup (pv 1) pe_int (fun _ _ => rfl)))
        (pss_cons (ps_asg (pe_call G_outcome hr_outcome (by rfl) T.g_outcome T.F_outcome.kp T.b_outcome .nil pass0 (pa_cons (pv 1) (pa_cons (pe_fld (pv 0) rfl) (pa_cons (pe_fld (pv 0) rfl) pa_nil)))) (pg_tup rfl (pgs_cons (pg_name (i := 3) sc_Machine_compute.nd rfl (.inl rfl)) (pgs_cons (Fl.pg_fld (pv 0)) pgs_nil))))
        (pss_cons (ps_asg (pv 3) (pg_sub (pe_fld (pv 0) rfl) (pe_ix ix_tup (pv 1) pe_int (fun _ _ => rfl)) set_list))
        (pss_cons (ps_set (i := 4) sc_Machine_compute.nd rfl (.inl rfl) (pe_call G_base_cycles hr_base_cycles (by rfl) T.g_base_cycles T.F_base_cycles.kp T.b_base_cycles .nil pass0 (pa_cons (pv 2) pa_nil)))
        (pss_cons (ps_if (pt_cmpR op_eq (pv 2) pe_str (nomark _))
        (pss_one ps_never)
        pss_nil)
        (pss_one (ps_expr (pe_meth (pv 0) T.cl_Machine T.m_Machine_show G_Machine_show hr_Machine_show T.b_Machine_show .nil pass0 (pa_cons (pe_glob rfl T.g_NO_ADDRESS T.r_NO_ADDRESS) (pa_cons (pv 4) (pa_cons (pe_op op_add (pe_fld (pv 0) rfl) pe_int) pa_nil))))))))))), ?_⟩
    (repeat (first | refine ⟨_, rfl, ?_⟩ | refine ⟨_, _, rfl, rfl, ?_⟩ | refine ⟨rfl, ?_⟩ | refine .inl ⟨_, rfl, ?_⟩ | refine .inr ⟨_, rfl, ?_⟩ | refine ⟨.inr ⟨by decide, by decide⟩, ?_⟩ | refine ⟨⟨by decide, by decide⟩, ?_⟩ | refine ⟨⟨by decide, by decide, by decide⟩, ?_⟩ | refine ⟨.inr ⟨by omega, by omega⟩, ?_⟩ | refine ⟨(by show (0 : Int) < _; first | decide | omega), ?_⟩ | refine ⟨Nat.le_trans (Nat.le_of_ble_eq_true rfl : _ ≤ 50) (by decide), ?_⟩ | refine ⟨_, _, _, _, rfl, rfl, upd_same, rfl, ?_⟩ | refine ⟨_, _, _, _, rfl, rfl, SqL.of upd_same, rfl, ?_⟩ | refine ⟨_, _, _, _, rfl, rfl, SqT.of upd_same, rfl, ?_⟩ | refine ⟨_, _, rfl, .inl (SqL.of upd_same), ?_⟩ | refine ⟨_, _, rfl, .inr (SqT.of upd_same), ?_⟩ | (refine' ⟨_, _, _, _, rfl, rfl, _, _, _⟩; rotate_left 2; (focus (first | assumption | exact SqL.of (by assumption) | exact SqT.of (by assumption) | exact Same.seq (by assumption) (by assumption))); (focus (exact rfl))) | (refine' ⟨_, _, rfl, _, _⟩; rotate_left 1; (focus (first | exact .inl (by assumption) | exact .inl (SqL.of (by assumption)) | exact .inr (by assumption) | exact .inr (SqT.of (by assumption)))))))
    refine ⟨m, _, dx, _, _, rfl, o.get 0 rfl, T.cl_Machine, T.no_Machine_words, rfl, ?_⟩
    refine ⟨_, rfl, m, _, dx, _, _, rfl, o.get 0 rfl, T.cl_Machine, T.no_Machine_flag, rfl, ?_⟩
    refine ⟨r, a, w, .ref wa, flag, rfl, hr3, fun tp htp => ?_⟩
    have o1 := o.skip (o := .tup [.int w, .int flag]) htp
    refine ⟨tp, _, rfl, SqT.of upd_same, rfl, ?_⟩
    refine ⟨_, _, rfl, _, _, rfl, _, rfl, m, _, dx, _, rfl, o1.get 0 rfl, T.cl_Machine, T.no_Machine_flag, Nat.le_of_ble_eq_true rfl, rfl, ?_⟩
    have o2 : Objs H0 (upd (upd H tp (.tup [.int w, .int flag])) m (.ins T.c_Machine dx (putF "flag" (.int flag) (mf cd mo ce wa wt t ca p flag S.at_ clock S.over)))) ((m, .ins T.c_Machine dx (mf cd mo ce wa wt t ca p flag S.at_ clock S.over)) :: _) := o1.put 0 rfl
    generalize (upd (upd H tp (.tup [.int w, .int flag])) m (.ins T.c_Machine dx (putF "flag" (.int flag) (mf cd mo ce wa wt t ca p flag S.at_ clock S.over)))) = H1 at o2 ⊢
    have hr4 : H1 r = some (.tup (Ins.set a w).row) := o2.at_ (r, _) (by simp [hr2])
    refine ⟨_, rfl, _, rfl, m, _, dx, _, _, rfl, o2.get 0 rfl, T.cl_Machine, T.no_Machine_words, rfl, ?_⟩
    refine ⟨_, rfl, r, _, _, _, rfl, rfl, SqT.of hr4, rfl, ?_⟩
    refine ⟨wa, _, _, a, rfl, rfl, o2.get 1 rfl, ixN_of (by omega) (by rw [List.length_map, e2]; omega), ?_⟩
    have o3 := o2.put (o' := .lst ((S.ws.map V.int).set a (.int w))) 1 rfl
    refine ⟨_, rfl, "set", 1, rfl, by decide +kernel, ?_⟩
    (repeat (first | refine ⟨_, rfl, ?_⟩ | refine ⟨_, _, rfl, rfl, ?_⟩ | refine ⟨rfl, ?_⟩ | refine .inl ⟨_, rfl, ?_⟩ | refine .inr ⟨_, rfl, ?_⟩ | refine ⟨.inr ⟨by decide, by decide⟩, ?_⟩ | refine ⟨⟨by decide, by decide⟩, ?_⟩ | refine ⟨⟨by decide, by decide, by decide⟩, ?_⟩ | refine ⟨.inr ⟨by omega, by omega⟩, ?_⟩ | refine ⟨(by show (0 : Int) < _; first | decide | omega), ?_⟩ | refine ⟨Nat.le_trans (Nat.le_of_ble_eq_true rfl : _ ≤ 50) (by decide), ?_⟩ | refine ⟨_, _, _, _, rfl, rfl, upd_same, rfl, ?_⟩ | refine ⟨_, _, _, _, rfl, rfl, SqL.of upd_same, rfl, ?_⟩ | refine ⟨_, _, _, _, rfl, rfl, SqT.of upd_same, rfl, ?_⟩ | refine ⟨_, _, rfl, .inl (SqL.of upd_same), ?_⟩ | refine ⟨_, _, rfl, .inr (SqT.of upd_same), ?_⟩ | (refine' ⟨_, _, _, _, rfl, rfl, _, _, _⟩; rotate_left 2; (focus (first | assumption | exact SqL.of (by assumption) | exact SqT.of (by assumption) | exact Same.seq (by assumption) (by assumption))); (focus (exact rfl))) | (refine' ⟨_, _, rfl, _, _⟩; rotate_left 1; (focus (first | exact .inl (by assumption) | exact .inl (SqL.of (by assumption)) | exact .inr (by assumption) | exact .inr (SqT.of (by assumption)))))))
    refine ⟨m, dx, _, rfl, o3.get 0 rfl, rfl, ?_⟩
    refine ⟨_, rfl, _, rfl, m, _, dx, _, _, rfl, o3.get 0 rfl, T.cl_Machine, T.no_Machine_at, rfl, ?_⟩
    refine ⟨_, _, rfl, rfl, ?_⟩
    refine ⟨H0, m, cd, { S with ws := S.ws.set a w }, L, _, _, _, rfl, ⟨dx, mo, ce, wa, wt, t, ca, p, dp, pm, flag, clock, trs, e1, by show (S.ws.set a w).length = 16; rw [List.length_set]; exact e2, e3, e4, ?_⟩, htn, by omega, fun H' h' => q H' h'⟩
    show Objs H0 _ (_ :: (wa, .lst ((S.ws.set a w).map V.int)) :: _)
    rw [List.map_set]
    exact o3
theorem mem6 {α : Type} {x a b c d e f : α} {L : List α} (h : x ∈ L) : x ∈ a :: b :: c :: d :: e :: f :: L := by simp [h]
theorem ok_leave (T : Tx P w K mg) (G_BadRun : FnOk P w K mg base CX0 1 T.E_BadRun.f T.E_BadRun.fd ["self", "reason"] (spI1 T.E_BadRun.C "reason")) :
    FnOk P w K mg base (L2.CX P w) 3 T.a_Machine_leave T.d_Machine_leave ["self", "instruction"] (spLeave T.c_Machine T.c_Predictor T.E_BadRun.C) := by
  have G_base_cycles : FnOk P w K mg base CX0 1 T.a_base_cycles T.d_base_cycles ["name"] spBase := ok_base T
  have G_Machine_show : FnOk P w K mg base CX0 1 T.a_Machine_show T.d_Machine_show ["self", "address", "cycles", "following"] (spShow T.c_Machine T.c_Predictor) := ok_show T
  have G_Machine_place_behind : FnOk P w K mg base CX0 1 T.a_Machine_place_behind T.d_Machine_place_behind ["self", "instruction"] (spBehind T.c_Machine T.c_Predictor) := ok_behind T
  have G_Predictor_branch : FnOk P w K mg base CX0 1 T.a_Predictor_branch T.d_Predictor_branch ["self", "place", "jumps"] (spBranch T.c_Predictor) := ok_branch T
  refine T.F_Machine_leave.okX sc_Machine_leave (fun vs H Q E h => ?_) (fun cdv A outer s H vs Q E hr h => ?_)
  · obtain ⟨H0, m, cd, S, L, r, i, rfl, _⟩ := h
    rfl
  · obtain ⟨H0, m, cd, S, L, r, i, rfl, hm, hr2, hok, hns, htn, hwt, h⟩ := h
    obtain ⟨dx, mo, ce, wa, wt, t, ca, p, dp, pm, flag, clock, trs, e1, e2, e3, e4, o⟩ := id hm
    have hr_base_cycles : Room 1 _ := hr.mono (by decide)
    have hr_Machine_show : Room 1 _ := hr.mono (by decide)
    have hr_Machine_place_behind : Room 1 _ := hr.mono (by decide)
    have hr_Predictor_branch : Room 1 _ := hr.mono (by decide)
    have hr_BadRun : Room 2 _ := hr
    have hr3 : H r = some (.tup i.row) := o.at_ (r, _) (mem6 hr2)
    refine ⟨_, (pss_cons (ps_set (i := 2) sc_Machine_leave.nd rfl (.inl rfl) (pe_ix ix_tup (pv 1) pe_int (fun _ _ => rfl)))
        (pss_cons (ps_set (i := 3) sc_Machine_leave.nd rfl (.inl rfl) (pe_call G_base_cycles hr_base_cycles (by rfl) T.g_base_cycles T.F_base_cycles.kp T.b_base_cycles .nil pass0 (pa_cons (pv 2) pa_nil)))
        (pss_cons (ps_set (i := 4) sc_Machine_leave.nd rfl (.inl rfl) (pe_fld (pv 0) rfl))
        (pss_cons (ps_if (pt_cmpR op_eq (pv 2) pe_str (nomark _))
        (pss_cons (ps_set (i := 4) sc_Machine_leave.nd rfl (.inl rfl) (pe_meth (pv 0) T.cl_Machine T.m_Machine_place_behind G_Machine_place_behind hr_Machine_place_behind T.b_Machine_place_behind .nil pass0 (pa_cons (pv 1) pa_nil)))
        (pss_one (ps_if (pt_not (pt_val (pe_meth (pe_fld (pv 0) rfl) T.cl_Predictor T.m_Predictor_branch G_Predictor_branch hr_Predictor_branch T.b_Predictor_branch .nil pass0 (pa_cons (pe_fld (pv 0) rfl) (pa_cons (pe_cmpR op_ne (pv 4) (pe_op op_add (pe_fld (pv 0) rfl) pe_int) (nomark _)) pa_nil)))))
        (pss_one (ps_aug (i := 3) sc_Machine_leave.nd rfl (.inl rfl) (pe_glob rfl T.g_WRONG_GUESS T.r_WRONG_GUESS) ip_add))
        pss_nil)))
        (pss_one (ps_if (pt_cmpR op_eq (pv 2) pe_str (nomark _))
        (pss_one (ps_set (i := 4) sc_Machine_leave.nd rfl (.inl rfl) (pe_ix ix_tup (pv 1) pe_int (fun _ _ => rfl))))
        (pss_one (ps_if (pt_cmpR op_eq (pv 2) pe_str (nomark _))
        (pss_cons (ps_if (pt_cmpR op_ge (pe_callB call_len_seq (by rfl) T.z_len (by decide +kernel) (pa_cons (pe_fld (pv 0) rfl) pa_nil)) (pe_glob rfl T.g_DEEPEST_STACK T.r_DEEPEST_STACK) (nomark _))
        (pss_one (ps_raise rfl (takes_of rfl rfl rfl rfl) (pmk_oex T.E_BadRun.S.ox T.E_BadRun.ini T.E_BadRun.tI G_BadRun hr_BadRun T.E_BadRun.b .nil pass0 (by rfl) T.E_BadRun.g (pa_cons pe_str pa_nil))))
        pss_nil)
        (pss_cons (ps_expr (pe_bm PySem.F.plainAttrs_list PySem.F.slot_list_append PySem.F.type_list_append mt_append (pe_fld (pv 0) rfl) (pa_cons (pe_op op_add (pe_fld (pv 0) rfl) pe_int) pa_nil)))
        (pss_one (ps_set (i := 4) sc_Machine_leave.nd rfl (.inl rfl) (pe_ix ix_tup (pv 1) pe_int (fun _ _ => rfl))))))
        (pss_one (ps_if (PW.pt (pw_and (pt_cmpR op_eq (pv 2) pe_str (nomark _)) (pw_and1 (pt_cmpR op_gt (pe_callB call_len_seq (by rfl) T.z_len (by decide +kernel) (pa_cons (pe_fld (pv 0) rfl) pa_nil)) pe_int (nomark _)))))
        (pss_one (ps_set (i := 4) sc_Machine_leave.nd rfl (.inl rfl) (pe_bm0 PySem.F.plainAttrs_list PySem.F.slot_list_pop PySem.F.type_list_pop mt_pop (pe_fld (pv 0) rfl))))
        (pss_one (ps_fld (pv 0) pe_bl rfl)))))))))
        (pss_one (ps_expr (pe_meth (pv 0) T.cl_Machine T.m_Machine_show G_Machine_show hr_Machine_show T.b_Machine_show .nil pass0 (pa_cons (pe_glob rfl T.g_NO_ADDRESS T.r_NO_ADDRESS) (pa_cons (pv 3) (pa_cons (pv 4) pa_nil)))))))))), ?_⟩
    cases i with
    | set a w => exact absurd rfl (hns a w)
    | halt =>
      (repeat (first | refine ⟨_, rfl, ?_⟩ | refine ⟨_, _, rfl, rfl, ?_⟩ | refine ⟨rfl, ?_⟩ | refine .inl ⟨_, rfl, ?_⟩ | refine .inr ⟨_, rfl, ?_⟩ | refine ⟨.inr ⟨by decide, by decide⟩, ?_⟩ | refine ⟨⟨by decide, by decide⟩, ?_⟩ | refine ⟨⟨by decide, by decide, by decide⟩, ?_⟩ | refine ⟨.inr ⟨by omega, by omega⟩, ?_⟩ | refine ⟨(by show (0 : Int) < _; first | decide | omega), ?_⟩ | refine ⟨Nat.le_trans (Nat.le_of_ble_eq_true rfl : _ ≤ 50) (by decide), ?_⟩ | refine ⟨_, _, _, _, rfl, rfl, upd_same, rfl, ?_⟩ | refine ⟨_, _, _, _, rfl, rfl, SqL.of upd_same, rfl, ?_⟩ | refine ⟨_, _, _, _, rfl, rfl, SqT.of upd_same, rfl, ?_⟩ | refine ⟨_, _, rfl, .inl (SqL.of upd_same), ?_⟩ | refine ⟨_, _, rfl, .inr (SqT.of upd_same), ?_⟩ | (refine' ⟨_, _, _, _, rfl, rfl, _, _, _⟩; rotate_left 2; (focus (first | assumption | exact SqL.of (by assumption) | exact SqT.of (by assumption) | exact Same.seq (by assumption) (by assumption))); (focus (exact rfl))) | (refine' ⟨_, _, rfl, _, _⟩; rotate_left 1; (focus (first | exact .inl (by assumption) | exact .inl (SqL.of (by assumption)) | exact .inr (by assumption) | exact .inr (SqT.of (by assumption)))))))
      refine ⟨"halt", 1, rfl, by decide +kernel, ?_⟩
      (repeat (first | refine ⟨_, rfl, ?_⟩ | refine ⟨_, _, rfl, rfl, ?_⟩ | refine ⟨rfl, ?_⟩ | refine .inl ⟨_, rfl, ?_⟩ | refine .inr ⟨_, rfl, ?_⟩ | refine ⟨.inr ⟨by decide, by decide⟩, ?_⟩ | refine ⟨⟨by decide, by decide⟩, ?_⟩ | refine ⟨⟨by decide, by decide, by decide⟩, ?_⟩ | refine ⟨.inr ⟨by omega, by omega⟩, ?_⟩ | refine ⟨(by show (0 : Int) < _; first | decide | omega), ?_⟩ | refine ⟨Nat.le_trans (Nat.le_of_ble_eq_true rfl : _ ≤ 50) (by decide), ?_⟩ | refine ⟨_, _, _, _, rfl, rfl, upd_same, rfl, ?_⟩ | refine ⟨_, _, _, _, rfl, rfl, SqL.of upd_same, rfl, ?_⟩ | refine ⟨_, _, _, _, rfl, rfl, SqT.of upd_same, rfl, ?_⟩ | refine ⟨_, _, rfl, .inl (SqL.of upd_same), ?_⟩ | refine ⟨_, _, rfl, .inr (SqT.of upd_same), ?_⟩ | (refine' ⟨_, _, _, _, rfl, rfl, _, _, _⟩; rotate_left 2; (focus (first | assumption | exact SqL.of (by assumption) | exact SqT.of (by assumption) | exact Same.seq (by assumption) (by assumption))); (focus (exact rfl))) | (refine' ⟨_, _, rfl, _, _⟩; rotate_left 1; (focus (first | exact .inl (by assumption) | exact .inl (SqL.of (by assumption)) | exact .inr (by assumption) | exact .inr (SqT.of (by assumption)))))))
      refine ⟨m, _, dx, _, _, rfl, o.get 0 rfl, T.cl_Machine, T.no_Machine_at, rfl, ?_⟩
      (repeat (first | refine ⟨_, rfl, ?_⟩ | refine ⟨_, _, rfl, rfl, ?_⟩ | refine ⟨rfl, ?_⟩ | refine .inl ⟨_, rfl, ?_⟩ | refine .inr ⟨_, rfl, ?_⟩ | refine ⟨.inr ⟨by decide, by decide⟩, ?_⟩ | refine ⟨⟨by decide, by decide⟩, ?_⟩ | refine ⟨⟨by decide, by decide, by decide⟩, ?_⟩ | refine ⟨.inr ⟨by omega, by omega⟩, ?_⟩ | refine ⟨(by show (0 : Int) < _; first | decide | omega), ?_⟩ | refine ⟨Nat.le_trans (Nat.le_of_ble_eq_true rfl : _ ≤ 50) (by decide), ?_⟩ | refine ⟨_, _, _, _, rfl, rfl, upd_same, rfl, ?_⟩ | refine ⟨_, _, _, _, rfl, rfl, SqL.of upd_same, rfl, ?_⟩ | refine ⟨_, _, _, _, rfl, rfl, SqT.of upd_same, rfl, ?_⟩ | refine ⟨_, _, rfl, .inl (SqL.of upd_same), ?_⟩ | refine ⟨_, _, rfl, .inr (SqT.of upd_same), ?_⟩ | (refine' ⟨_, _, _, _, rfl, rfl, _, _, _⟩; rotate_left 2; (focus (first | assumption | exact SqL.of (by assumption) | exact SqT.of (by assumption) | exact Same.seq (by assumption) (by assumption))); (focus (exact rfl))) | (refine' ⟨_, _, rfl, _, _⟩; rotate_left 1; (focus (first | exact .inl (by assumption) | exact .inl (SqL.of (by assumption)) | exact .inr (by assumption) | exact .inr (SqT.of (by assumption)))))))
      refine ⟨m, _, dx, _, rfl, o.get 0 rfl, T.cl_Machine, T.no_Machine_over, Nat.le_of_ble_eq_true rfl, ?_⟩
      have o1 : Objs H0 (upd H m (.ins T.c_Machine dx (putF "over" (.bl true) (mf cd mo ce wa wt t ca p flag S.at_ clock S.over)))) ((m, .ins T.c_Machine dx (mf cd mo ce wa wt t ca p flag S.at_ clock true)) :: _) := o.put 0 rfl
      refine ⟨_, rfl, m, dx, _, rfl, o1.get 0 rfl, rfl, ?_⟩
      refine ⟨_, rfl, _, rfl, ?_⟩
      exact ⟨H0, m, cd, { S with over := true }, L, _, _, _, rfl, ⟨dx, mo, ce, wa, wt, t, ca, p, dp, pm, flag, clock, trs, e1, e2, e3, e4, o1⟩, htn, e4, fun H' h' => h H' h'⟩
    | jump pl =>
      (repeat (first | refine ⟨_, rfl, ?_⟩ | refine ⟨_, _, rfl, rfl, ?_⟩ | refine ⟨rfl, ?_⟩ | refine .inl ⟨_, rfl, ?_⟩ | refine .inr ⟨_, rfl, ?_⟩ | refine ⟨.inr ⟨by decide, by decide⟩, ?_⟩ | refine ⟨⟨by decide, by decide⟩, ?_⟩ | refine ⟨⟨by decide, by decide, by decide⟩, ?_⟩ | refine ⟨.inr ⟨by omega, by omega⟩, ?_⟩ | refine ⟨(by show (0 : Int) < _; first | decide | omega), ?_⟩ | refine ⟨Nat.le_trans (Nat.le_of_ble_eq_true rfl : _ ≤ 50) (by decide), ?_⟩ | refine ⟨_, _, _, _, rfl, rfl, upd_same, rfl, ?_⟩ | refine ⟨_, _, _, _, rfl, rfl, SqL.of upd_same, rfl, ?_⟩ | refine ⟨_, _, _, _, rfl, rfl, SqT.of upd_same, rfl, ?_⟩ | refine ⟨_, _, rfl, .inl (SqL.of upd_same), ?_⟩ | refine ⟨_, _, rfl, .inr (SqT.of upd_same), ?_⟩ | (refine' ⟨_, _, _, _, rfl, rfl, _, _, _⟩; rotate_left 2; (focus (first | assumption | exact SqL.of (by assumption) | exact SqT.of (by assumption) | exact Same.seq (by assumption) (by assumption))); (focus (exact rfl))) | (refine' ⟨_, _, rfl, _, _⟩; rotate_left 1; (focus (first | exact .inl (by assumption) | exact .inl (SqL.of (by assumption)) | exact .inr (by assumption) | exact .inr (SqT.of (by assumption)))))))
      refine ⟨"jump", 2, rfl, by decide +kernel, ?_⟩
      (repeat (first | refine ⟨_, rfl, ?_⟩ | refine ⟨_, _, rfl, rfl, ?_⟩ | refine ⟨rfl, ?_⟩ | refine .inl ⟨_, rfl, ?_⟩ | refine .inr ⟨_, rfl, ?_⟩ | refine ⟨.inr ⟨by decide, by decide⟩, ?_⟩ | refine ⟨⟨by decide, by decide⟩, ?_⟩ | refine ⟨⟨by decide, by decide, by decide⟩, ?_⟩ | refine ⟨.inr ⟨by omega, by omega⟩, ?_⟩ | refine ⟨(by show (0 : Int) < _; first | decide | omega), ?_⟩ | refine ⟨Nat.le_trans (Nat.le_of_ble_eq_true rfl : _ ≤ 50) (by decide), ?_⟩ | refine ⟨_, _, _, _, rfl, rfl, upd_same, rfl, ?_⟩ | refine ⟨_, _, _, _, rfl, rfl, SqL.of upd_same, rfl, ?_⟩ | refine ⟨_, _, _, _, rfl, rfl, SqT.of upd_same, rfl, ?_⟩ | refine ⟨_, _, rfl, .inl (SqL.of upd_same), ?_⟩ | refine ⟨_, _, rfl, .inr (SqT.of upd_same), ?_⟩ | (refine' ⟨_, _, _, _, rfl, rfl, _, _, _⟩; rotate_left 2; (focus (first | assumption | exact SqL.of (by assumption) | exact SqT.of (by assumption) | exact Same.seq (by assumption) (by assumption))); (focus (exact rfl))) | (refine' ⟨_, _, rfl, _, _⟩; rotate_left 1; (focus (first | exact .inl (by assumption) | exact .inl (SqL.of (by assumption)) | exact .inr (by assumption) | exact .inr (SqT.of (by assumption)))))))
      refine ⟨m, _, dx, _, _, rfl, o.get 0 rfl, T.cl_Machine, T.no_Machine_at, rfl, ?_⟩
      (repeat (first | refine ⟨_, rfl, ?_⟩ | refine ⟨_, _, rfl, rfl, ?_⟩ | refine ⟨rfl, ?_⟩ | refine .inl ⟨_, rfl, ?_⟩ | refine .inr ⟨_, rfl, ?_⟩ | refine ⟨.inr ⟨by decide, by decide⟩, ?_⟩ | refine ⟨⟨by decide, by decide⟩, ?_⟩ | refine ⟨⟨by decide, by decide, by decide⟩, ?_⟩ | refine ⟨.inr ⟨by omega, by omega⟩, ?_⟩ | refine ⟨(by show (0 : Int) < _; first | decide | omega), ?_⟩ | refine ⟨Nat.le_trans (Nat.le_of_ble_eq_true rfl : _ ≤ 50) (by decide), ?_⟩ | refine ⟨_, _, _, _, rfl, rfl, upd_same, rfl, ?_⟩ | refine ⟨_, _, _, _, rfl, rfl, SqL.of upd_same, rfl, ?_⟩ | refine ⟨_, _, _, _, rfl, rfl, SqT.of upd_same, rfl, ?_⟩ | refine ⟨_, _, rfl, .inl (SqL.of upd_same), ?_⟩ | refine ⟨_, _, rfl, .inr (SqT.of upd_same), ?_⟩ | (refine' ⟨_, _, _, _, rfl, rfl, _, _, _⟩; rotate_left 2; (focus (first | assumption | exact SqL.of (by assumption) | exact SqT.of (by assumption) | exact Same.seq (by assumption) (by assumption))); (focus (exact rfl))) | (refine' ⟨_, _, rfl, _, _⟩; rotate_left 1; (focus (first | exact .inl (by assumption) | exact .inl (SqL.of (by assumption)) | exact .inr (by assumption) | exact .inr (SqT.of (by assumption)))))))
      refine ⟨m, dx, _, rfl, o.get 0 rfl, rfl, ?_⟩
      refine ⟨_, rfl, _, rfl, ?_⟩
      exact ⟨H0, m, cd, S, L, _, _, _, rfl, hm, htn, hok, fun H' h' => h H' h'⟩
    | below a w pl =>
      (repeat (first | refine ⟨_, rfl, ?_⟩ | refine ⟨_, _, rfl, rfl, ?_⟩ | refine ⟨rfl, ?_⟩ | refine .inl ⟨_, rfl, ?_⟩ | refine .inr ⟨_, rfl, ?_⟩ | refine ⟨.inr ⟨by decide, by decide⟩, ?_⟩ | refine ⟨⟨by decide, by decide⟩, ?_⟩ | refine ⟨⟨by decide, by decide, by decide⟩, ?_⟩ | refine ⟨.inr ⟨by omega, by omega⟩, ?_⟩ | refine ⟨(by show (0 : Int) < _; first | decide | omega), ?_⟩ | refine ⟨Nat.le_trans (Nat.le_of_ble_eq_true rfl : _ ≤ 50) (by decide), ?_⟩ | refine ⟨_, _, _, _, rfl, rfl, upd_same, rfl, ?_⟩ | refine ⟨_, _, _, _, rfl, rfl, SqL.of upd_same, rfl, ?_⟩ | refine ⟨_, _, _, _, rfl, rfl, SqT.of upd_same, rfl, ?_⟩ | refine ⟨_, _, rfl, .inl (SqL.of upd_same), ?_⟩ | refine ⟨_, _, rfl, .inr (SqT.of upd_same), ?_⟩ | (refine' ⟨_, _, _, _, rfl, rfl, _, _, _⟩; rotate_left 2; (focus (first | assumption | exact SqL.of (by assumption) | exact SqT.of (by assumption) | exact Same.seq (by assumption) (by assumption))); (focus (exact rfl))) | (refine' ⟨_, _, rfl, _, _⟩; rotate_left 1; (focus (first | exact .inl (by assumption) | exact .inl (SqL.of (by assumption)) | exact .inr (by assumption) | exact .inr (SqT.of (by assumption)))))))
      refine ⟨"below", 1, rfl, by decide +kernel, ?_⟩
      (repeat (first | refine ⟨_, rfl, ?_⟩ | refine ⟨_, _, rfl, rfl, ?_⟩ | refine ⟨rfl, ?_⟩ | refine .inl ⟨_, rfl, ?_⟩ | refine .inr ⟨_, rfl, ?_⟩ | refine ⟨.inr ⟨by decide, by decide⟩, ?_⟩ | refine ⟨⟨by decide, by decide⟩, ?_⟩ | refine ⟨⟨by decide, by decide, by decide⟩, ?_⟩ | refine ⟨.inr ⟨by omega, by omega⟩, ?_⟩ | refine ⟨(by show (0 : Int) < _; first | decide | omega), ?_⟩ | refine ⟨Nat.le_trans (Nat.le_of_ble_eq_true rfl : _ ≤ 50) (by decide), ?_⟩ | refine ⟨_, _, _, _, rfl, rfl, upd_same, rfl, ?_⟩ | refine ⟨_, _, _, _, rfl, rfl, SqL.of upd_same, rfl, ?_⟩ | refine ⟨_, _, _, _, rfl, rfl, SqT.of upd_same, rfl, ?_⟩ | refine ⟨_, _, rfl, .inl (SqL.of upd_same), ?_⟩ | refine ⟨_, _, rfl, .inr (SqT.of upd_same), ?_⟩ | (refine' ⟨_, _, _, _, rfl, rfl, _, _, _⟩; rotate_left 2; (focus (first | assumption | exact SqL.of (by assumption) | exact SqT.of (by assumption) | exact Same.seq (by assumption) (by assumption))); (focus (exact rfl))) | (refine' ⟨_, _, rfl, _, _⟩; rotate_left 1; (focus (first | exact .inl (by assumption) | exact .inl (SqL.of (by assumption)) | exact .inr (by assumption) | exact .inr (SqT.of (by assumption)))))))
      refine ⟨m, _, dx, _, _, rfl, o.get 0 rfl, T.cl_Machine, T.no_Machine_at, rfl, ?_⟩
      (repeat (first | refine ⟨_, rfl, ?_⟩ | refine ⟨_, _, rfl, rfl, ?_⟩ | refine ⟨rfl, ?_⟩ | refine .inl ⟨_, rfl, ?_⟩ | refine .inr ⟨_, rfl, ?_⟩ | refine ⟨.inr ⟨by decide, by decide⟩, ?_⟩ | refine ⟨⟨by decide, by decide⟩, ?_⟩ | refine ⟨⟨by decide, by decide, by decide⟩, ?_⟩ | refine ⟨.inr ⟨by omega, by omega⟩, ?_⟩ | refine ⟨(by show (0 : Int) < _; first | decide | omega), ?_⟩ | refine ⟨Nat.le_trans (Nat.le_of_ble_eq_true rfl : _ ≤ 50) (by decide), ?_⟩ | refine ⟨_, _, _, _, rfl, rfl, upd_same, rfl, ?_⟩ | refine ⟨_, _, _, _, rfl, rfl, SqL.of upd_same, rfl, ?_⟩ | refine ⟨_, _, _, _, rfl, rfl, SqT.of upd_same, rfl, ?_⟩ | refine ⟨_, _, rfl, .inl (SqL.of upd_same), ?_⟩ | refine ⟨_, _, rfl, .inr (SqT.of upd_same), ?_⟩ | (refine' ⟨_, _, _, _, rfl, rfl, _, _, _⟩; rotate_left 2; (focus (first | assumption | exact SqL.of (by assumption) | exact SqT.of (by assumption) | exact Same.seq (by assumption) (by assumption))); (focus (exact rfl))) | (refine' ⟨_, _, rfl, _, _⟩; rotate_left 1; (focus (first | exact .inl (by assumption) | exact .inl (SqL.of (by assumption)) | exact .inr (by assumption) | exact .inr (SqT.of (by assumption)))))))
      refine ⟨m, dx, _, rfl, o.get 0 rfl, rfl, ?_⟩
      (repeat (first | refine ⟨_, rfl, ?_⟩ | refine ⟨_, _, rfl, rfl, ?_⟩ | refine ⟨rfl, ?_⟩ | refine .inl ⟨_, rfl, ?_⟩ | refine .inr ⟨_, rfl, ?_⟩ | refine ⟨.inr ⟨by decide, by decide⟩, ?_⟩ | refine ⟨⟨by decide, by decide⟩, ?_⟩ | refine ⟨⟨by decide, by decide, by decide⟩, ?_⟩ | refine ⟨.inr ⟨by omega, by omega⟩, ?_⟩ | refine ⟨(by show (0 : Int) < _; first | decide | omega), ?_⟩ | refine ⟨Nat.le_trans (Nat.le_of_ble_eq_true rfl : _ ≤ 50) (by decide), ?_⟩ | refine ⟨_, _, _, _, rfl, rfl, upd_same, rfl, ?_⟩ | refine ⟨_, _, _, _, rfl, rfl, SqL.of upd_same, rfl, ?_⟩ | refine ⟨_, _, _, _, rfl, rfl, SqT.of upd_same, rfl, ?_⟩ | refine ⟨_, _, rfl, .inl (SqL.of upd_same), ?_⟩ | refine ⟨_, _, rfl, .inr (SqT.of upd_same), ?_⟩ | (refine' ⟨_, _, _, _, rfl, rfl, _, _, _⟩; rotate_left 2; (focus (first | assumption | exact SqL.of (by assumption) | exact SqT.of (by assumption) | exact Same.seq (by assumption) (by assumption))); (focus (exact rfl))) | (refine' ⟨_, _, rfl, _, _⟩; rotate_left 1; (focus (first | exact .inl (by assumption) | exact .inl (SqL.of (by assumption)) | exact .inr (by assumption) | exact .inr (SqT.of (by assumption)))))))
      refine ⟨H0, m, cd, S, L, r, a, w, pl, rfl, hm, hr2, hok.1, ?_⟩
      have hb0 : 0 ≤ behind S a w pl := by unfold behind; split; exact hok.2; omega
      have hj : (!decide (V.int (behind S a w pl) = V.int (S.at_ + 1))) = decide (behind S a w pl ≠ S.at_ + 1) := by simp
      change ∀ H', MAt T.c_Machine T.c_Predictor H0 H' m cd { S with at_ := behind S a w pl, js := S.js ++ [(S.at_, decide (behind S a w pl ≠ S.at_ + 1))], tn := S.tn + 1 } L → Q .non H' at h
      generalize behind S a w pl = f at hb0 hj h ⊢
      refine ⟨_, rfl, m, _, dx, _, _, rfl, o.get 0 rfl, T.cl_Machine, T.no_Machine_predictor, rfl, ?_⟩
      refine ⟨p, dp, _, rfl, o.get 4 rfl, rfl, ?_⟩
      refine ⟨_, rfl, m, _, dx, _, _, rfl, o.get 0 rfl, T.cl_Machine, T.no_Machine_at, rfl, ?_⟩
      refine ⟨_, rfl, _, rfl, m, _, dx, _, _, rfl, o.get 0 rfl, T.cl_Machine, T.no_Machine_at, rfl, ?_⟩
      refine ⟨_, _, rfl, rfl, ?_⟩
      refine ⟨rfl, ?_⟩
      refine ⟨p, dp, pm, S.js, S.at_, _, rfl, o.get 4 rfl, o.get 5 rfl, e4, fun H1 k1 hk1 => ?_⟩
      rw [hj] at hk1
      have o1 := o.set 5 rfl k1 hk1
      have fin : ∀ cy : Int, spShow T.c_Machine T.c_Predictor [.ref m, .int (-1), .int cy, .int f] H1 (fun _ H' => Q .non H') E0 := fun cy =>
        ⟨H0, m, cd, { S with js := S.js ++ [(S.at_, decide (f ≠ S.at_ + 1))] }, L, _, _, _, rfl, ⟨dx, mo, ce, wa, wt, t, ca, p, dp, pm, flag, clock, trs, e1, e2, e3, e4, o1⟩, htn, hb0, fun H' h' => h H' h'⟩
      refine ⟨_, rfl, ite2 (fun _ => ?_) (fun _ => ?_)⟩
      · (repeat (first | refine ⟨_, rfl, ?_⟩ | refine ⟨_, _, rfl, rfl, ?_⟩ | refine ⟨rfl, ?_⟩ | refine .inl ⟨_, rfl, ?_⟩ | refine .inr ⟨_, rfl, ?_⟩ | refine ⟨.inr ⟨by decide, by decide⟩, ?_⟩ | refine ⟨⟨by decide, by decide⟩, ?_⟩ | refine ⟨⟨by decide, by decide, by decide⟩, ?_⟩ | refine ⟨.inr ⟨by omega, by omega⟩, ?_⟩ | refine ⟨(by show (0 : Int) < _; first | decide | omega), ?_⟩ | refine ⟨Nat.le_trans (Nat.le_of_ble_eq_true rfl : _ ≤ 50) (by decide), ?_⟩ | refine ⟨_, _, _, _, rfl, rfl, upd_same, rfl, ?_⟩ | refine ⟨_, _, _, _, rfl, rfl, SqL.of upd_same, rfl, ?_⟩ | refine ⟨_, _, _, _, rfl, rfl, SqT.of upd_same, rfl, ?_⟩ | refine ⟨_, _, rfl, .inl (SqL.of upd_same), ?_⟩ | refine ⟨_, _, rfl, .inr (SqT.of upd_same), ?_⟩ | (refine' ⟨_, _, _, _, rfl, rfl, _, _, _⟩; rotate_left 2; (focus (first | assumption | exact SqL.of (by assumption) | exact SqT.of (by assumption) | exact Same.seq (by assumption) (by assumption))); (focus (exact rfl))) | (refine' ⟨_, _, rfl, _, _⟩; rotate_left 1; (focus (first | exact .inl (by assumption) | exact .inl (SqL.of (by assumption)) | exact .inr (by assumption) | exact .inr (SqT.of (by assumption)))))))
        refine ⟨m, dx, _, rfl, o1.get 0 rfl, rfl, ?_⟩
        (repeat (first | refine ⟨_, rfl, ?_⟩ | refine ⟨_, _, rfl, rfl, ?_⟩ | refine ⟨rfl, ?_⟩ | refine .inl ⟨_, rfl, ?_⟩ | refine .inr ⟨_, rfl, ?_⟩ | refine ⟨.inr ⟨by decide, by decide⟩, ?_⟩ | refine ⟨⟨by decide, by decide⟩, ?_⟩ | refine ⟨⟨by decide, by decide, by decide⟩, ?_⟩ | refine ⟨.inr ⟨by omega, by omega⟩, ?_⟩ | refine ⟨(by show (0 : Int) < _; first | decide | omega), ?_⟩ | refine ⟨Nat.le_trans (Nat.le_of_ble_eq_true rfl : _ ≤ 50) (by decide), ?_⟩ | refine ⟨_, _, _, _, rfl, rfl, upd_same, rfl, ?_⟩ | refine ⟨_, _, _, _, rfl, rfl, SqL.of upd_same, rfl, ?_⟩ | refine ⟨_, _, _, _, rfl, rfl, SqT.of upd_same, rfl, ?_⟩ | refine ⟨_, _, rfl, .inl (SqL.of upd_same), ?_⟩ | refine ⟨_, _, rfl, .inr (SqT.of upd_same), ?_⟩ | (refine' ⟨_, _, _, _, rfl, rfl, _, _, _⟩; rotate_left 2; (focus (first | assumption | exact SqL.of (by assumption) | exact SqT.of (by assumption) | exact Same.seq (by assumption) (by assumption))); (focus (exact rfl))) | (refine' ⟨_, _, rfl, _, _⟩; rotate_left 1; (focus (first | exact .inl (by assumption) | exact .inl (SqL.of (by assumption)) | exact .inr (by assumption) | exact .inr (SqT.of (by assumption)))))))
        exact fin _
      · (repeat (first | refine ⟨_, rfl, ?_⟩ | refine ⟨_, _, rfl, rfl, ?_⟩ | refine ⟨rfl, ?_⟩ | refine .inl ⟨_, rfl, ?_⟩ | refine .inr ⟨_, rfl, ?_⟩ | refine ⟨.inr ⟨by decide, by decide⟩, ?_⟩ | refine ⟨⟨by decide, by decide⟩, ?_⟩ | refine ⟨⟨by decide, by decide, by decide⟩, ?_⟩ | refine ⟨.inr ⟨by omega, by omega⟩, ?_⟩ | refine ⟨(by show (0 : Int) < _; first | decide | omega), ?_⟩ | refine ⟨Nat.le_trans (Nat.le_of_ble_eq_true rfl : _ ≤ 50) (by decide), ?_⟩ | refine ⟨_, _, _, _, rfl, rfl, upd_same, rfl, ?_⟩ | refine ⟨_, _, _, _, rfl, rfl, SqL.of upd_same, rfl, ?_⟩ | refine ⟨_, _, _, _, rfl, rfl, SqT.of upd_same, rfl, ?_⟩ | refine ⟨_, _, rfl, .inl (SqL.of upd_same), ?_⟩ | refine ⟨_, _, rfl, .inr (SqT.of upd_same), ?_⟩ | (refine' ⟨_, _, _, _, rfl, rfl, _, _, _⟩; rotate_left 2; (focus (first | assumption | exact SqL.of (by assumption) | exact SqT.of (by assumption) | exact Same.seq (by assumption) (by assumption))); (focus (exact rfl))) | (refine' ⟨_, _, rfl, _, _⟩; rotate_left 1; (focus (first | exact .inl (by assumption) | exact .inl (SqL.of (by assumption)) | exact .inr (by assumption) | exact .inr (SqT.of (by assumption)))))))
        refine ⟨m, dx, _, rfl, o1.get 0 rfl, rfl, ?_⟩
        (repeat (first | refine ⟨_, rfl, ?_⟩ | refine ⟨_, _, rfl, rfl, ?_⟩ | refine ⟨rfl, ?_⟩ | refine .inl ⟨_, rfl, ?_⟩ | refine .inr ⟨_, rfl, ?_⟩ | refine ⟨.inr ⟨by decide, by decide⟩, ?_⟩ | refine ⟨⟨by decide, by decide⟩, ?_⟩ | refine ⟨⟨by decide, by decide, by decide⟩, ?_⟩ | refine ⟨.inr ⟨by omega, by omega⟩, ?_⟩ | refine ⟨(by show (0 : Int) < _; first | decide | omega), ?_⟩ | refine ⟨Nat.le_trans (Nat.le_of_ble_eq_true rfl : _ ≤ 50) (by decide), ?_⟩ | refine ⟨_, _, _, _, rfl, rfl, upd_same, rfl, ?_⟩ | refine ⟨_, _, _, _, rfl, rfl, SqL.of upd_same, rfl, ?_⟩ | refine ⟨_, _, _, _, rfl, rfl, SqT.of upd_same, rfl, ?_⟩ | refine ⟨_, _, rfl, .inl (SqL.of upd_same), ?_⟩ | refine ⟨_, _, rfl, .inr (SqT.of upd_same), ?_⟩ | (refine' ⟨_, _, _, _, rfl, rfl, _, _, _⟩; rotate_left 2; (focus (first | assumption | exact SqL.of (by assumption) | exact SqT.of (by assumption) | exact Same.seq (by assumption) (by assumption))); (focus (exact rfl))) | (refine' ⟨_, _, rfl, _, _⟩; rotate_left 1; (focus (first | exact .inl (by assumption) | exact .inl (SqL.of (by assumption)) | exact .inr (by assumption) | exact .inr (SqT.of (by assumption)))))))
        exact fin _
    | call pl =>
      (repeat (first | refine ⟨_, rfl, ?_⟩ | refine ⟨_, _, rfl, rfl, ?_⟩ | refine ⟨rfl, ?_⟩ | refine .inl ⟨_, rfl, ?_⟩ | refine .inr ⟨_, rfl, ?_⟩ | refine ⟨.inr ⟨by decide, by decide⟩, ?_⟩ | refine ⟨⟨by decide, by decide⟩, ?_⟩ | refine ⟨⟨by decide, by decide, by decide⟩, ?_⟩ | refine ⟨.inr ⟨by omega, by omega⟩, ?_⟩ | refine ⟨(by show (0 : Int) < _; first | decide | omega), ?_⟩ | refine ⟨Nat.le_trans (Nat.le_of_ble_eq_true rfl : _ ≤ 50) (by decide), ?_⟩ | refine ⟨_, _, _, _, rfl, rfl, upd_same, rfl, ?_⟩ | refine ⟨_, _, _, _, rfl, rfl, SqL.of upd_same, rfl, ?_⟩ | refine ⟨_, _, _, _, rfl, rfl, SqT.of upd_same, rfl, ?_⟩ | refine ⟨_, _, rfl, .inl (SqL.of upd_same), ?_⟩ | refine ⟨_, _, rfl, .inr (SqT.of upd_same), ?_⟩ | (refine' ⟨_, _, _, _, rfl, rfl, _, _, _⟩; rotate_left 2; (focus (first | assumption | exact SqL.of (by assumption) | exact SqT.of (by assumption) | exact Same.seq (by assumption) (by assumption))); (focus (exact rfl))) | (refine' ⟨_, _, rfl, _, _⟩; rotate_left 1; (focus (first | exact .inl (by assumption) | exact .inl (SqL.of (by assumption)) | exact .inr (by assumption) | exact .inr (SqT.of (by assumption)))))))
      refine ⟨"call", 2, rfl, by decide +kernel, ?_⟩
      (repeat (first | refine ⟨_, rfl, ?_⟩ | refine ⟨_, _, rfl, rfl, ?_⟩ | refine ⟨rfl, ?_⟩ | refine .inl ⟨_, rfl, ?_⟩ | refine .inr ⟨_, rfl, ?_⟩ | refine ⟨.inr ⟨by decide, by decide⟩, ?_⟩ | refine ⟨⟨by decide, by decide⟩, ?_⟩ | refine ⟨⟨by decide, by decide, by decide⟩, ?_⟩ | refine ⟨.inr ⟨by omega, by omega⟩, ?_⟩ | refine ⟨(by show (0 : Int) < _; first | decide | omega), ?_⟩ | refine ⟨Nat.le_trans (Nat.le_of_ble_eq_true rfl : _ ≤ 50) (by decide), ?_⟩ | refine ⟨_, _, _, _, rfl, rfl, upd_same, rfl, ?_⟩ | refine ⟨_, _, _, _, rfl, rfl, SqL.of upd_same, rfl, ?_⟩ | refine ⟨_, _, _, _, rfl, rfl, SqT.of upd_same, rfl, ?_⟩ | refine ⟨_, _, rfl, .inl (SqL.of upd_same), ?_⟩ | refine ⟨_, _, rfl, .inr (SqT.of upd_same), ?_⟩ | (refine' ⟨_, _, _, _, rfl, rfl, _, _, _⟩; rotate_left 2; (focus (first | assumption | exact SqL.of (by assumption) | exact SqT.of (by assumption) | exact Same.seq (by assumption) (by assumption))); (focus (exact rfl))) | (refine' ⟨_, _, rfl, _, _⟩; rotate_left 1; (focus (first | exact .inl (by assumption) | exact .inl (SqL.of (by assumption)) | exact .inr (by assumption) | exact .inr (SqT.of (by assumption)))))))
      refine ⟨m, _, dx, _, _, rfl, o.get 0 rfl, T.cl_Machine, T.no_Machine_at, rfl, ?_⟩
      (repeat (first | refine ⟨_, rfl, ?_⟩ | refine ⟨_, _, rfl, rfl, ?_⟩ | refine ⟨rfl, ?_⟩ | refine .inl ⟨_, rfl, ?_⟩ | refine .inr ⟨_, rfl, ?_⟩ | refine ⟨.inr ⟨by decide, by decide⟩, ?_⟩ | refine ⟨⟨by decide, by decide⟩, ?_⟩ | refine ⟨⟨by decide, by decide, by decide⟩, ?_⟩ | refine ⟨.inr ⟨by omega, by omega⟩, ?_⟩ | refine ⟨(by show (0 : Int) < _; first | decide | omega), ?_⟩ | refine ⟨Nat.le_trans (Nat.le_of_ble_eq_true rfl : _ ≤ 50) (by decide), ?_⟩ | refine ⟨_, _, _, _, rfl, rfl, upd_same, rfl, ?_⟩ | refine ⟨_, _, _, _, rfl, rfl, SqL.of upd_same, rfl, ?_⟩ | refine ⟨_, _, _, _, rfl, rfl, SqT.of upd_same, rfl, ?_⟩ | refine ⟨_, _, rfl, .inl (SqL.of upd_same), ?_⟩ | refine ⟨_, _, rfl, .inr (SqT.of upd_same), ?_⟩ | (refine' ⟨_, _, _, _, rfl, rfl, _, _, _⟩; rotate_left 2; (focus (first | assumption | exact SqL.of (by assumption) | exact SqT.of (by assumption) | exact Same.seq (by assumption) (by assumption))); (focus (exact rfl))) | (refine' ⟨_, _, rfl, _, _⟩; rotate_left 1; (focus (first | exact .inl (by assumption) | exact .inl (SqL.of (by assumption)) | exact .inr (by assumption) | exact .inr (SqT.of (by assumption)))))))
      refine ⟨m, _, dx, _, _, rfl, o.get 0 rfl, T.cl_Machine, T.no_Machine_waiting, rfl, ?_⟩
      refine ⟨_, _, rfl, .inl (SqL.of (o.get 2 rfl)), ?_⟩
      refine ⟨_, _, rfl, rfl, _, rfl, ite2 (fun e => ?_) (fun e => ?_)⟩
      · have e5 : S.wt.length ≥ 16 := by
          have := of_decide_eq_true e
          rw [List.length_map] at this
          omega
        change Out T.E_BadRun.C H E _ (if S.wt.length ≥ 16 then _ else _) at h
        rw [if_pos e5] at h
        exact mkO1_of (v := .str "depth") (by show Str.length _ ≤ 1000; decide +kernel) fun d G hd s1 eG => h d G hd s1 eG
      · have e5 : ¬ S.wt.length ≥ 16 := fun z => e (decide_eq_true (by rw [List.length_map]; omega))
        change Out T.E_BadRun.C H E _ (if S.wt.length ≥ 16 then _ else _) at h
        rw [if_neg e5] at h
        refine ⟨_, rfl, m, _, dx, _, _, rfl, o.get 0 rfl, T.cl_Machine, T.no_Machine_waiting, rfl, ?_⟩
        refine ⟨.inl ⟨rfl, _, SqL.of (o.get 2 rfl)⟩, ?_⟩
        refine ⟨_, rfl, m, _, dx, _, _, rfl, o.get 0 rfl, T.cl_Machine, T.no_Machine_at, rfl, ?_⟩
        refine ⟨_, _, rfl, rfl, ?_⟩
        refine ⟨wt, _, _, rfl, rfl, o.get 2 rfl, line5' (by rw [List.length_map]; omega), ?_⟩
        have o1 := o.put (o' := .lst (S.wt.map V.int ++ [.int (S.at_ + 1)])) 2 rfl
        have hr4 : (upd H wt (.lst (S.wt.map V.int ++ [.int (S.at_ + 1)]))) r = some (.tup (Ins.call pl).row) := o1.at_ (r, _) (mem6 hr2)
        refine ⟨_, rfl, r, _, _, _, rfl, rfl, SqT.of hr4, rfl, ?_⟩
        refine ⟨_, rfl, m, dx, _, rfl, o1.get 0 rfl, rfl, ?_⟩
        refine ⟨_, rfl, _, rfl, ?_⟩
        refine ⟨H0, m, cd, { S with wt := S.wt ++ [S.at_ + 1] }, L, _, _, _, rfl, ⟨dx, mo, ce, wa, wt, t, ca, p, dp, pm, flag, clock, trs, e1, e2, ?_, e4, ?_⟩, htn, hok, fun H' h' => h H' h'⟩
        · show (S.wt ++ [S.at_ + 1]).length ≤ 16
          rw [List.length_append]
          show _ + 1 ≤ 16
          omega
        · show Objs H0 _ (_ :: _ :: (wt, .lst ((S.wt ++ [S.at_ + 1]).map V.int)) :: _)
          rw [List.map_append]
          exact o1
    | ret =>
      (repeat (first | refine ⟨_, rfl, ?_⟩ | refine ⟨_, _, rfl, rfl, ?_⟩ | refine ⟨rfl, ?_⟩ | refine .inl ⟨_, rfl, ?_⟩ | refine .inr ⟨_, rfl, ?_⟩ | refine ⟨.inr ⟨by decide, by decide⟩, ?_⟩ | refine ⟨⟨by decide, by decide⟩, ?_⟩ | refine ⟨⟨by decide, by decide, by decide⟩, ?_⟩ | refine ⟨.inr ⟨by omega, by omega⟩, ?_⟩ | refine ⟨(by show (0 : Int) < _; first | decide | omega), ?_⟩ | refine ⟨Nat.le_trans (Nat.le_of_ble_eq_true rfl : _ ≤ 50) (by decide), ?_⟩ | refine ⟨_, _, _, _, rfl, rfl, upd_same, rfl, ?_⟩ | refine ⟨_, _, _, _, rfl, rfl, SqL.of upd_same, rfl, ?_⟩ | refine ⟨_, _, _, _, rfl, rfl, SqT.of upd_same, rfl, ?_⟩ | refine ⟨_, _, rfl, .inl (SqL.of upd_same), ?_⟩ | refine ⟨_, _, rfl, .inr (SqT.of upd_same), ?_⟩ | (refine' ⟨_, _, _, _, rfl, rfl, _, _, _⟩; rotate_left 2; (focus (first | assumption | exact SqL.of (by assumption) | exact SqT.of (by assumption) | exact Same.seq (by assumption) (by assumption))); (focus (exact rfl))) | (refine' ⟨_, _, rfl, _, _⟩; rotate_left 1; (focus (first | exact .inl (by assumption) | exact .inl (SqL.of (by assumption)) | exact .inr (by assumption) | exact .inr (SqT.of (by assumption)))))))
      refine ⟨"ret", 2, rfl, by decide +kernel, ?_⟩
      (repeat (first | refine ⟨_, rfl, ?_⟩ | refine ⟨_, _, rfl, rfl, ?_⟩ | refine ⟨rfl, ?_⟩ | refine .inl ⟨_, rfl, ?_⟩ | refine .inr ⟨_, rfl, ?_⟩ | refine ⟨.inr ⟨by decide, by decide⟩, ?_⟩ | refine ⟨⟨by decide, by decide⟩, ?_⟩ | refine ⟨⟨by decide, by decide, by decide⟩, ?_⟩ | refine ⟨.inr ⟨by omega, by omega⟩, ?_⟩ | refine ⟨(by show (0 : Int) < _; first | decide | omega), ?_⟩ | refine ⟨Nat.le_trans (Nat.le_of_ble_eq_true rfl : _ ≤ 50) (by decide), ?_⟩ | refine ⟨_, _, _, _, rfl, rfl, upd_same, rfl, ?_⟩ | refine ⟨_, _, _, _, rfl, rfl, SqL.of upd_same, rfl, ?_⟩ | refine ⟨_, _, _, _, rfl, rfl, SqT.of upd_same, rfl, ?_⟩ | refine ⟨_, _, rfl, .inl (SqL.of upd_same), ?_⟩ | refine ⟨_, _, rfl, .inr (SqT.of upd_same), ?_⟩ | (refine' ⟨_, _, _, _, rfl, rfl, _, _, _⟩; rotate_left 2; (focus (first | assumption | exact SqL.of (by assumption) | exact SqT.of (by assumption) | exact Same.seq (by assumption) (by assumption))); (focus (exact rfl))) | (refine' ⟨_, _, rfl, _, _⟩; rotate_left 1; (focus (first | exact .inl (by assumption) | exact .inl (SqL.of (by assumption)) | exact .inr (by assumption) | exact .inr (SqT.of (by assumption)))))))
      refine ⟨m, _, dx, _, _, rfl, o.get 0 rfl, T.cl_Machine, T.no_Machine_at, rfl, ?_⟩
      (repeat (first | refine ⟨_, rfl, ?_⟩ | refine ⟨_, _, rfl, rfl, ?_⟩ | refine ⟨rfl, ?_⟩ | refine .inl ⟨_, rfl, ?_⟩ | refine .inr ⟨_, rfl, ?_⟩ | refine ⟨.inr ⟨by decide, by decide⟩, ?_⟩ | refine ⟨⟨by decide, by decide⟩, ?_⟩ | refine ⟨⟨by decide, by decide, by decide⟩, ?_⟩ | refine ⟨.inr ⟨by omega, by omega⟩, ?_⟩ | refine ⟨(by show (0 : Int) < _; first | decide | omega), ?_⟩ | refine ⟨Nat.le_trans (Nat.le_of_ble_eq_true rfl : _ ≤ 50) (by decide), ?_⟩ | refine ⟨_, _, _, _, rfl, rfl, upd_same, rfl, ?_⟩ | refine ⟨_, _, _, _, rfl, rfl, SqL.of upd_same, rfl, ?_⟩ | refine ⟨_, _, _, _, rfl, rfl, SqT.of upd_same, rfl, ?_⟩ | refine ⟨_, _, rfl, .inl (SqL.of upd_same), ?_⟩ | refine ⟨_, _, rfl, .inr (SqT.of upd_same), ?_⟩ | (refine' ⟨_, _, _, _, rfl, rfl, _, _, _⟩; rotate_left 2; (focus (first | assumption | exact SqL.of (by assumption) | exact SqT.of (by assumption) | exact Same.seq (by assumption) (by assumption))); (focus (exact rfl))) | (refine' ⟨_, _, rfl, _, _⟩; rotate_left 1; (focus (first | exact .inl (by assumption) | exact .inl (SqL.of (by assumption)) | exact .inr (by assumption) | exact .inr (SqT.of (by assumption)))))))
      refine ⟨m, _, dx, _, _, rfl, o.get 0 rfl, T.cl_Machine, T.no_Machine_waiting, rfl, ?_⟩
      refine ⟨_, _, rfl, .inl (SqL.of (o.get 2 rfl)), ?_⟩
      refine ⟨_, _, rfl, rfl, _, rfl, ite2 (fun e => ?_) (fun e => ?_)⟩
      · have e5 : 0 < S.wt.length := by
          have := of_decide_eq_true e
          rw [List.length_map] at this
          omega
        change Out T.E_BadRun.C H E _ (if 0 < S.wt.length then _ else _) at h
        rw [if_pos e5] at h
        refine ⟨_, rfl, m, _, dx, _, _, rfl, o.get 0 rfl, T.cl_Machine, T.no_Machine_waiting, rfl, ?_⟩
        have hl : S.wt.length - 1 < S.wt.length := by omega
        have hlast : S.wt.getD (S.wt.length - 1) 0 = S.wt[S.wt.length - 1] := by rw [List.getD_eq_getElem?_getD, List.getElem?_eq_getElem hl]; rfl
        refine ⟨.inl ⟨rfl, _, SqL.of (o.get 2 rfl)⟩, wt, _, .int (S.wt.getD (S.wt.length - 1) 0), rfl, rfl, o.get 2 rfl, ?_, ?_⟩
        · rw [List.length_map, List.getElem?_map, List.getElem?_eq_getElem hl, hlast]
          rfl
        have o1 := o.put (o' := .lst ((S.wt.map V.int).dropLast)) 2 rfl
        refine ⟨_, rfl, m, dx, _, rfl, o1.get 0 rfl, rfl, ?_⟩
        refine ⟨_, rfl, _, rfl, ?_⟩
        refine ⟨H0, m, cd, { S with wt := S.wt.dropLast }, L, _, _, _, rfl, ⟨dx, mo, ce, wa, wt, t, ca, p, dp, pm, flag, clock, trs, e1, e2, ?_, e4, ?_⟩, htn, ?_, fun H' h' => h H' h'⟩
        · show S.wt.dropLast.length ≤ 16
          rw [List.length_dropLast]
          omega
        · show Objs H0 _ (_ :: _ :: (wt, .lst (S.wt.dropLast.map V.int)) :: _)
          rw [List.map_dropLast]
          exact o1
        · rw [hlast]
          exact hwt _ (List.getElem_mem hl)
      · have e5 : ¬ 0 < S.wt.length := fun z => e (decide_eq_true (by rw [List.length_map]; omega))
        change Out T.E_BadRun.C H E _ (if 0 < S.wt.length then _ else _) at h
        rw [if_neg e5] at h
        refine ⟨_, rfl, m, _, dx, _, rfl, o.get 0 rfl, T.cl_Machine, T.no_Machine_over, Nat.le_of_ble_eq_true rfl, ?_⟩
        have o1 : Objs H0 (upd H m (.ins T.c_Machine dx (putF "over" (.bl true) (mf cd mo ce wa wt t ca p flag S.at_ clock S.over)))) ((m, .ins T.c_Machine dx (mf cd mo ce wa wt t ca p flag S.at_ clock true)) :: _) := o.put 0 rfl
        refine ⟨_, rfl, m, dx, _, rfl, o1.get 0 rfl, rfl, ?_⟩
        refine ⟨_, rfl, _, rfl, ?_⟩
        exact ⟨H0, m, cd, { S with over := true }, L, _, _, _, rfl, ⟨dx, mo, ce, wa, wt, t, ca, p, dp, pm, flag, clock, trs, e1, e2, e3, e4, o1⟩, htn, e4, fun H' h' => h H' h'⟩
end
end K32

set_option Elab.async false
set_option linter.all false
set_option maxRecDepth 100000
set_option maxHeartbeats 4000000
namespace K32
open PySem PySem.Spec PyProof.Rows L2 QX Lw GxR
theorem Rz.mono {C : Addr} {r : Str} {H H1 : Hp} {E : XK} (h : Rz C r H E) (s : Same H H1) : Rz C r H1 E := fun d G hd k e => h d G (s.free hd) (fun b o hb => k b o (s b o hb)) e
theorem Out.mono {α : Type} {C : Addr} {H H1 : Hp} {E : XK} {q q' : α → Prop} {x : Except Str α} (h : Out C H E q x) (s : Same H H1) (k : ∀ a, q a → q' a) : Out C H1 E q' x := by
  cases x with
  | ok a => exact k a h
  | error r => exact Rz.mono h s
theorem MAt.mono {C CP : Addr} {H0 H H1 : Hp} {m cd : Addr} {S : MS} {L : List (Addr × HO)} (h : MAt C CP H0 H m cd S L) (s : Same H H1) : MAt C CP H0 H1 m cd S L := by
  obtain ⟨dx, mo, ce, wa, wt, t, ca, p, dp, pm, flag, clock, trs, e1, e2, e3, e4, o⟩ := h
  exact ⟨dx, mo, ce, wa, wt, t, ca, p, dp, pm, flag, clock, trs, e1, e2, e3, e4, o.mono s⟩
structure CodeAt (L : List (Addr × HO)) (cd : Addr) (code : List Ins) : Prop where
  ex : ∃ rs : List Addr, (cd, HO.tup (rs.map V.ref)) ∈ L ∧ rs.length = code.length ∧ ∀ (i : Nat) (ins : Ins), code[i]? = some ins → ∃ r, rs[i]? = some r ∧ (r, HO.tup ins.row) ∈ L
  ok : ∀ ins ∈ code, ins.ok
def stepM (S : MS) (code : List Ins) : Except Str (Bool × MS) :=
  if S.over = true then .ok (false, S) else match code[S.at_.toNat]? with
    | some i => (goesM S i).map fun S' => (true, S')
    | none => .error "place"
def spStep (C CP B : Addr) : Sp := fun vs H Q E => ∃ H0 m cd S L code, vs = [.ref m] ∧ MAt C CP H0 H m cd S L ∧ CodeAt L cd code ∧ S.tn ≤ 100000 ∧ Wts S ∧ Out B H E (fun x : Bool × MS => ∀ H', MAt C CP H0 H' m cd x.2 L → Q (.bl x.1) H') (stepM S code)
def Ins.nm : Ins → Str
  | .set _ _ => "set"
  | .halt => "halt"
  | .jump _ => "jump"
  | .below _ _ _ => "below"
  | .call _ => "call"
  | .ret => "ret"
def leaves : List Str := ["jump", "below", "call", "ret", "halt"]
theorem row0 (i : Ins) : atI i.row 0 = some (.str i.nm) := by cases i <;> rfl
theorem no_mem (i : Ins) : inV (.str i.nm) [V.str "load", .str "store"] = false := by
  cases i with
  | set a w => exact (by decide +kernel : inV (.str "set") [V.str "load", .str "store"] = false)
  | halt => exact (by decide +kernel : inV (.str "halt") [V.str "load", .str "store"] = false)
  | jump p => exact (by decide +kernel : inV (.str "jump") [V.str "load", .str "store"] = false)
  | below a w p => exact (by decide +kernel : inV (.str "below") [V.str "load", .str "store"] = false)
  | call p => exact (by decide +kernel : inV (.str "call") [V.str "load", .str "store"] = false)
  | ret => exact (by decide +kernel : inV (.str "ret") [V.str "load", .str "store"] = false)
theorem is_set (i : Ins) (h : inV (.str i.nm) (leaves.map V.str) = false) : ∃ a w, i = .set a w := by
  cases i with
  | set a w => exact ⟨a, w, rfl⟩
  | halt => exact absurd (show inV (.str "halt") (leaves.map V.str) = true by decide +kernel) (by rw [show inV (.str "halt") (leaves.map V.str) = false from h]; decide)
  | jump p => exact absurd (show inV (.str "jump") (leaves.map V.str) = true by decide +kernel) (by rw [show inV (.str "jump") (leaves.map V.str) = false from h]; decide)
  | below a w p => exact absurd (show inV (.str "below") (leaves.map V.str) = true by decide +kernel) (by rw [show inV (.str "below") (leaves.map V.str) = false from h]; decide)
  | call p => exact absurd (show inV (.str "call") (leaves.map V.str) = true by decide +kernel) (by rw [show inV (.str "call") (leaves.map V.str) = false from h]; decide)
  | ret => exact absurd (show inV (.str "ret") (leaves.map V.str) = true by decide +kernel) (by rw [show inV (.str "ret") (leaves.map V.str) = false from h]; decide)
theorem not_set {i : Ins} (h : inV (.str i.nm) (leaves.map V.str) = true) : ∀ a w, i ≠ .set a w := by
  rintro a w rfl
  have e : inV (.str "set") (leaves.map V.str) = false := by decide +kernel
  have h : inV (.str "set") (leaves.map V.str) = true := h
  rw [e] at h
  cases h
def spNo : Sp := fun _ _ _ _ => False
def spLend : Sp := fun vs H Q _ => ∃ l, vs = [.ref l] ∧ H l = some (.tup []) ∧ Q (.int 0) H
def spMosts : Sp := fun vs H Q _ => ∃ l, vs = [.ref l] ∧ H l = some (.tup []) ∧ ∀ p H', Same H H' → H p = none → H' p = some (.lst []) → Q (.ref p) H'
def spIsMem (P : Addr) : Sp := fun vs H Q _ => ∃ l a, vs = [.ref l, .ref a] ∧ H l = some (.tup []) ∧ H a = some (.lst []) ∧ TabG H P ∧ ∀ H', Tabbed P H H' → Q (.bl true) H'
theorem tab_keep {H H' : Hp} {a P : Addr} {o : HO} (e : H a = some o) (hn : ∀ q, o ≠ .tbl q) (g : TabG H P) (t : Tabbed P H H') : H' a = some o := by
  obtain ⟨ps, gp, _⟩ := g
  rw [t.2 a (fun z => by rw [z, gp] at e; cases e; exact hn _ rfl)]
  exact e
section
variable {P : Program} {w : World} {K : PySem.W.Frag} {mg : Str → Option Value} {base : Heap}
theorem ok_step (T : Tx P w K mg) (G_BadRun : FnOk P w K mg base CX0 1 T.E_BadRun.f T.E_BadRun.fd ["self", "reason"] (spI1 T.E_BadRun.C "reason")) :
    FnOk P w K mg base (L2.CX P w) 4 T.a_Machine_step T.d_Machine_step ["self"] (spStep T.c_Machine T.c_Predictor T.E_BadRun.C) := by
  have G_base_cycles : FnOk P w K mg base CX0 1 T.a_base_cycles T.d_base_cycles ["name"] spBase := ok_base T
  have G_Machine_show : FnOk P w K mg base CX0 1 T.a_Machine_show T.d_Machine_show ["self", "address", "cycles", "following"] (spShow T.c_Machine T.c_Predictor) := ok_show T
  have G_Machine_leave : FnOk P w K mg base (L2.CX P w) 3 T.a_Machine_leave T.d_Machine_leave ["self", "instruction"] (spLeave T.c_Machine T.c_Predictor T.E_BadRun.C) := ok_leave T G_BadRun
  have G_Machine_compute : FnOk P w K mg base CX0 2 T.a_Machine_compute T.d_Machine_compute ["self", "instruction"] (spCompute T.c_Machine T.c_Predictor) := ok_compute T
  refine T.F_Machine_step.okX sc_Machine_step (fun vs H Q E h => ?_) (fun cdv A outer s H vs Q E hr h => ?_)
  · obtain ⟨H0, m, cd, S, L, code, rfl, _⟩ := h
    rfl
  · obtain ⟨H0, m, cd, S, L, code, rfl, hm, hcd, htn, hwt, h⟩ := h
    obtain ⟨dx, mo, ce, wa, wt, t, ca, p, dp, pm, flag, clock, trs, e1, e2, e3, e4, o⟩ := id hm
    have hr_base_cycles : Room 1 _ := hr.mono (by decide)
    have hr_Machine_show : Room 1 _ := hr.mono (by decide)
    have hr_Machine_compute : Room 2 _ := hr.mono (by decide)
    have hr_Machine_leave : Room 3 _ := hr
    have hr_BadRun : Room 2 _ := hr.mono (by decide)
    refine ⟨_, (pss_cons (ps_if (pt_val (pe_fld (pv 0) rfl))
        (pss_one (ps_ret pe_bl))
        pss_nil)
        (pss_cons (ps_if (pt_cmpR op_ge (pe_fld (pv 0) rfl) (pe_callB call_len_seq (by rfl) T.z_len (by decide +kernel) (pa_cons (pe_fld (pv 0) rfl) pa_nil)) (nomark _))
        (pss_one (ps_raise rfl (takes_of rfl rfl rfl rfl) (pmk_oex T.E_BadRun.S.ox T.E_BadRun.ini T.E_BadRun.tI G_BadRun hr_BadRun T.E_BadRun.b .nil pass0 (by rfl) T.E_BadRun.g (pa_cons pe_str pa_nil))))
        pss_nil)
        (pss_cons (ps_set (i := 1) sc_Machine_step.nd rfl (.inl rfl) (pe_ix ix_tup (pe_fld (pv 0) rfl) (pe_fld (pv 0) rfl) (fun _ _ => rfl)))
        (pss_cons (ps_set (i := 2) sc_Machine_step.nd rfl (.inl rfl) (pe_ix ix_tup (pv 1) pe_int (fun _ _ => rfl)))
        (pss_cons (ps_if (pt_cmpR op_in_seq (pv 2) (pe_tup (pa_cons pe_str (pa_cons pe_str pa_nil))) (by rfl))
        (pss_one ps_never)
        (pss_one (ps_if (pt_cmpR op_in_seq (pv 2) (pe_glob rfl T.g_LEAVES T.r_LEAVES) (by rfl))
        (pss_one (ps_expr (pe_meth (pv 0) T.cl_Machine T.m_Machine_leave G_Machine_leave hr_Machine_leave T.b_Machine_leave .nil passE (pa_cons (pv 1) pa_nil))))
        (pss_one (ps_if (pt_cmpR op_eq (pv 2) pe_str (nomark _))
        (pss_cons (ps_fld (pv 0) pe_int rfl)
        (pss_one (ps_expr (pe_meth (pv 0) T.cl_Machine T.m_Machine_show G_Machine_show hr_Machine_show T.b_Machine_show .nil pass0 (pa_cons (pe_glob rfl T.g_NO_ADDRESS T.r_NO_ADDRESS) (pa_cons (pe_call G_base_cycles hr_base_cycles (by rfl) T.g_base_cycles T.F_base_cycles.kp T.b_base_cycles .nil pass0 (pa_cons (pv 2) pa_nil)) (pa_cons (pe_op op_add (pe_fld (pv 0) rfl) pe_int) pa_nil)))))))
        (pss_one (ps_expr (pe_meth (pv 0) T.cl_Machine T.m_Machine_compute G_Machine_compute hr_Machine_compute T.b_Machine_compute .nil pass0 (pa_cons (pv 1) pa_nil)))))))))
        (pss_one (ps_ret pe_bl))))))), ?_⟩
    refine ⟨_, rfl, m, _, dx, _, _, rfl, o.get 0 rfl, T.cl_Machine, T.no_Machine_over, rfl, ?_⟩
    unfold stepM at h
    cases hov : S.over
    · rw [hov, if_neg (by decide)] at h
      refine ⟨_, rfl, iteF ?_⟩
      obtain ⟨rs, hrs, hrl, hri⟩ := hcd.ex
      refine ⟨_, rfl, m, _, dx, _, _, rfl, o.get 0 rfl, T.cl_Machine, T.no_Machine_at, rfl, ?_⟩
      have hcode : H cd = some (.tup (rs.map V.ref)) := o.at_ (cd, _) (mem6 hrs)
      refine ⟨_, rfl, m, _, dx, _, _, rfl, o.get 0 rfl, T.cl_Machine, T.no_Machine_code, rfl, ?_⟩
      refine ⟨_, _, rfl, .inr (SqT.of hcode), ?_⟩
      refine ⟨_, _, rfl, rfl, _, rfl, ite2 (fun e => ?_) (fun e => ?_)⟩
      · have e5 : code.length ≤ S.at_.toNat := by
          have := of_decide_eq_true e
          rw [List.length_map] at this
          omega
        rw [List.getElem?_eq_none e5] at h
        exact mkO1_of (v := .str "place") (by show Str.length _ ≤ 1000; decide +kernel) fun d G hd s1 eG => h d G hd s1 eG
      · have e5 : S.at_.toNat < code.length := by
          have : ¬ ((rs.map V.ref).length : Int) ≤ S.at_ := fun z => e (decide_eq_true z)
          rw [List.length_map] at this
          omega
        rw [List.getElem?_eq_getElem e5] at h
        obtain ⟨r, hr1, hr2⟩ := hri _ _ (List.getElem?_eq_getElem e5)
        have hok := hcd.ok _ (List.getElem_mem e5)
        generalize code[S.at_.toNat] = i at h hr2 hok
        change Out _ _ _ _ (Except.map (fun S' => (true, S')) (goesM S i)) at h
        have hr3 : H r = some (.tup i.row) := o.at_ (r, _) (mem6 hr2)
        refine ⟨_, rfl, m, _, dx, _, _, rfl, o.get 0 rfl, T.cl_Machine, T.no_Machine_code, rfl, ?_⟩
        refine ⟨_, rfl, m, _, dx, _, _, rfl, o.get 0 rfl, T.cl_Machine, T.no_Machine_at, rfl, ?_⟩
        have hat : atI (rs.map V.ref) S.at_ = some (.ref r) := by
          rw [show S.at_ = ((S.at_.toNat : Nat) : Int) by omega]
          exact atI_nat (by rw [List.getElem?_map, hr1]; rfl)
        refine ⟨cd, _, _, _, rfl, rfl, SqT.of hcode, hat, ?_⟩
        refine ⟨_, rfl, r, _, _, _, rfl, rfl, SqT.of hr3, row0 i, ?_⟩
        refine ⟨_, rfl, Nat.le_of_ble_eq_true rfl, fun tp htp => ?_⟩
        have hm1 := hm.mono (same_upd (o := .tup [.str "load", .str "store"]) htp)
        obtain ⟨dx, mo, ce, wa, wt, t, ca, p, dp, pm, flag, clock, trs, f1, f2, f3, f4, o1⟩ := id hm1
        refine ⟨tp, _, rfl, .inr (SqT.of upd_same), rfl, by decide, ?_⟩
        rw [if_neg (by decide)]
        refine ⟨_, rfl, ?_⟩
        rw [no_mem i]
        refine iteF ?_
        have hlv : SqT K (upd H tp (.tup [.str "load", .str "store"])) T.c_LEAVES (leaves.map V.str) := KDx.tupB_ok T.kitlv (by decide)
        refine ⟨_, rfl, T.c_LEAVES, _, rfl, .inr hlv, rfl, by decide, ?_⟩
        rw [if_neg (by decide)]
        refine ⟨_, rfl, ?_⟩
        cases hs : inV (.str i.nm) (leaves.map V.str)
        · obtain ⟨a, wd, rfl⟩ := is_set i hs
          refine iteF ?_
          (repeat (first | refine ⟨_, rfl, ?_⟩ | refine ⟨_, _, rfl, rfl, ?_⟩ | refine ⟨rfl, ?_⟩ | refine .inl ⟨_, rfl, ?_⟩ | refine .inr ⟨_, rfl, ?_⟩ | refine ⟨.inr ⟨by decide, by decide⟩, ?_⟩ | refine ⟨⟨by decide, by decide⟩, ?_⟩ | refine ⟨⟨by decide, by decide, by decide⟩, ?_⟩ | refine ⟨.inr ⟨by omega, by omega⟩, ?_⟩ | refine ⟨(by show (0 : Int) < _; first | decide | omega), ?_⟩ | refine ⟨Nat.le_trans (Nat.le_of_ble_eq_true rfl : _ ≤ 50) (by decide), ?_⟩ | refine ⟨_, _, _, _, rfl, rfl, upd_same, rfl, ?_⟩ | refine ⟨_, _, _, _, rfl, rfl, SqL.of upd_same, rfl, ?_⟩ | refine ⟨_, _, _, _, rfl, rfl, SqT.of upd_same, rfl, ?_⟩ | refine ⟨_, _, rfl, .inl (SqL.of upd_same), ?_⟩ | refine ⟨_, _, rfl, .inr (SqT.of upd_same), ?_⟩ | (refine' ⟨_, _, _, _, rfl, rfl, _, _, _⟩; rotate_left 2; (focus (first | assumption | exact SqL.of (by assumption) | exact SqT.of (by assumption) | exact Same.seq (by assumption) (by assumption))); (focus (exact rfl))) | (refine' ⟨_, _, rfl, _, _⟩; rotate_left 1; (focus (first | exact .inl (by assumption) | exact .inl (SqL.of (by assumption)) | exact .inr (by assumption) | exact .inr (SqT.of (by assumption)))))))
          refine ⟨m, dx, _, rfl, o1.get 0 rfl, rfl, ?_⟩
          refine ⟨_, rfl, ?_⟩
          exact ⟨H0, m, cd, S, L, r, a, wd, rfl, hm1, hr2, hok, htn, fun H' h' => h H' h'⟩
        · refine iteT ?_
          refine ⟨_, rfl, m, dx, _, rfl, o1.get 0 rfl, rfl, ?_⟩
          refine ⟨_, rfl, ?_⟩
          refine ⟨H0, m, cd, S, L, r, i, rfl, hm1, hr2, hok, not_set hs, htn, hwt, ?_⟩
          cases hg : goesM S i with
          | ok S' =>
            rw [hg] at h
            exact h
          | error rr =>
            rw [hg] at h
            exact Rz.mono h (same_upd htp)
    · rw [hov, if_pos rfl] at h
      refine ⟨_, rfl, iteT ?_⟩
      exact h H hm
theorem ok_rend (T : Tx P w K mg) : FnOk P w K mg base CX0 1 T.a_region_end T.d_region_end ["region"] spNo := by
  refine T.F_region_end.ok sc_region_end (fun vs H Q E h => h.elim) (fun cdv A outer s H vs Q E hr h => h.elim)
theorem ok_isint (T : Tx P w K mg) : FnOk P w K mg base CX0 1 T.a_is_integer T.d_is_integer ["value", "least", "greatest"] spNo := by
  refine T.F_is_integer.ok sc_is_integer (fun vs H Q E h => h.elim) (fun cdv A outer s H vs Q E hr h => h.elim)
theorem ok_lend (T : Tx P w K mg) : FnOk P w K mg base CX0 2 T.a_layout_end T.d_layout_end ["layout"] spLend := by
  refine T.F_layout_end.ok sc_layout_end (fun vs H Q E h => ?_) (fun cdv A outer s H vs Q E hr h => ?_)
  · obtain ⟨l, rfl, _⟩ := h
    rfl
  · obtain ⟨l, rfl, hl, q⟩ := h
    have G_region_end : FnOk P w K mg base CX0 1 T.a_region_end T.d_region_end ["region"] spNo := ok_rend T
    have hr_region_end : Room 1 _ := hr
    refine ⟨_, (pss_cons (ps_if (pt_cmpR op_eq (pe_callB call_len_seq (by rfl) T.z_len (by decide +kernel) (pa_cons (pv 0) pa_nil)) pe_int (nomark _))
        (pss_one (ps_ret pe_int))
        pss_nil)
        (pss_one (ps_ret (pe_call G_region_end hr_region_end (by rfl) T.g_region_end T.F_region_end.kp T.b_region_end .nil pass0 (pa_cons (pe_ix ix_tup (pv 0) (pe_un un_neg pe_int) (fun _ _ => rfl)) pa_nil))))), ?_⟩
    refine ⟨_, rfl, _, _, rfl, .inr (SqT.of hl), ?_⟩
    (repeat (first | refine ⟨_, rfl, ?_⟩ | refine ⟨_, _, rfl, rfl, ?_⟩ | refine ⟨rfl, ?_⟩ | refine .inl ⟨_, rfl, ?_⟩ | refine .inr ⟨_, rfl, ?_⟩ | refine ⟨.inr ⟨by decide, by decide⟩, ?_⟩ | refine ⟨⟨by decide, by decide⟩, ?_⟩ | refine ⟨⟨by decide, by decide, by decide⟩, ?_⟩ | refine ⟨.inr ⟨by omega, by omega⟩, ?_⟩ | refine ⟨(by show (0 : Int) < _; first | decide | omega), ?_⟩ | refine ⟨Nat.le_trans (Nat.le_of_ble_eq_true rfl : _ ≤ 50) (by decide), ?_⟩ | refine ⟨_, _, _, _, rfl, rfl, upd_same, rfl, ?_⟩ | refine ⟨_, _, _, _, rfl, rfl, SqL.of upd_same, rfl, ?_⟩ | refine ⟨_, _, _, _, rfl, rfl, SqT.of upd_same, rfl, ?_⟩ | refine ⟨_, _, rfl, .inl (SqL.of upd_same), ?_⟩ | refine ⟨_, _, rfl, .inr (SqT.of upd_same), ?_⟩ | (refine' ⟨_, _, _, _, rfl, rfl, _, _, _⟩; rotate_left 2; (focus (first | assumption | exact SqL.of (by assumption) | exact SqT.of (by assumption) | exact Same.seq (by assumption) (by assumption))); (focus (exact rfl))) | (refine' ⟨_, _, rfl, _, _⟩; rotate_left 1; (focus (first | exact .inl (by assumption) | exact .inl (SqL.of (by assumption)) | exact .inr (by assumption) | exact .inr (SqT.of (by assumption)))))))
    exact q
theorem ok_mosts (T : Tx P w K mg) : FnOk P w K mg base CX0 3 T.a_mosts_of T.d_mosts_of ["layout"] spMosts := by
  have G_layout_end : FnOk P w K mg base CX0 2 T.a_layout_end T.d_layout_end ["layout"] spLend := ok_lend T
  refine T.F_mosts_of.ok sc_mosts_of (fun vs H Q E h => ?_) (fun cdv A outer s H vs Q E hr h => ?_)
  · obtain ⟨l, rfl, _⟩ := h
    rfl
  · obtain ⟨l, rfl, hl, q⟩ := h
    have hr_layout_end : Room 2 _ := hr
    refine ⟨_, (pss_cons (ps_set (i := 1) sc_mosts_of.nd rfl (.inl rfl) (pe_op op_rep (pe_lst (pa_cons (pe_un un_neg pe_int) pa_nil)) (pe_call G_layout_end hr_layout_end (by rfl) T.g_layout_end T.F_layout_end.kp T.b_layout_end .nil pass0 (pa_cons (pv 0) pa_nil))))
        (pss_cons (ps_for PassesOwn.never rfl (pi_tup (pv 0)) (pg_name (i := 2) sc_mosts_of.nd rfl (.inl rfl))
        (pss_cons ps_never
        (pss_one ps_never)))
        (pss_one (ps_ret (pv 1))))), ?_⟩
    (repeat (first | refine ⟨_, rfl, ?_⟩ | refine ⟨_, _, rfl, rfl, ?_⟩ | refine ⟨rfl, ?_⟩ | refine .inl ⟨_, rfl, ?_⟩ | refine .inr ⟨_, rfl, ?_⟩ | refine ⟨.inr ⟨by decide, by decide⟩, ?_⟩ | refine ⟨⟨by decide, by decide⟩, ?_⟩ | refine ⟨⟨by decide, by decide, by decide⟩, ?_⟩ | refine ⟨.inr ⟨by omega, by omega⟩, ?_⟩ | refine ⟨(by show (0 : Int) < _; first | decide | omega), ?_⟩ | refine ⟨Nat.le_trans (Nat.le_of_ble_eq_true rfl : _ ≤ 50) (by decide), ?_⟩ | refine ⟨_, _, _, _, rfl, rfl, upd_same, rfl, ?_⟩ | refine ⟨_, _, _, _, rfl, rfl, SqL.of upd_same, rfl, ?_⟩ | refine ⟨_, _, _, _, rfl, rfl, SqT.of upd_same, rfl, ?_⟩ | refine ⟨_, _, rfl, .inl (SqL.of upd_same), ?_⟩ | refine ⟨_, _, rfl, .inr (SqT.of upd_same), ?_⟩ | (refine' ⟨_, _, _, _, rfl, rfl, _, _, _⟩; rotate_left 2; (focus (first | assumption | exact SqL.of (by assumption) | exact SqT.of (by assumption) | exact Same.seq (by assumption) (by assumption))); (focus (exact rfl))) | (refine' ⟨_, _, rfl, _, _⟩; rotate_left 1; (focus (first | exact .inl (by assumption) | exact .inl (SqL.of (by assumption)) | exact .inr (by assumption) | exact .inr (SqT.of (by assumption)))))))
    refine fun t ht => ?_
    refine ⟨_, rfl, l, rfl, same_upd ht _ _ hl, ?_⟩
    refine ⟨t, 0, _, rfl, rfl, upd_same, by decide, by decide, by show 1 * 0 ≤ _; omega, fun p hp => ?_⟩
    have s1 := (same_upd (o := .lst [.int (-1)]) ht).trans (same_upd (o := .lst []) hp)
    have hl2 := s1 _ _ hl
    refine ⟨_, rfl, l, rfl, ⟨_, SqT.of hl2⟩, for_it (walk_tup (K := K) (a := l) (xs := [])) (fun i σ H' => σ = [some (.ref l), some (.ref p), none, none, none, none, none] ∧ Same H H' ∧ H' p = some (.lst [])) ⟨rfl, s1, upd_same⟩ (fun i σ H' _ h => SqT.of (h.2.1 _ _ hl)) (fun i x σ H1 H2 hi => absurd hi (Nat.not_lt_zero _)) ?_⟩
    rintro σ H' ⟨rfl, s2, hp2⟩
    exact ⟨_, rfl, q p H' s2 ((same_upd ht).free hp) hp2⟩
theorem ok_ismem (T : Tx P w K mg) (B_is_memory : LamX.TabB base mg T.cc_is_memory T.P_is_memory) : FnOk P w K mg base CX0 4 T.a_is_memory T.d_is_memory ["layout", "value"] (spIsMem T.P_is_memory) := by
  have G_layout_end : FnOk P w K mg base CX0 2 T.a_layout_end T.d_layout_end ["layout"] spLend := ok_lend T
  have G_region_end : FnOk P w K mg base CX0 1 T.a_region_end T.d_region_end ["region"] spNo := ok_rend T
  have G_is_integer : FnOk P w K mg base CX0 1 T.a_is_integer T.d_is_integer ["value", "least", "greatest"] spNo := ok_isint T
  refine T.F_is_memory.ok sc_is_memory (fun vs H Q E h => ?_) (fun A outer s H vs Q E hr h => ?_)
  · obtain ⟨l, a, rfl, _⟩ := h
    rfl
  · obtain ⟨l, a, rfl, hl, ha, hT, q⟩ := h
    have hr_layout_end : Room 2 _ := hr.mono (by decide)
    have hr_region_end : Room 1 _ := hr.mono (by decide)
    have hr_is_integer : Room 1 _ := hr.mono (by decide)
    refine ⟨_, (pss_cons (ps_if (PW.pt (pw_or (pt_not (pt_val (pe_callB call_isi (by rfl) T.z_isinstance (by decide +kernel) (pa_cons (pv 1) (pa_cons (pe_bltn (v := .ty "list") (u := .type "list") (by rfl) T.z_list (by decide +kernel) rfl) pa_nil))))) (pw_or1 (pt_cmpR op_ne (pe_callB call_len_seq (by rfl) T.z_len (by decide +kernel) (pa_cons (pv 1) pa_nil)) (pe_call G_layout_end hr_layout_end (by rfl) T.g_layout_end T.F_layout_end.kp T.b_layout_end .nil pass0 (pa_cons (pv 0) pa_nil)) (nomark _)))))
        (pss_one (ps_ret pe_bl))
        pss_nil)
        (pss_cons (ps_if (pt_not (pt_val (GA.pe_all (own := [("word", 3)]) hr rfl sc_is_memory.nd (by rfl) T.z_all (by decide +kernel) B_is_memory rfl (pi_list (pv 1)) (GA.genOk_by (N := n_is_memory) (sc := defScope s_is_memory) (by decide +kernel)) (fun _ _ _ _ _ _ => pg_name (i := 3) sc_is_memory.nd rfl (Or.inl rfl)) (fun _ _ _ _ _ _ hr => have hr_is_integer : Room 1 _ := hr.mono (by decide); (pe_call G_is_integer hr_is_integer (by rfl) T.g_is_integer T.F_is_integer.kp T.b_is_integer .nil pass0 (pa_cons (pv 3) (pa_cons pe_int (pa_cons (pe_glob rfl T.g_GREATEST_WORD T.r_GREATEST_WORD) pa_nil))))))))
        (pss_one (ps_ret pe_bl))
        pss_nil)
        (pss_one (ps_ret (GA.pe_all (own := [("region", 2)]) hr rfl sc_is_memory.nd (by rfl) T.z_all (by decide +kernel) B_is_memory rfl (pi_tup (pv 0)) (GA.genOk_by (N := n_is_memory) (sc := defScope s_is_memory) (by decide +kernel)) (fun _ _ _ _ _ _ => pg_name (i := 2) sc_is_memory.nd rfl (Or.inl rfl)) (fun _ _ _ _ _ _ hr => have hr_region_end : Room 1 _ := hr.mono (by decide); Fl.pe_no)))))), ?_⟩
    refine ⟨_, rfl, _, _, _, _, true, rfl, .ty "list", .base (.lst ha), kit_ty (by decide +kernel), ?_⟩
    (repeat (first | refine ⟨_, rfl, ?_⟩ | refine ⟨_, _, rfl, rfl, ?_⟩ | refine ⟨rfl, ?_⟩ | refine .inl ⟨_, rfl, ?_⟩ | refine .inr ⟨_, rfl, ?_⟩ | refine ⟨.inr ⟨by decide, by decide⟩, ?_⟩ | refine ⟨⟨by decide, by decide⟩, ?_⟩ | refine ⟨⟨by decide, by decide, by decide⟩, ?_⟩ | refine ⟨.inr ⟨by omega, by omega⟩, ?_⟩ | refine ⟨(by show (0 : Int) < _; first | decide | omega), ?_⟩ | refine ⟨Nat.le_trans (Nat.le_of_ble_eq_true rfl : _ ≤ 50) (by decide), ?_⟩ | refine ⟨_, _, _, _, rfl, rfl, upd_same, rfl, ?_⟩ | refine ⟨_, _, _, _, rfl, rfl, SqL.of upd_same, rfl, ?_⟩ | refine ⟨_, _, _, _, rfl, rfl, SqT.of upd_same, rfl, ?_⟩ | refine ⟨_, _, rfl, .inl (SqL.of upd_same), ?_⟩ | refine ⟨_, _, rfl, .inr (SqT.of upd_same), ?_⟩ | (refine' ⟨_, _, _, _, rfl, rfl, _, _, _⟩; rotate_left 2; (focus (first | assumption | exact SqL.of (by assumption) | exact SqT.of (by assumption) | exact Same.seq (by assumption) (by assumption))); (focus (exact rfl))) | (refine' ⟨_, _, rfl, _, _⟩; rotate_left 1; (focus (first | exact .inl (by assumption) | exact .inl (SqL.of (by assumption)) | exact .inr (by assumption) | exact .inr (SqT.of (by assumption)))))))
    refine ⟨hl, ?_⟩
    (repeat (first | refine ⟨_, rfl, ?_⟩ | refine ⟨_, _, rfl, rfl, ?_⟩ | refine ⟨rfl, ?_⟩ | refine .inl ⟨_, rfl, ?_⟩ | refine .inr ⟨_, rfl, ?_⟩ | refine ⟨.inr ⟨by decide, by decide⟩, ?_⟩ | refine ⟨⟨by decide, by decide⟩, ?_⟩ | refine ⟨⟨by decide, by decide, by decide⟩, ?_⟩ | refine ⟨.inr ⟨by omega, by omega⟩, ?_⟩ | refine ⟨(by show (0 : Int) < _; first | decide | omega), ?_⟩ | refine ⟨Nat.le_trans (Nat.le_of_ble_eq_true rfl : _ ≤ 50) (by decide), ?_⟩ | refine ⟨_, _, _, _, rfl, rfl, upd_same, rfl, ?_⟩ | refine ⟨_, _, _, _, rfl, rfl, SqL.of upd_same, rfl, ?_⟩ | refine ⟨_, _, _, _, rfl, rfl, SqT.of upd_same, rfl, ?_⟩ | refine ⟨_, _, rfl, .inl (SqL.of upd_same), ?_⟩ | refine ⟨_, _, rfl, .inr (SqT.of upd_same), ?_⟩ | (refine' ⟨_, _, _, _, rfl, rfl, _, _, _⟩; rotate_left 2; (focus (first | assumption | exact SqL.of (by assumption) | exact SqT.of (by assumption) | exact Same.seq (by assumption) (by assumption))); (focus (exact rfl))) | (refine' ⟨_, _, rfl, _, _⟩; rotate_left 1; (focus (first | exact .inl (by assumption) | exact .inl (SqL.of (by assumption)) | exact .inr (by assumption) | exact .inr (SqT.of (by assumption)))))))
    refine ⟨⟨_, SqL.of ha⟩, hT, fun H2 hT2 => ?_⟩
    have ha2 := tab_keep ha (fun q z => by cases z) hT hT2
    have hl2 := tab_keep hl (fun q z => by cases z) hT hT2
    refine GA.all_it (walk_list (K := K) (a := a) (xs := [])) (fun i H' => H' = H2) rfl (fun i H' _ e => by rw [e]; exact SqL.of ha2) (fun i x H1 H3 hi => absurd hi (Nat.not_lt_zero _)) ?_
    rintro H3 rfl
    refine ⟨_, rfl, iteF ?_⟩
    refine ⟨_, rfl, l, rfl, ⟨_, SqT.of hl2⟩, hT2.1, fun H4 hT4 => ?_⟩
    have hl4 := tab_keep hl2 (fun q z => by cases z) hT2.1 hT4
    refine GA.all_it (walk_tup (K := K) (a := l) (xs := [])) (fun i H' => H' = H4) rfl (fun i H' _ e => by rw [e]; exact SqT.of hl4) (fun i x H1 H5 hi => absurd hi (Nat.not_lt_zero _)) ?_
    rintro H5 rfl
    exact q _ ⟨hT4.1, fun b hb => (hT4.2 b hb).trans (hT2.2 b hb)⟩
end
end K32

set_option Elab.async false
set_option linter.all false
set_option maxRecDepth 100000
set_option maxHeartbeats 4000000
namespace K32
open PySem PySem.Spec PyProof.Rows L2 QX Lw GxR
def spRun (C CP B : Addr) : Sp := fun vs H Q E => ∃ H0 m cd S L code n, vs = [.ref m, .int n] ∧ MAt C CP H0 H m cd S L ∧ CodeAt L cd code ∧ S.tn ≤ 100000 ∧ Wts S ∧ 0 < n ∧
  ((S.over = true ∧ ∀ H', MAt C CP H0 H' m cd S L → Q (.int 0) H') ∨ (∃ r, stepM S code = .error r ∧ Rz B r H E))
def spGet (C CP : Addr) (g : MS → V) : Sp := fun vs H Q _ => ∃ H0 m cd S L, vs = [.ref m] ∧ MAt C CP H0 H m cd S L ∧ Q (g S) H
def spList (C CP : Addr) (g : MS → List V → Prop) : Sp := fun vs H Q _ => ∃ H0 m cd S L, vs = [.ref m] ∧ MAt C CP H0 H m cd S L ∧ ∀ p xs, H p = none → g S xs → Q (.ref p) (upd H p (.lst xs))
def S0 : MS := ⟨0, false, List.replicate 16 0, [], [], 0⟩
def spMInit (C CP P : Addr) : Sp := fun vs H Q _ => ∃ H0 x dx cf lay cd me ps L, vs = [.ref x, .ref cf, .ref me] ∧ Objs H0 H ((x, .ins C dx []) :: (P, .tbl ps) :: L) ∧ TriplesOk ps.toList ∧ (cf, HO.tup [.ref lay, .ref cd]) ∈ L ∧ (lay, HO.tup []) ∈ L ∧ (me, HO.lst []) ∈ L ∧
  ∀ H' ps', TriplesOk ps'.toList → MAt C CP H0 H' x cd S0 ((P, .tbl ps') :: L) → Q .non H'
theorem Objs.perm {H0 H : Hp} {L L' : List (Addr × HO)} (h : Objs H0 H L) (p : L.Perm L') : Objs H0 H L' :=
  ⟨h.same, fun q hq => h.at_ q (p.mem_iff.mpr hq), (p.map _).nodup_iff.mp h.nd, fun q hq => h.new q (p.mem_iff.mpr hq)⟩
section
variable {P : Program} {w : World} {K : PySem.W.Frag} {mg : Str → Option Value} {base : Heap}
theorem ok_run (T : Tx P w K mg) (G_BadRun : FnOk P w K mg base CX0 1 T.E_BadRun.f T.E_BadRun.fd ["self", "reason"] (spI1 T.E_BadRun.C "reason")) :
    FnOk P w K mg base (L2.CX P w) 5 T.a_Machine_run T.d_Machine_run ["self", "limit"] (spRun T.c_Machine T.c_Predictor T.E_BadRun.C) := by
  have G_Machine_step : FnOk P w K mg base (L2.CX P w) 4 T.a_Machine_step T.d_Machine_step ["self"] (spStep T.c_Machine T.c_Predictor T.E_BadRun.C) := ok_step T G_BadRun
  refine T.F_Machine_run.okX sc_Machine_run (fun vs H Q E h => ?_) (fun cdv A outer s H vs Q E hr h => ?_)
  · obtain ⟨H0, m, cd, S, L, code, n, rfl, _⟩ := h
    rfl
  · obtain ⟨H0, m, cd, S, L, code, n, rfl, hm, hcd, htn, hwt, hn, h⟩ := h
    obtain ⟨dx, mo, ce, wa, wt, t, ca, p, dp, pm, flag, clock, trs, e1, e2, e3, e4, o⟩ := id hm
    have hr_Machine_step : Room 4 _ := hr
    refine ⟨_, (pss_cons (ps_set (i := 2) sc_Machine_run.nd rfl (.inl rfl) pe_int)
        (pss_cons (ps_while (passes_of rfl) (PW.pt (pw_and (pt_cmpR op_lt (pv 2) (pv 1) (nomark _)) (pw_and1 (pt_val (pe_meth0 (pv 0) T.cl_Machine T.m_Machine_step G_Machine_step hr_Machine_step T.b_Machine_step .nil passE )))))
        (pss_one (ps_aug (i := 2) sc_Machine_run.nd rfl (.inl rfl) pe_int ip_add)))
        (pss_one (ps_ret (pv 2))))), ?_⟩
    refine ⟨fun k σ H' => k = 0 ∧ σ = [some (.ref m), some (.int n), some (.int 0)] ∧ H' = H, ⟨0, rfl, rfl, rfl⟩, ?_⟩
    rintro k σ H' ⟨rfl, rfl, rfl⟩
    refine ⟨_, rfl, _, rfl, _, _, rfl, rfl, _, rfl, ?_⟩
    rw [decide_eq_true hn]
    refine iteT ?_
    refine ⟨_, rfl, m, dx, _, rfl, o.get 0 rfl, rfl, ?_⟩
    refine ⟨H0, m, cd, S, L, code, rfl, hm, hcd, htn, hwt, ?_⟩
    rcases h with ⟨hov, q⟩ | ⟨r, h1, hz⟩
    · have e : stepM S code = .ok (false, S) := by unfold stepM; rw [if_pos hov]
      rw [e]
      intro H1 h1
      exact ⟨_, rfl, _, rfl, q H1 h1⟩
    · rw [h1]
      exact hz
theorem ok_ended (T : Tx P w K mg) : FnOk P w K mg base CX0 1 T.a_Machine_ended T.d_Machine_ended ["self"] (spGet T.c_Machine T.c_Predictor fun S => .bl S.over) := by
  refine T.F_Machine_ended.ok sc_Machine_ended (fun vs H Q E h => ?_) (fun cdv A outer s H vs Q E hr h => ?_)
  · obtain ⟨H0, m, cd, S, L, rfl, _⟩ := h
    rfl
  · obtain ⟨H0, m, cd, S, L, rfl, hm, q⟩ := h
    obtain ⟨dx, mo, ce, wa, wt, t, ca, p, dp, pm, flag, clock, trs, e1, e2, e3, e4, o⟩ := id hm
    refine ⟨_, (pss_one (ps_ret (pe_fld (pv 0) rfl))), ?_⟩
    exact ⟨_, rfl, m, _, dx, _, _, rfl, o.get 0 rfl, T.cl_Machine, T.no_Machine_over, rfl, q⟩
theorem ok_place (T : Tx P w K mg) : FnOk P w K mg base CX0 1 T.a_Machine_place T.d_Machine_place ["self"] (spGet T.c_Machine T.c_Predictor fun S => .int S.at_) := by
  refine T.F_Machine_place.ok sc_Machine_place (fun vs H Q E h => ?_) (fun cdv A outer s H vs Q E hr h => ?_)
  · obtain ⟨H0, m, cd, S, L, rfl, _⟩ := h
    rfl
  · obtain ⟨H0, m, cd, S, L, rfl, hm, q⟩ := h
    obtain ⟨dx, mo, ce, wa, wt, t, ca, p, dp, pm, flag, clock, trs, e1, e2, e3, e4, o⟩ := id hm
    refine ⟨_, (pss_one (ps_ret (pe_fld (pv 0) rfl))), ?_⟩
    exact ⟨_, rfl, m, _, dx, _, _, rfl, o.get 0 rfl, T.cl_Machine, T.no_Machine_at, rfl, q⟩
theorem ok_regs (T : Tx P w K mg) : FnOk P w K mg base CX0 1 T.a_Machine_registers T.d_Machine_registers ["self"] (spList T.c_Machine T.c_Predictor fun S xs => xs = S.ws.map V.int) := by
  refine T.F_Machine_registers.ok sc_Machine_registers (fun vs H Q E h => ?_) (fun cdv A outer s H vs Q E hr h => ?_)
  · obtain ⟨H0, m, cd, S, L, rfl, _⟩ := h
    rfl
  · obtain ⟨H0, m, cd, S, L, rfl, hm, q⟩ := h
    obtain ⟨dx, mo, ce, wa, wt, t, ca, p, dp, pm, flag, clock, trs, e1, e2, e3, e4, o⟩ := id hm
    refine ⟨_, (pss_one (ps_ret (pe_callTy call_list_of (by rfl) T.z_list (by decide +kernel) (pa_cons (pe_fld (pv 0) rfl) pa_nil)))), ?_⟩
    refine ⟨_, rfl, m, _, dx, _, _, rfl, o.get 0 rfl, T.cl_Machine, T.no_Machine_words, rfl, ?_⟩
    exact ⟨_, _, rfl, .inl (SqL.of (o.get 1 rfl)), fun l hl => q l _ hl rfl⟩
theorem ok_stack (T : Tx P w K mg) : FnOk P w K mg base CX0 1 T.a_Machine_stack T.d_Machine_stack ["self"] (spList T.c_Machine T.c_Predictor fun S xs => xs = S.wt.map V.int) := by
  refine T.F_Machine_stack.ok sc_Machine_stack (fun vs H Q E h => ?_) (fun cdv A outer s H vs Q E hr h => ?_)
  · obtain ⟨H0, m, cd, S, L, rfl, _⟩ := h
    rfl
  · obtain ⟨H0, m, cd, S, L, rfl, hm, q⟩ := h
    obtain ⟨dx, mo, ce, wa, wt, t, ca, p, dp, pm, flag, clock, trs, e1, e2, e3, e4, o⟩ := id hm
    refine ⟨_, (pss_one (ps_ret (pe_callTy call_list_of (by rfl) T.z_list (by decide +kernel) (pa_cons (pe_fld (pv 0) rfl) pa_nil)))), ?_⟩
    refine ⟨_, rfl, m, _, dx, _, _, rfl, o.get 0 rfl, T.cl_Machine, T.no_Machine_waiting, rfl, ?_⟩
    exact ⟨_, _, rfl, .inl (SqL.of (o.get 2 rfl)), fun l hl => q l _ hl rfl⟩
theorem ok_shown (T : Tx P w K mg) : FnOk P w K mg base CX0 1 T.a_Machine_shown T.d_Machine_shown ["self"] (spList T.c_Machine T.c_Predictor fun S xs => xs.length = S.tn) := by
  refine T.F_Machine_shown.ok sc_Machine_shown (fun vs H Q E h => ?_) (fun cdv A outer s H vs Q E hr h => ?_)
  · obtain ⟨H0, m, cd, S, L, rfl, _⟩ := h
    rfl
  · obtain ⟨H0, m, cd, S, L, rfl, hm, q⟩ := h
    obtain ⟨dx, mo, ce, wa, wt, t, ca, p, dp, pm, flag, clock, trs, e1, e2, e3, e4, o⟩ := id hm
    refine ⟨_, (pss_one (ps_ret (pe_callTy call_list_of (by rfl) T.z_list (by decide +kernel) (pa_cons (pe_fld (pv 0) rfl) pa_nil)))), ?_⟩
    refine ⟨_, rfl, m, _, dx, _, _, rfl, o.get 0 rfl, T.cl_Machine, T.no_Machine_trace, rfl, ?_⟩
    exact ⟨_, _, rfl, .inl (SqL.of (o.get 3 rfl)), fun l hl => q l _ hl e1⟩
theorem ok_minit (T : Tx P w K mg) (B_is_memory : LamX.TabB base mg T.cc_is_memory T.P_is_memory) : FnOk P w K mg base CX0 5 T.a_Machine_init T.d_Machine_init ["self", "code_file", "memory"] (spMInit T.c_Machine T.c_Predictor T.P_is_memory) := by
  have G_is_memory : FnOk P w K mg base CX0 4 T.a_is_memory T.d_is_memory ["layout", "value"] (spIsMem T.P_is_memory) := ok_ismem T B_is_memory
  have G_mosts_of : FnOk P w K mg base CX0 3 T.a_mosts_of T.d_mosts_of ["layout"] spMosts := ok_mosts T
  have G_Cache_init : FnOk P w K mg base CX0 1 T.a_Cache_init T.d_Cache_init ["self"] (spCInit T.c_Cache) := ok_cinit T
  have G_Predictor_init : FnOk P w K mg base CX0 1 T.a_Predictor_init T.d_Predictor_init ["self"] (spPInit T.c_Predictor) := ok_pinit T
  refine T.F_Machine_init.ok sc_Machine_init (fun vs H Q E h => ?_) (fun cdv A outer s H vs Q E hr h => ?_)
  · obtain ⟨H0, x, dx, cf, lay, cd, me, ps, L, rfl, _⟩ := h
    rfl
  · obtain ⟨H0, x, dx, cf, lay, cd, me, ps, L, rfl, o, hps, hcf, hlay, hme, q⟩ := h
    have hr_is_memory : Room 4 _ := hr
    have hr_mosts_of : Room 3 _ := hr.mono (by decide)
    have hr_Cache_init : Room 2 _ := hr.mono (by decide)
    have hr_Predictor_init : Room 2 _ := hr.mono (by decide)
    refine ⟨_, (pss_cons (ps_asg (pv 1) (pg_tup rfl (pgs_cons (pg_name (i := 3) sc_Machine_init.nd rfl (.inl rfl)) (pgs_cons (pg_name (i := 4) sc_Machine_init.nd rfl (.inl rfl)) pgs_nil))))
        (pss_cons (ps_if (pt_not (pt_val (pe_call G_is_memory hr_is_memory (by rfl) T.g_is_memory T.F_is_memory.kp T.b_is_memory .nil pass0 (pa_cons (pv 3) (pa_cons (pv 2) pa_nil)))))
        (pss_one ps_never)
        pss_nil)
        (pss_cons (ps_fld (pv 0) (pv 4) rfl)
        (pss_cons (ps_fld (pv 0) (pe_call G_mosts_of hr_mosts_of (by rfl) T.g_mosts_of T.F_mosts_of.kp T.b_mosts_of .nil pass0 (pa_cons (pv 3) pa_nil)) rfl)
        (pss_cons (ps_fld (pv 0) (pe_callTy call_list_of (by rfl) T.z_list (by decide +kernel) (pa_cons (pv 2) pa_nil)) rfl)
        (pss_cons (ps_fld (pv 0) (pe_op op_rep (pe_lst (pa_cons pe_int pa_nil)) (pe_glob rfl T.g_REGISTERS T.r_REGISTERS)) rfl)
        (pss_cons (ps_fld (pv 0) pe_int rfl)
        (pss_cons (ps_fld (pv 0) (pe_lst pa_nil) rfl)
        (pss_cons (ps_fld (pv 0) pe_int rfl)
        (pss_cons (ps_fld (pv 0) pe_int rfl)
        (pss_cons (ps_fld (pv 0) pe_bl rfl)
        (pss_cons (ps_fld (pv 0) (pe_lst pa_nil) rfl)
        (pss_cons (ps_fld (pv 0) (pe_make0 T.mk_Cache G_Cache_init hr_Cache_init (by rfl) T.g_Cache T.b_Cache_init .nil pass0) rfl)
        (pss_one (ps_fld (pv 0) (pe_make0 T.mk_Predictor G_Predictor_init hr_Predictor_init (by rfl) T.g_Predictor T.b_Predictor_init .nil pass0) rfl))))))))))))))), ?_⟩
    have kcf := o.at_ _ (List.mem_cons_of_mem _ (List.mem_cons_of_mem _ hcf))
    have klay := o.at_ _ (List.mem_cons_of_mem _ (List.mem_cons_of_mem _ hlay))
    have kme := o.at_ _ (List.mem_cons_of_mem _ (List.mem_cons_of_mem _ hme))
    refine ⟨_, rfl, cf, _, rfl, SqT.of kcf, rfl, ?_⟩
    refine ⟨_, _, rfl, _, _, rfl, rfl, ?_⟩
    have hT : TabG H T.P_is_memory := ⟨ps, o.get 1 rfl, hps⟩
    refine ⟨_, rfl, _, rfl, lay, me, rfl, klay, kme, hT, fun H1 hT1 => ?_⟩
    obtain ⟨⟨ps1, hP1, hps1⟩, kT⟩ := hT1
    have o1 := o.set (o' := .tbl ps1) 1 rfl (fun b u n e => by rw [kT b n]; exact e) hP1
    have sL : ∀ q, q ∈ L → q ∈ [(x, HO.ins T.c_Machine dx []), (T.P_is_memory, HO.tbl ps1)] ++ L := fun q hq => List.mem_append_right _ hq
    (repeat (first | refine ⟨_, rfl, ?_⟩ | refine ⟨_, _, rfl, rfl, ?_⟩ | refine ⟨rfl, ?_⟩ | refine .inl ⟨_, rfl, ?_⟩ | refine .inr ⟨_, rfl, ?_⟩ | refine ⟨.inr ⟨by decide, by decide⟩, ?_⟩ | refine ⟨⟨by decide, by decide⟩, ?_⟩ | refine ⟨⟨by decide, by decide, by decide⟩, ?_⟩ | refine ⟨.inr ⟨by omega, by omega⟩, ?_⟩ | refine ⟨(by show (0 : Int) < _; first | decide | omega), ?_⟩ | refine ⟨Nat.le_trans (Nat.le_of_ble_eq_true rfl : _ ≤ 50) (by decide), ?_⟩ | refine ⟨_, _, _, _, rfl, rfl, upd_same, rfl, ?_⟩ | refine ⟨_, _, _, _, rfl, rfl, SqL.of upd_same, rfl, ?_⟩ | refine ⟨_, _, _, _, rfl, rfl, SqT.of upd_same, rfl, ?_⟩ | refine ⟨_, _, rfl, .inl (SqL.of upd_same), ?_⟩ | refine ⟨_, _, rfl, .inr (SqT.of upd_same), ?_⟩ | (refine' ⟨_, _, _, _, rfl, rfl, _, _, _⟩; rotate_left 2; (focus (first | assumption | exact SqL.of (by assumption) | exact SqT.of (by assumption) | exact Same.seq (by assumption) (by assumption))); (focus (exact rfl))) | (refine' ⟨_, _, rfl, _, _⟩; rotate_left 1; (focus (first | exact .inl (by assumption) | exact .inl (SqL.of (by assumption)) | exact .inr (by assumption) | exact .inr (SqT.of (by assumption)))))))
    refine ⟨x, _, dx, _, rfl, o1.get 0 rfl, T.cl_Machine, T.no_Machine_code, by decide, ?_⟩
    have o2 := o1.put (o' := .ins T.c_Machine dx [("code", .ref cd)]) 0 rfl
    refine ⟨_, rfl, lay, rfl, o2.at_ _ (List.mem_cons_of_mem _ (List.mem_cons_of_mem _ hlay)), fun mo H2 s2 n2 e2 => ?_⟩
    have o3 := o2.mono s2
    refine ⟨_, rfl, x, _, dx, _, rfl, o3.get 0 rfl, T.cl_Machine, T.no_Machine_mosts, by show _ < 1000; exact Nat.le_of_ble_eq_true rfl, ?_⟩
    have o4 := o3.put (o' := .ins T.c_Machine dx [("code", .ref cd), ("mosts", .ref mo)]) 0 rfl
    refine ⟨_, rfl, me, _, rfl, .inl (SqL.of (o4.at_ _ (List.mem_cons_of_mem _ (List.mem_cons_of_mem _ hme)))), fun ce hce => ?_⟩
    have o5 := o4.skip (o := .lst []) hce
    refine ⟨_, rfl, x, _, dx, _, rfl, o5.get 0 rfl, T.cl_Machine, T.no_Machine_cells, by show _ < 1000; exact Nat.le_of_ble_eq_true rfl, ?_⟩
    have o6 := o5.put (o' := .ins T.c_Machine dx [("code", .ref cd), ("mosts", .ref mo), ("cells", .ref ce)]) 0 rfl
    refine ⟨Nat.le_of_ble_eq_true rfl, fun z hz => ?_⟩
    have o7 := o6.skip (o := .lst [.int 0]) hz
    refine ⟨z, 16, _, rfl, rfl, upd_same, by decide, by decide, by decide, fun wa hwa => ?_⟩
    have o8 := o7.add (o := .lst ((List.replicate 16 (0 : Int)).map V.int)) hwa
    refine ⟨_, rfl, x, _, dx, _, rfl, o8.get 1 rfl, T.cl_Machine, T.no_Machine_words, by show _ < 1000; exact Nat.le_of_ble_eq_true rfl, ?_⟩
    have o9 := o8.put (o' := .ins T.c_Machine dx [("code", .ref cd), ("mosts", .ref mo), ("cells", .ref ce), ("words", .ref wa)]) 1 rfl
    refine ⟨_, rfl, x, _, dx, _, rfl, o9.get 1 rfl, T.cl_Machine, T.no_Machine_flag, by show _ < 1000; exact Nat.le_of_ble_eq_true rfl, ?_⟩
    have o10 := o9.put (o' := .ins T.c_Machine dx [("code", .ref cd), ("mosts", .ref mo), ("cells", .ref ce), ("words", .ref wa), ("flag", .int 0)]) 1 rfl
    refine ⟨Nat.zero_le _, fun wt hwt => ?_⟩
    have o11 := o10.add (o := .lst []) hwt
    refine ⟨_, rfl, x, _, dx, _, rfl, o11.get 2 rfl, T.cl_Machine, T.no_Machine_waiting, by show _ < 1000; exact Nat.le_of_ble_eq_true rfl, ?_⟩
    have o12 := o11.put (o' := .ins T.c_Machine dx [("code", .ref cd), ("mosts", .ref mo), ("cells", .ref ce), ("words", .ref wa), ("flag", .int 0), ("waiting", .ref wt)]) 2 rfl
    refine ⟨_, rfl, x, _, dx, _, rfl, o12.get 2 rfl, T.cl_Machine, T.no_Machine_at, by show _ < 1000; exact Nat.le_of_ble_eq_true rfl, ?_⟩
    have o13 := o12.put (o' := .ins T.c_Machine dx [("code", .ref cd), ("mosts", .ref mo), ("cells", .ref ce), ("words", .ref wa), ("flag", .int 0), ("waiting", .ref wt), ("at", .int 0)]) 2 rfl
    refine ⟨_, rfl, x, _, dx, _, rfl, o13.get 2 rfl, T.cl_Machine, T.no_Machine_clock, by show _ < 1000; exact Nat.le_of_ble_eq_true rfl, ?_⟩
    have o14 := o13.put (o' := .ins T.c_Machine dx [("code", .ref cd), ("mosts", .ref mo), ("cells", .ref ce), ("words", .ref wa), ("flag", .int 0), ("waiting", .ref wt), ("at", .int 0), ("clock", .int 0)]) 2 rfl
    refine ⟨_, rfl, x, _, dx, _, rfl, o14.get 2 rfl, T.cl_Machine, T.no_Machine_over, by show _ < 1000; exact Nat.le_of_ble_eq_true rfl, ?_⟩
    have o15 := o14.put (o' := .ins T.c_Machine dx [("code", .ref cd), ("mosts", .ref mo), ("cells", .ref ce), ("words", .ref wa), ("flag", .int 0), ("waiting", .ref wt), ("at", .int 0), ("clock", .int 0), ("over", .bl false)]) 2 rfl
    refine ⟨Nat.zero_le _, fun t ht => ?_⟩
    have o16 := o15.add (o := .lst []) ht
    refine ⟨_, rfl, x, _, dx, _, rfl, o16.get 3 rfl, T.cl_Machine, T.no_Machine_trace, by show _ < 1000; exact Nat.le_of_ble_eq_true rfl, ?_⟩
    have o17 := o16.put (o' := .ins T.c_Machine dx [("code", .ref cd), ("mosts", .ref mo), ("cells", .ref ce), ("words", .ref wa), ("flag", .int 0), ("waiting", .ref wt), ("at", .int 0), ("clock", .int 0), ("over", .bl false), ("trace", .ref t)]) 3 rfl
    intro ca dca hca hdca nca
    have oc := (o17.skip (o := .own ca) hdca).add (a := ca) (o := .ins T.c_Cache dca []) (by rw [upd_ne (Ne.symm nca)]; exact hca)
    refine ⟨ca, dca, rfl, upd_same, fun b H3 nb k3 hb hx => ⟨rfl, ?_⟩⟩
    have o18 := (oc.set 0 rfl k3 hx).sub (List.sublist_cons_self _ _)
    refine ⟨_, rfl, x, _, dx, _, rfl, o18.get 3 rfl, T.cl_Machine, T.no_Machine_cache, by show _ < 1000; exact Nat.le_of_ble_eq_true rfl, ?_⟩
    have o19 := o18.put (o' := .ins T.c_Machine dx [("code", .ref cd), ("mosts", .ref mo), ("cells", .ref ce), ("words", .ref wa), ("flag", .int 0), ("waiting", .ref wt), ("at", .int 0), ("clock", .int 0), ("over", .bl false), ("trace", .ref t), ("cache", .ref ca)]) 3 rfl
    intro p dp hp hdp ndp
    have op := (o19.skip (o := .own p) hdp).add (a := p) (o := .ins T.c_Predictor dp []) (by rw [upd_ne (Ne.symm ndp)]; exact hp)
    refine ⟨p, dp, rfl, upd_same, fun pm H4 nb4 k4 hb4 hx4 => ⟨rfl, ?_⟩⟩
    have o20 := (op.set 0 rfl k4 hx4).join (op.fresh nb4).1 (op.fresh nb4).2 hb4
    refine ⟨_, rfl, x, _, dx, _, rfl, o20.get 5 rfl, T.cl_Machine, T.no_Machine_predictor, by show _ < 1000; exact Nat.le_of_ble_eq_true rfl, ?_⟩
    have o21 := o20.put (o' := .ins T.c_Machine dx [("code", .ref cd), ("mosts", .ref mo), ("cells", .ref ce), ("words", .ref wa), ("flag", .int 0), ("waiting", .ref wt), ("at", .int 0), ("clock", .int 0), ("over", .bl false), ("trace", .ref t), ("cache", .ref ca), ("predictor", .ref p)]) 5 rfl
    refine q _ ps1 hps1 ⟨dx, mo, ce, wa, wt, t, ca, p, dp, pm, 0, 0, [], rfl, rfl, by decide, by decide, ?_⟩
    exact Objs.perm o21 ((List.reverse_perm [_, _, _, _, _, _]).symm.append_right _)
end
end K32

set_option Elab.async false
set_option linter.all false
set_option maxRecDepth 100000
set_option maxHeartbeats 4000000
namespace K32
open PySem PySem.Spec PyProof.Rows L2 QX Lw GxR
section
variable {C CP : Addr} {H0 H H' : Hp} {m cd a : Addr} {S : MS} {L L' : List (Addr × HO)} {u u' : HO}
theorem MAt.mem (h : MAt C CP H0 H m cd S L) (hm : (a, u) ∈ L) : H a = some u := by
  obtain ⟨dx, mo, ce, wa, wt, t, ca, p, dp, pm, flag, clock, trs, e1, e2, e3, e4, o⟩ := h
  exact o.at_ (a, u) (mem6 hm)
theorem MAt.push (h : MAt C CP H0 H m cd S L) (n : H a = none) (s : Same H H') (e : H' a = some u) : MAt C CP H0 H' m cd S ((a, u) :: L) := by
  obtain ⟨dx, mo, ce, wa, wt, t, ca, p, dp, pm, flag, clock, trs, e1, e2, e3, e4, o⟩ := h
  exact ⟨dx, mo, ce, wa, wt, t, ca, p, dp, pm, flag, clock, trs, e1, e2, e3, e4, Objs.perm (o.push n s e) (List.perm_middle (l₁ := [_, _, _, _, _, _])).symm⟩
theorem MAt.add (h : MAt C CP H0 H m cd S L) (n : H a = none) : MAt C CP H0 (upd H a u) m cd S ((a, u) :: L) := h.push n (same_upd n) upd_same
theorem MAt.set (h : MAt C CP H0 H m cd S L) (i : Nat) (hi : L[i]? = some (a, u)) (k : Keep H H' a) (e : H' a = some u') : MAt C CP H0 H' m cd S (L.set i (a, u')) := by
  obtain ⟨dx, mo, ce, wa, wt, t, ca, p, dp, pm, flag, clock, trs, e1, e2, e3, e4, o⟩ := h
  exact ⟨dx, mo, ce, wa, wt, t, ca, p, dp, pm, flag, clock, trs, e1, e2, e3, e4, o.set (i + 6) hi k e⟩
theorem MAt.put (h : MAt C CP H0 H m cd S L) (i : Nat) (hi : L[i]? = some (a, u)) : MAt C CP H0 (upd H a u') m cd S (L.set i (a, u')) := h.set i hi (keep_upd H a u') upd_same
theorem MAt.sub (h : MAt C CP H0 H m cd S L) (s : List.Sublist L' L) : MAt C CP H0 H m cd S L' := by
  obtain ⟨dx, mo, ce, wa, wt, t, ca, p, dp, pm, flag, clock, trs, e1, e2, e3, e4, o⟩ := h
  exact ⟨dx, mo, ce, wa, wt, t, ca, p, dp, pm, flag, clock, trs, e1, e2, e3, e4, o.sub (((((((List.Sublist.cons_cons _ s).cons_cons _).cons_cons _).cons_cons _).cons_cons _).cons_cons _))⟩
end
theorem iteF' {b : Bool} {A B : Prop} (e : b = false) (h : B) : if b = true then A else B := by
  rw [e]
  exact h
theorem iteNS {b c : Bool} {A B : Prop} (e : b = c) (h : B) : if (!decide (b = c)) = true then A else B := by
  subst e
  rw [decide_eq_true rfl]
  exact h
def spSame : Sp := fun vs H Q _ => ∃ (a b : Addr) (ns : List Int), vs = [.ref a, .ref b] ∧ H a = some (.lst (ns.map V.int)) ∧ H b = some (.lst (ns.map V.int)) ∧ ns.length ≤ 100 ∧ Q (.bl true) H
/-- what the law's own reckoning does -/
def spGoes : Sp := fun vs H Q _ => ∃ (r st rg : Addr) (i : Ins) (S : MS), vs = [.ref r, .int S.at_, .ref st, .ref rg] ∧ H r = some (.tup i.row) ∧ H st = some (.lst (S.wt.map V.int)) ∧ H rg = some (.lst (S.ws.map V.int)) ∧ st ≠ rg ∧ S.ws.length = 16 ∧ i.ok ∧ i ≠ .halt ∧ (i = .ret → S.wt ≠ []) ∧ S.wt.length ≤ 16 ∧ (∀ p, i = .call p → S.wt.length < 16) ∧
  ∀ H' S', goesM S i = .ok S' → (∀ b o, b ≠ st → b ≠ rg → H b = some o → H' b = some o) → H' st = some (.lst (S'.wt.map V.int)) → H' rg = some (.lst (S'.ws.map V.int)) → Q (.int S'.at_) H'
section
variable {P : Program} {w : World} {K : PySem.W.Frag} {mg : Str → Option Value} {base : Heap}
theorem ok_source (T : Tx P w K mg) : FnOk P w K mg base CX0 1 T.a_law_source T.d_law_source ["script", "k"] (spSource K) := by
  refine T.F_law_source.ok sc_law_source (fun vs H Q E h => ?_) (fun cdv A outer s H vs Q E hr h => ?_)
  · obtain ⟨a, ns, k, rfl, _⟩ := h
    rfl
  · obtain ⟨a, ns, k, rfl, hS, hl, hk, q⟩ := h
    refine ⟨_, (pss_cons (ps_set (i := 2) sc_law_source.nd rfl (.inl rfl) pe_int)
        (pss_cons (ps_if (pt_cmpR op_gt (pe_callB call_len_seq (by rfl) T.z_len (by decide +kernel) (pa_cons (pv 0) pa_nil)) pe_int (nomark _))
        (pss_one (ps_set (i := 2) sc_law_source.nd rfl (.inl rfl) (pe_callB call_abs (by rfl) T.z_abs (by decide +kernel) (pa_cons (pe_ix ix_list (pv 0) (pe_op op_mod (pv 1) (pe_callB call_len_seq (by rfl) T.z_len (by decide +kernel) (pa_cons (pv 0) pa_nil))) (fun _ _ => rfl)) pa_nil))))
        pss_nil)
        (pss_cons (ps_set (i := 3) sc_law_source.nd rfl (.inl rfl) (pe_op op_mod (pe_callTy call_int1 (by rfl) T.z_int (by decide +kernel) (pa_cons (pe_op op_add (pe_op op_add (pe_op op_mul (pv 2) pe_int) (pe_op op_mul (pv 1) pe_int)) pe_int) pa_nil)) pe_int))
        (pss_cons (ps_if (pt_cmpR op_lt (pv 2) (pe_op op_pow pe_int pe_int) (nomark _))
        (pss_one (ps_ret (pe_lst (pa_cons pe_int (pa_cons (pv 3) pa_nil)))))
        pss_nil)
        (pss_one (ps_ret (pe_lst (pa_cons (pv 2) (pa_cons (pv 3) pa_nil))))))))), ?_⟩
    refine ⟨.ref a, rfl, a, _, rfl, .inl hS, _, _, rfl, rfl, _, rfl, ite2 (fun e => ?_) (fun e => ?_)⟩
    · have e1 : (0 : Int) < ((ns.map V.int).length : Int) := of_decide_eq_true e
      have hm : 0 ≤ k % ((ns.map V.int).length : Int) := Int.emod_nonneg _ (by omega)
      have hm2 : k % ((ns.map V.int).length : Int) < (ns.length : Int) := by
        have := Int.emod_lt_of_pos k e1
        rw [List.length_map] at this ⊢
        exact this
      obtain ⟨z, hz⟩ := at_int hm hm2
      refine ⟨.ref a, rfl, .int k, rfl, .ref a, rfl, a, _, rfl, .inl hS, _, _, rfl, rfl, e1, a, _, _, _, rfl, rfl, hS, hz, _, rfl, ?_⟩
      have hc : 0 ≤ (if z < 0 then -z else z) := by split <;> omega
      generalize (if z < 0 then -z else z) = c at hc
      (repeat (first | refine ⟨_, rfl, ?_⟩ | refine ⟨_, _, rfl, rfl, ?_⟩ | refine ⟨rfl, ?_⟩ | refine .inl ⟨_, rfl, ?_⟩ | refine .inr ⟨_, rfl, ?_⟩ | refine ⟨.inr ⟨by decide, by decide⟩, ?_⟩ | refine ⟨⟨by decide, by decide⟩, ?_⟩ | refine ⟨⟨by decide, by decide, by decide⟩, ?_⟩ | refine ⟨.inr ⟨by omega, by omega⟩, ?_⟩ | refine ⟨(by show (0 : Int) < _; first | decide | omega), ?_⟩ | refine ⟨Nat.le_trans (Nat.le_of_ble_eq_true rfl : _ ≤ 50) (by decide), ?_⟩ | refine ⟨_, _, _, _, rfl, rfl, upd_same, rfl, ?_⟩ | refine ⟨_, _, _, _, rfl, rfl, SqL.of upd_same, rfl, ?_⟩ | refine ⟨_, _, _, _, rfl, rfl, SqT.of upd_same, rfl, ?_⟩ | refine ⟨_, _, rfl, .inl (SqL.of upd_same), ?_⟩ | refine ⟨_, _, rfl, .inr (SqT.of upd_same), ?_⟩ | (refine' ⟨_, _, _, _, rfl, rfl, _, _, _⟩; rotate_left 2; (focus (first | assumption | exact SqL.of (by assumption) | exact SqT.of (by assumption) | exact Same.seq (by assumption) (by assumption))); (focus (exact rfl))) | (refine' ⟨_, _, rfl, _, _⟩; rotate_left 1; (focus (first | exact .inl (by assumption) | exact .inl (SqL.of (by assumption)) | exact .inr (by assumption) | exact .inr (SqT.of (by assumption)))))))
      refine ite2 (fun _ => ?_) (fun _ => ?_)
      · (repeat (first | refine ⟨_, rfl, ?_⟩ | refine ⟨_, _, rfl, rfl, ?_⟩ | refine ⟨rfl, ?_⟩ | refine .inl ⟨_, rfl, ?_⟩ | refine .inr ⟨_, rfl, ?_⟩ | refine ⟨.inr ⟨by decide, by decide⟩, ?_⟩ | refine ⟨⟨by decide, by decide⟩, ?_⟩ | refine ⟨⟨by decide, by decide, by decide⟩, ?_⟩ | refine ⟨.inr ⟨by omega, by omega⟩, ?_⟩ | refine ⟨(by show (0 : Int) < _; first | decide | omega), ?_⟩ | refine ⟨Nat.le_trans (Nat.le_of_ble_eq_true rfl : _ ≤ 50) (by decide), ?_⟩ | refine ⟨_, _, _, _, rfl, rfl, upd_same, rfl, ?_⟩ | refine ⟨_, _, _, _, rfl, rfl, SqL.of upd_same, rfl, ?_⟩ | refine ⟨_, _, _, _, rfl, rfl, SqT.of upd_same, rfl, ?_⟩ | refine ⟨_, _, rfl, .inl (SqL.of upd_same), ?_⟩ | refine ⟨_, _, rfl, .inr (SqT.of upd_same), ?_⟩ | (refine' ⟨_, _, _, _, rfl, rfl, _, _, _⟩; rotate_left 2; (focus (first | assumption | exact SqL.of (by assumption) | exact SqT.of (by assumption) | exact Same.seq (by assumption) (by assumption))); (focus (exact rfl))) | (refine' ⟨_, _, rfl, _, _⟩; rotate_left 1; (focus (first | exact .inl (by assumption) | exact .inl (SqL.of (by assumption)) | exact .inr (by assumption) | exact .inr (SqT.of (by assumption)))))))
        exact fun p hp => q p _ _ hp (by omega)
      · (repeat (first | refine ⟨_, rfl, ?_⟩ | refine ⟨_, _, rfl, rfl, ?_⟩ | refine ⟨rfl, ?_⟩ | refine .inl ⟨_, rfl, ?_⟩ | refine .inr ⟨_, rfl, ?_⟩ | refine ⟨.inr ⟨by decide, by decide⟩, ?_⟩ | refine ⟨⟨by decide, by decide⟩, ?_⟩ | refine ⟨⟨by decide, by decide, by decide⟩, ?_⟩ | refine ⟨.inr ⟨by omega, by omega⟩, ?_⟩ | refine ⟨(by show (0 : Int) < _; first | decide | omega), ?_⟩ | refine ⟨Nat.le_trans (Nat.le_of_ble_eq_true rfl : _ ≤ 50) (by decide), ?_⟩ | refine ⟨_, _, _, _, rfl, rfl, upd_same, rfl, ?_⟩ | refine ⟨_, _, _, _, rfl, rfl, SqL.of upd_same, rfl, ?_⟩ | refine ⟨_, _, _, _, rfl, rfl, SqT.of upd_same, rfl, ?_⟩ | refine ⟨_, _, rfl, .inl (SqL.of upd_same), ?_⟩ | refine ⟨_, _, rfl, .inr (SqT.of upd_same), ?_⟩ | (refine' ⟨_, _, _, _, rfl, rfl, _, _, _⟩; rotate_left 2; (focus (first | assumption | exact SqL.of (by assumption) | exact SqT.of (by assumption) | exact Same.seq (by assumption) (by assumption))); (focus (exact rfl))) | (refine' ⟨_, _, rfl, _, _⟩; rotate_left 1; (focus (first | exact .inl (by assumption) | exact .inl (SqL.of (by assumption)) | exact .inr (by assumption) | exact .inr (SqT.of (by assumption)))))))
        exact fun p hp => q p _ _ hp (by omega)
    · (repeat (first | refine ⟨_, rfl, ?_⟩ | refine ⟨_, _, rfl, rfl, ?_⟩ | refine ⟨rfl, ?_⟩ | refine .inl ⟨_, rfl, ?_⟩ | refine .inr ⟨_, rfl, ?_⟩ | refine ⟨.inr ⟨by decide, by decide⟩, ?_⟩ | refine ⟨⟨by decide, by decide⟩, ?_⟩ | refine ⟨⟨by decide, by decide, by decide⟩, ?_⟩ | refine ⟨.inr ⟨by omega, by omega⟩, ?_⟩ | refine ⟨(by show (0 : Int) < _; first | decide | omega), ?_⟩ | refine ⟨Nat.le_trans (Nat.le_of_ble_eq_true rfl : _ ≤ 50) (by decide), ?_⟩ | refine ⟨_, _, _, _, rfl, rfl, upd_same, rfl, ?_⟩ | refine ⟨_, _, _, _, rfl, rfl, SqL.of upd_same, rfl, ?_⟩ | refine ⟨_, _, _, _, rfl, rfl, SqT.of upd_same, rfl, ?_⟩ | refine ⟨_, _, rfl, .inl (SqL.of upd_same), ?_⟩ | refine ⟨_, _, rfl, .inr (SqT.of upd_same), ?_⟩ | (refine' ⟨_, _, _, _, rfl, rfl, _, _, _⟩; rotate_left 2; (focus (first | assumption | exact SqL.of (by assumption) | exact SqT.of (by assumption) | exact Same.seq (by assumption) (by assumption))); (focus (exact rfl))) | (refine' ⟨_, _, rfl, _, _⟩; rotate_left 1; (focus (first | exact .inl (by assumption) | exact .inl (SqL.of (by assumption)) | exact .inr (by assumption) | exact .inr (SqT.of (by assumption)))))))
      exact fun p hp => q p _ _ hp (by omega)
theorem ok_draw (T : Tx P w K mg) : FnOk P w K mg base CX0 1 T.a_law_draw T.d_law_draw ["source", "many"] spDraw := by
  refine T.F_law_draw.ok sc_law_draw (fun vs H Q E h => ?_) (fun cdv A outer s H vs Q E hr h => ?_)
  · obtain ⟨p, x, y, m, rfl, _⟩ := h
    rfl
  · obtain ⟨p, x, y, m, rfl, hp, hx, hm, hm2, q⟩ := h
    refine ⟨_, (pss_cons (ps_if (pt_cmpR op_gt (pe_ix ix_list (pv 0) pe_int (fun _ _ => rfl)) pe_int (nomark _))
        (pss_cons (ps_set (i := 2) sc_law_draw.nd rfl (.inl rfl) (pe_op op_mod (pe_callTy call_int1 (by rfl) T.z_int (by decide +kernel) (pa_cons (pe_ix ix_list (pv 0) pe_int (fun _ _ => rfl)) pa_nil)) (pv 1)))
        (pss_cons (ps_asg (pe_op op_fdiv (pe_ix ix_list (pv 0) pe_int (fun _ _ => rfl)) (pv 1)) (pg_sub (pv 0) pe_int set_list))
        (pss_one (ps_ret (pv 2)))))
        pss_nil)
        (pss_cons (ps_asg (pe_op op_mod (pe_callTy call_int1 (by rfl) T.z_int (by decide +kernel) (pa_cons (pe_op op_add (pe_op op_mul (pe_ix ix_list (pv 0) pe_int (fun _ _ => rfl)) pe_int) pe_int) pa_nil)) pe_int) (pg_sub (pv 0) pe_int set_list))
        (pss_one (ps_ret (pe_op op_mod (pe_op op_mod (pe_callTy call_int1 (by rfl) T.z_int (by decide +kernel) (pa_cons (pe_op op_add (pe_op op_mul (pe_op op_fdiv (pe_ix ix_list (pv 0) pe_int (fun _ _ => rfl)) pe_int) pe_int) (pe_op op_mul (pe_op op_mod (pe_ix ix_list (pv 0) pe_int (fun _ _ => rfl)) pe_int) pe_int)) pa_nil)) pe_int) (pv 1)))))), ?_⟩
    (repeat (first | refine ⟨_, rfl, ?_⟩ | refine ⟨_, _, rfl, rfl, ?_⟩ | refine ⟨rfl, ?_⟩ | refine .inl ⟨_, rfl, ?_⟩ | refine .inr ⟨_, rfl, ?_⟩ | refine ⟨.inr ⟨by decide, by decide⟩, ?_⟩ | refine ⟨⟨by decide, by decide⟩, ?_⟩ | refine ⟨⟨by decide, by decide, by decide⟩, ?_⟩ | refine ⟨.inr ⟨by omega, by omega⟩, ?_⟩ | refine ⟨(by show (0 : Int) < _; first | decide | omega), ?_⟩ | refine ⟨Nat.le_trans (Nat.le_of_ble_eq_true rfl : _ ≤ 50) (by decide), ?_⟩ | refine ⟨_, _, _, _, rfl, rfl, upd_same, rfl, ?_⟩ | refine ⟨_, _, _, _, rfl, rfl, SqL.of upd_same, rfl, ?_⟩ | refine ⟨_, _, _, _, rfl, rfl, SqT.of upd_same, rfl, ?_⟩ | refine ⟨_, _, rfl, .inl (SqL.of upd_same), ?_⟩ | refine ⟨_, _, rfl, .inr (SqT.of upd_same), ?_⟩ | (refine' ⟨_, _, _, _, rfl, rfl, _, _, _⟩; rotate_left 2; (focus (first | assumption | exact SqL.of (by assumption) | exact SqT.of (by assumption) | exact Same.seq (by assumption) (by assumption))); (focus (exact rfl))) | (refine' ⟨_, _, rfl, _, _⟩; rotate_left 1; (focus (first | exact .inl (by assumption) | exact .inl (SqL.of (by assumption)) | exact .inr (by assumption) | exact .inr (SqT.of (by assumption)))))))
    refine ite2 (fun e => ?_) (fun e => ?_)
    · (repeat (first | refine ⟨_, rfl, ?_⟩ | refine ⟨_, _, rfl, rfl, ?_⟩ | refine ⟨rfl, ?_⟩ | refine .inl ⟨_, rfl, ?_⟩ | refine .inr ⟨_, rfl, ?_⟩ | refine ⟨.inr ⟨by decide, by decide⟩, ?_⟩ | refine ⟨⟨by decide, by decide⟩, ?_⟩ | refine ⟨⟨by decide, by decide, by decide⟩, ?_⟩ | refine ⟨.inr ⟨by omega, by omega⟩, ?_⟩ | refine ⟨(by show (0 : Int) < _; first | decide | omega), ?_⟩ | refine ⟨Nat.le_trans (Nat.le_of_ble_eq_true rfl : _ ≤ 50) (by decide), ?_⟩ | refine ⟨_, _, _, _, rfl, rfl, upd_same, rfl, ?_⟩ | refine ⟨_, _, _, _, rfl, rfl, SqL.of upd_same, rfl, ?_⟩ | refine ⟨_, _, _, _, rfl, rfl, SqT.of upd_same, rfl, ?_⟩ | refine ⟨_, _, rfl, .inl (SqL.of upd_same), ?_⟩ | refine ⟨_, _, rfl, .inr (SqT.of upd_same), ?_⟩ | (refine' ⟨_, _, _, _, rfl, rfl, _, _, _⟩; rotate_left 2; (focus (first | assumption | exact SqL.of (by assumption) | exact SqT.of (by assumption) | exact Same.seq (by assumption) (by assumption))); (focus (exact rfl))) | (refine' ⟨_, _, rfl, _, _⟩; rotate_left 1; (focus (first | exact .inl (by assumption) | exact .inl (SqL.of (by assumption)) | exact .inr (by assumption) | exact .inr (SqT.of (by assumption)))))))
      refine ⟨⟨hm, by omega⟩, ?_⟩
      (repeat (first | refine ⟨_, rfl, ?_⟩ | refine ⟨_, _, rfl, rfl, ?_⟩ | refine ⟨rfl, ?_⟩ | refine .inl ⟨_, rfl, ?_⟩ | refine .inr ⟨_, rfl, ?_⟩ | refine ⟨.inr ⟨by decide, by decide⟩, ?_⟩ | refine ⟨⟨by decide, by decide⟩, ?_⟩ | refine ⟨⟨by decide, by decide, by decide⟩, ?_⟩ | refine ⟨.inr ⟨by omega, by omega⟩, ?_⟩ | refine ⟨(by show (0 : Int) < _; first | decide | omega), ?_⟩ | refine ⟨Nat.le_trans (Nat.le_of_ble_eq_true rfl : _ ≤ 50) (by decide), ?_⟩ | refine ⟨_, _, _, _, rfl, rfl, upd_same, rfl, ?_⟩ | refine ⟨_, _, _, _, rfl, rfl, SqL.of upd_same, rfl, ?_⟩ | refine ⟨_, _, _, _, rfl, rfl, SqT.of upd_same, rfl, ?_⟩ | refine ⟨_, _, rfl, .inl (SqL.of upd_same), ?_⟩ | refine ⟨_, _, rfl, .inr (SqT.of upd_same), ?_⟩ | (refine' ⟨_, _, _, _, rfl, rfl, _, _, _⟩; rotate_left 2; (focus (first | assumption | exact SqL.of (by assumption) | exact SqT.of (by assumption) | exact Same.seq (by assumption) (by assumption))); (focus (exact rfl))) | (refine' ⟨_, _, rfl, _, _⟩; rotate_left 1; (focus (first | exact .inl (by assumption) | exact .inl (SqL.of (by assumption)) | exact .inr (by assumption) | exact .inr (SqT.of (by assumption)))))))
      exact q _ _ _ (Int.emod_nonneg _ (by omega)) (Int.emod_lt_of_pos _ hm) (Int.ediv_nonneg hx (by omega))
    · (repeat (first | refine ⟨_, rfl, ?_⟩ | refine ⟨_, _, rfl, rfl, ?_⟩ | refine ⟨rfl, ?_⟩ | refine .inl ⟨_, rfl, ?_⟩ | refine .inr ⟨_, rfl, ?_⟩ | refine ⟨.inr ⟨by decide, by decide⟩, ?_⟩ | refine ⟨⟨by decide, by decide⟩, ?_⟩ | refine ⟨⟨by decide, by decide, by decide⟩, ?_⟩ | refine ⟨.inr ⟨by omega, by omega⟩, ?_⟩ | refine ⟨(by show (0 : Int) < _; first | decide | omega), ?_⟩ | refine ⟨Nat.le_trans (Nat.le_of_ble_eq_true rfl : _ ≤ 50) (by decide), ?_⟩ | refine ⟨_, _, _, _, rfl, rfl, upd_same, rfl, ?_⟩ | refine ⟨_, _, _, _, rfl, rfl, SqL.of upd_same, rfl, ?_⟩ | refine ⟨_, _, _, _, rfl, rfl, SqT.of upd_same, rfl, ?_⟩ | refine ⟨_, _, rfl, .inl (SqL.of upd_same), ?_⟩ | refine ⟨_, _, rfl, .inr (SqT.of upd_same), ?_⟩ | (refine' ⟨_, _, _, _, rfl, rfl, _, _, _⟩; rotate_left 2; (focus (first | assumption | exact SqL.of (by assumption) | exact SqT.of (by assumption) | exact Same.seq (by assumption) (by assumption))); (focus (exact rfl))) | (refine' ⟨_, _, rfl, _, _⟩; rotate_left 1; (focus (first | exact .inl (by assumption) | exact .inl (SqL.of (by assumption)) | exact .inr (by assumption) | exact .inr (SqT.of (by assumption)))))))
      exact q _ _ _ (Int.emod_nonneg _ (by omega)) (Int.emod_lt_of_pos _ hm) hx
theorem ok_same (T : Tx P w K mg) : FnOk P w K mg base CX0 1 T.a_law_same_words T.d_law_same_words ["actual", "due"] spSame := by
  refine T.F_law_same_words.ok sc_law_same_words (fun vs H Q E h => ?_) (fun cdv A outer s H vs Q E hr h => ?_)
  · obtain ⟨a, b, ns, rfl, _⟩ := h
    rfl
  · obtain ⟨a, b, ns, rfl, ha, hb, hl, q⟩ := h
    refine ⟨_, (pss_cons (ps_if (PW.pt (pw_or (pt_not (pt_val (pe_callB call_isi (by rfl) T.z_isinstance (by decide +kernel) (pa_cons (pv 0) (pa_cons (pe_bltn (v := .ty "list") (u := .type "list") (by rfl) T.z_list (by decide +kernel) rfl) pa_nil))))) (pw_or1 (pt_cmpR op_ne (pe_callB call_len_seq (by rfl) T.z_len (by decide +kernel) (pa_cons (pv 0) pa_nil)) (pe_callB call_len_seq (by rfl) T.z_len (by decide +kernel) (pa_cons (pv 1) pa_nil)) (nomark _)))))
        (pss_one (ps_ret pe_bl))
        pss_nil)
        (pss_cons (ps_for PassesOwn.never rfl (pi_range1 rfl T.z_range (pa_cons (pe_callB call_len_seq (by rfl) T.z_len (by decide +kernel) (pa_cons (pv 1) pa_nil)) pa_nil)) (pg_name (i := 2) sc_law_same_words.nd rfl (.inl rfl))
        (pss_one (ps_if (PW.pt (pw_or (pt_not (pt_val (pe_callB call_isi (by rfl) T.z_isinstance (by decide +kernel) (pa_cons (pe_ix ix_list (pv 0) (pv 2) (fun _ _ => rfl)) (pa_cons (pe_bltn (v := .ty "int") (u := .type "int") (by rfl) T.z_int (by decide +kernel) rfl) pa_nil))))) (pw_or (pt_val (pe_callB call_isi (by rfl) T.z_isinstance (by decide +kernel) (pa_cons (pe_ix ix_list (pv 0) (pv 2) (fun _ _ => rfl)) (pa_cons (pe_bltn (v := .ty "bool") (u := .type "bool") (by rfl) T.z_bool (by decide +kernel) rfl) pa_nil)))) (pw_or1 (pt_cmpR op_ne (pe_ix ix_list (pv 0) (pv 2) (fun _ _ => rfl)) (pe_ix ix_list (pv 1) (pv 2) (fun _ _ => rfl)) (nomark _))))))
        (pss_one (ps_ret pe_bl))
        pss_nil)))
        (pss_one (ps_ret pe_bl)))), ?_⟩
    refine ⟨_, rfl, _, _, _, _, true, rfl, .ty "list", .base (.lst ha), kit_ty (by decide +kernel), ?_⟩
    (repeat (first | refine ⟨_, rfl, ?_⟩ | refine ⟨_, _, rfl, rfl, ?_⟩ | refine ⟨rfl, ?_⟩ | refine .inl ⟨_, rfl, ?_⟩ | refine .inr ⟨_, rfl, ?_⟩ | refine ⟨.inr ⟨by decide, by decide⟩, ?_⟩ | refine ⟨⟨by decide, by decide⟩, ?_⟩ | refine ⟨⟨by decide, by decide, by decide⟩, ?_⟩ | refine ⟨.inr ⟨by omega, by omega⟩, ?_⟩ | refine ⟨(by show (0 : Int) < _; first | decide | omega), ?_⟩ | refine ⟨Nat.le_trans (Nat.le_of_ble_eq_true rfl : _ ≤ 50) (by decide), ?_⟩ | refine ⟨_, _, _, _, rfl, rfl, upd_same, rfl, ?_⟩ | refine ⟨_, _, _, _, rfl, rfl, SqL.of upd_same, rfl, ?_⟩ | refine ⟨_, _, _, _, rfl, rfl, SqT.of upd_same, rfl, ?_⟩ | refine ⟨_, _, rfl, .inl (SqL.of upd_same), ?_⟩ | refine ⟨_, _, rfl, .inr (SqT.of upd_same), ?_⟩ | (refine' ⟨_, _, _, _, rfl, rfl, _, _, _⟩; rotate_left 2; (focus (first | assumption | exact SqL.of (by assumption) | exact SqT.of (by assumption) | exact Same.seq (by assumption) (by assumption))); (focus (exact rfl))) | (refine' ⟨_, _, rfl, _, _⟩; rotate_left 1; (focus (first | exact .inl (by assumption) | exact .inl (SqL.of (by assumption)) | exact .inr (by assumption) | exact .inr (SqT.of (by assumption)))))))
    refine iteF' (by simp) ?_
    (repeat (first | refine ⟨_, rfl, ?_⟩ | refine ⟨_, _, rfl, rfl, ?_⟩ | refine ⟨rfl, ?_⟩ | refine .inl ⟨_, rfl, ?_⟩ | refine .inr ⟨_, rfl, ?_⟩ | refine ⟨.inr ⟨by decide, by decide⟩, ?_⟩ | refine ⟨⟨by decide, by decide⟩, ?_⟩ | refine ⟨⟨by decide, by decide, by decide⟩, ?_⟩ | refine ⟨.inr ⟨by omega, by omega⟩, ?_⟩ | refine ⟨(by show (0 : Int) < _; first | decide | omega), ?_⟩ | refine ⟨Nat.le_trans (Nat.le_of_ble_eq_true rfl : _ ≤ 50) (by decide), ?_⟩ | refine ⟨_, _, _, _, rfl, rfl, upd_same, rfl, ?_⟩ | refine ⟨_, _, _, _, rfl, rfl, SqL.of upd_same, rfl, ?_⟩ | refine ⟨_, _, _, _, rfl, rfl, SqT.of upd_same, rfl, ?_⟩ | refine ⟨_, _, rfl, .inl (SqL.of upd_same), ?_⟩ | refine ⟨_, _, rfl, .inr (SqT.of upd_same), ?_⟩ | (refine' ⟨_, _, _, _, rfl, rfl, _, _, _⟩; rotate_left 2; (focus (first | assumption | exact SqL.of (by assumption) | exact SqT.of (by assumption) | exact Same.seq (by assumption) (by assumption))); (focus (exact rfl))) | (refine' ⟨_, _, rfl, _, _⟩; rotate_left 1; (focus (first | exact .inl (by assumption) | exact .inl (SqL.of (by assumption)) | exact .inr (by assumption) | exact .inr (SqT.of (by assumption)))))))
    rw [List.length_map]
    refine ⟨by omega, by omega, for_range (lo := 0) (n := ns.length) (fun i σ H2 => ∃ v, σ = [some (.ref a), some (.ref b), v] ∧ H2 = H) ⟨none, rfl, rfl⟩ ?_ ?_⟩
    · rintro i σ H2 hi ⟨v, rfl, rfl⟩
      refine ⟨_, rfl, _, rfl, a, _, _, _, rfl, rfl, SqL.of ha, get_at hi, ?_⟩
      refine ⟨_, _, _, _, true, rfl, .ty "int", .base (.int _), kit_ty (by decide +kernel), ?_⟩
      refine ⟨_, rfl, iteF' rfl ?_⟩
      refine ⟨_, rfl, _, rfl, a, _, _, _, rfl, rfl, SqL.of ha, get_at hi, ?_⟩
      refine ⟨_, _, _, _, false, rfl, .ty "bool", .base (.int _), kit_ty (by decide +kernel), ?_⟩
      refine ⟨_, rfl, iteF' rfl ?_⟩
      refine ⟨_, rfl, _, rfl, a, _, _, _, rfl, rfl, SqL.of ha, get_at hi, ?_⟩
      refine ⟨_, rfl, _, rfl, b, _, _, _, rfl, rfl, SqL.of hb, get_at hi, rfl, _, rfl, ?_⟩
      exact iteF' (by simp) ⟨_, rfl, rfl⟩
    · rintro σ H2 ⟨v, rfl, rfl⟩
      exact q
theorem ok_goes (T : Tx P w K mg) : FnOk P w K mg base CX0 1 T.a_law_goes T.d_law_goes ["row", "place", "stack", "registers"] spGoes := by
  refine T.F_law_goes.ok sc_law_goes (fun vs H Q E h => ?_) (fun cdv A outer s H vs Q E hr h => ?_)
  · obtain ⟨r, st, rg, i, S, rfl, _⟩ := h
    rfl
  · obtain ⟨r, st, rg, i, S, rfl, hr2, hst, hrg, hne, hws, hok, hnh, hret, hwl, hcl, q⟩ := h
    refine ⟨_, (pss_cons (ps_if (pt_cmpR op_eq (pe_ix ix_tup (pv 0) pe_int (fun _ _ => rfl)) pe_str (nomark _))
        (pss_cons (ps_asg (pe_ix ix_tup (pv 0) pe_int (fun _ _ => rfl)) (pg_sub (pv 3) (pe_ix ix_tup (pv 0) pe_int (fun _ _ => rfl)) set_list))
        (pss_one (ps_ret (pe_op op_add (pv 1) pe_int))))
        pss_nil)
        (pss_cons (ps_if (pt_cmpR op_eq (pe_ix ix_tup (pv 0) pe_int (fun _ _ => rfl)) pe_str (nomark _))
        (pss_one (ps_ret (pe_ix ix_tup (pv 0) pe_int (fun _ _ => rfl))))
        pss_nil)
        (pss_cons (ps_if (pt_cmpR op_eq (pe_ix ix_tup (pv 0) pe_int (fun _ _ => rfl)) pe_str (nomark _))
        (pss_cons (ps_if (pt_cmpR op_lt (pe_ix ix_list (pv 3) (pe_ix ix_tup (pv 0) pe_int (fun _ _ => rfl)) (fun _ _ => rfl)) (pe_ix ix_tup (pv 0) pe_int (fun _ _ => rfl)) (nomark _))
        (pss_one (ps_ret (pe_ix ix_tup (pv 0) pe_int (fun _ _ => rfl))))
        pss_nil)
        (pss_one (ps_ret (pe_op op_add (pv 1) pe_int))))
        pss_nil)
        (pss_cons (ps_if (pt_cmpR op_eq (pe_ix ix_tup (pv 0) pe_int (fun _ _ => rfl)) pe_str (nomark _))
        (pss_cons (ps_expr (pe_bm PySem.F.plainAttrs_list PySem.F.slot_list_append PySem.F.type_list_append mt_append (pv 2) (pa_cons (pe_op op_add (pv 1) pe_int) pa_nil)))
        (pss_one (ps_ret (pe_ix ix_tup (pv 0) pe_int (fun _ _ => rfl)))))
        pss_nil)
        (pss_one (ps_ret (pe_bm0 PySem.F.plainAttrs_list PySem.F.slot_list_pop PySem.F.type_list_pop mt_pop (pv 2)))))))), ?_⟩
    cases i with
    | halt => exact absurd rfl hnh
    | set a wd =>
      (repeat (first | refine ⟨_, rfl, ?_⟩ | refine ⟨_, _, rfl, rfl, ?_⟩ | refine ⟨rfl, ?_⟩ | refine .inl ⟨_, rfl, ?_⟩ | refine .inr ⟨_, rfl, ?_⟩ | refine ⟨.inr ⟨by decide, by decide⟩, ?_⟩ | refine ⟨⟨by decide, by decide⟩, ?_⟩ | refine ⟨⟨by decide, by decide, by decide⟩, ?_⟩ | refine ⟨.inr ⟨by omega, by omega⟩, ?_⟩ | refine ⟨(by show (0 : Int) < _; first | decide | omega), ?_⟩ | refine ⟨Nat.le_trans (Nat.le_of_ble_eq_true rfl : _ ≤ 50) (by decide), ?_⟩ | refine ⟨_, _, _, _, rfl, rfl, upd_same, rfl, ?_⟩ | refine ⟨_, _, _, _, rfl, rfl, SqL.of upd_same, rfl, ?_⟩ | refine ⟨_, _, _, _, rfl, rfl, SqT.of upd_same, rfl, ?_⟩ | refine ⟨_, _, rfl, .inl (SqL.of upd_same), ?_⟩ | refine ⟨_, _, rfl, .inr (SqT.of upd_same), ?_⟩ | (refine' ⟨_, _, _, _, rfl, rfl, _, _, _⟩; rotate_left 2; (focus (first | assumption | exact SqL.of (by assumption) | exact SqT.of (by assumption) | exact Same.seq (by assumption) (by assumption))); (focus (exact rfl))) | (refine' ⟨_, _, rfl, _, _⟩; rotate_left 1; (focus (first | exact .inl (by assumption) | exact .inl (SqL.of (by assumption)) | exact .inr (by assumption) | exact .inr (SqT.of (by assumption)))))))
      refine ⟨rg, _, _, a, rfl, rfl, hrg, ixN_of (by omega) (by rw [List.length_map, hws]; exact Int.ofNat_lt.mpr hok), ?_⟩
      refine ⟨_, rfl, _, _, rfl, rfl, ?_⟩
      refine q _ { S with ws := S.ws.set a wd, at_ := S.at_ + 1, tn := S.tn + 1 } rfl (fun b o _ n e => by rw [upd_ne n]; exact e) (by rw [upd_ne hne]; exact hst) ?_
      rw [upd_same, List.map_set]
    | jump pl =>
      (repeat (first | refine ⟨_, rfl, ?_⟩ | refine ⟨_, _, rfl, rfl, ?_⟩ | refine ⟨rfl, ?_⟩ | refine .inl ⟨_, rfl, ?_⟩ | refine .inr ⟨_, rfl, ?_⟩ | refine ⟨.inr ⟨by decide, by decide⟩, ?_⟩ | refine ⟨⟨by decide, by decide⟩, ?_⟩ | refine ⟨⟨by decide, by decide, by decide⟩, ?_⟩ | refine ⟨.inr ⟨by omega, by omega⟩, ?_⟩ | refine ⟨(by show (0 : Int) < _; first | decide | omega), ?_⟩ | refine ⟨Nat.le_trans (Nat.le_of_ble_eq_true rfl : _ ≤ 50) (by decide), ?_⟩ | refine ⟨_, _, _, _, rfl, rfl, upd_same, rfl, ?_⟩ | refine ⟨_, _, _, _, rfl, rfl, SqL.of upd_same, rfl, ?_⟩ | refine ⟨_, _, _, _, rfl, rfl, SqT.of upd_same, rfl, ?_⟩ | refine ⟨_, _, rfl, .inl (SqL.of upd_same), ?_⟩ | refine ⟨_, _, rfl, .inr (SqT.of upd_same), ?_⟩ | (refine' ⟨_, _, _, _, rfl, rfl, _, _, _⟩; rotate_left 2; (focus (first | assumption | exact SqL.of (by assumption) | exact SqT.of (by assumption) | exact Same.seq (by assumption) (by assumption))); (focus (exact rfl))) | (refine' ⟨_, _, rfl, _, _⟩; rotate_left 1; (focus (first | exact .inl (by assumption) | exact .inl (SqL.of (by assumption)) | exact .inr (by assumption) | exact .inr (SqT.of (by assumption)))))))
      exact q H { S with at_ := pl, tn := S.tn + 1 } rfl (fun _ _ _ _ e => e) hst hrg
    | below a wd pl =>
      (repeat (first | refine ⟨_, rfl, ?_⟩ | refine ⟨_, _, rfl, rfl, ?_⟩ | refine ⟨rfl, ?_⟩ | refine .inl ⟨_, rfl, ?_⟩ | refine .inr ⟨_, rfl, ?_⟩ | refine ⟨.inr ⟨by decide, by decide⟩, ?_⟩ | refine ⟨⟨by decide, by decide⟩, ?_⟩ | refine ⟨⟨by decide, by decide, by decide⟩, ?_⟩ | refine ⟨.inr ⟨by omega, by omega⟩, ?_⟩ | refine ⟨(by show (0 : Int) < _; first | decide | omega), ?_⟩ | refine ⟨Nat.le_trans (Nat.le_of_ble_eq_true rfl : _ ≤ 50) (by decide), ?_⟩ | refine ⟨_, _, _, _, rfl, rfl, upd_same, rfl, ?_⟩ | refine ⟨_, _, _, _, rfl, rfl, SqL.of upd_same, rfl, ?_⟩ | refine ⟨_, _, _, _, rfl, rfl, SqT.of upd_same, rfl, ?_⟩ | refine ⟨_, _, rfl, .inl (SqL.of upd_same), ?_⟩ | refine ⟨_, _, rfl, .inr (SqT.of upd_same), ?_⟩ | (refine' ⟨_, _, _, _, rfl, rfl, _, _, _⟩; rotate_left 2; (focus (first | assumption | exact SqL.of (by assumption) | exact SqT.of (by assumption) | exact Same.seq (by assumption) (by assumption))); (focus (exact rfl))) | (refine' ⟨_, _, rfl, _, _⟩; rotate_left 1; (focus (first | exact .inl (by assumption) | exact .inl (SqL.of (by assumption)) | exact .inr (by assumption) | exact .inr (SqT.of (by assumption)))))))
      refine ⟨rg, _, _, _, rfl, rfl, SqL.of hrg, ws_at hws hok.1, ?_⟩
      (repeat (first | refine ⟨_, rfl, ?_⟩ | refine ⟨_, _, rfl, rfl, ?_⟩ | refine ⟨rfl, ?_⟩ | refine .inl ⟨_, rfl, ?_⟩ | refine .inr ⟨_, rfl, ?_⟩ | refine ⟨.inr ⟨by decide, by decide⟩, ?_⟩ | refine ⟨⟨by decide, by decide⟩, ?_⟩ | refine ⟨⟨by decide, by decide, by decide⟩, ?_⟩ | refine ⟨.inr ⟨by omega, by omega⟩, ?_⟩ | refine ⟨(by show (0 : Int) < _; first | decide | omega), ?_⟩ | refine ⟨Nat.le_trans (Nat.le_of_ble_eq_true rfl : _ ≤ 50) (by decide), ?_⟩ | refine ⟨_, _, _, _, rfl, rfl, upd_same, rfl, ?_⟩ | refine ⟨_, _, _, _, rfl, rfl, SqL.of upd_same, rfl, ?_⟩ | refine ⟨_, _, _, _, rfl, rfl, SqT.of upd_same, rfl, ?_⟩ | refine ⟨_, _, rfl, .inl (SqL.of upd_same), ?_⟩ | refine ⟨_, _, rfl, .inr (SqT.of upd_same), ?_⟩ | (refine' ⟨_, _, _, _, rfl, rfl, _, _, _⟩; rotate_left 2; (focus (first | assumption | exact SqL.of (by assumption) | exact SqT.of (by assumption) | exact Same.seq (by assumption) (by assumption))); (focus (exact rfl))) | (refine' ⟨_, _, rfl, _, _⟩; rotate_left 1; (focus (first | exact .inl (by assumption) | exact .inl (SqL.of (by assumption)) | exact .inr (by assumption) | exact .inr (SqT.of (by assumption)))))))
      have fin := q H { S with at_ := behind S a wd pl, js := S.js ++ [(S.at_, decide (behind S a wd pl ≠ S.at_ + 1))], tn := S.tn + 1 } rfl (fun _ _ _ _ e => e) hst hrg
      unfold behind at fin
      refine ite2 (fun e => ?_) (fun e => ?_)
      · rw [if_pos (of_decide_eq_true e)] at fin
        (repeat (first | refine ⟨_, rfl, ?_⟩ | refine ⟨_, _, rfl, rfl, ?_⟩ | refine ⟨rfl, ?_⟩ | refine .inl ⟨_, rfl, ?_⟩ | refine .inr ⟨_, rfl, ?_⟩ | refine ⟨.inr ⟨by decide, by decide⟩, ?_⟩ | refine ⟨⟨by decide, by decide⟩, ?_⟩ | refine ⟨⟨by decide, by decide, by decide⟩, ?_⟩ | refine ⟨.inr ⟨by omega, by omega⟩, ?_⟩ | refine ⟨(by show (0 : Int) < _; first | decide | omega), ?_⟩ | refine ⟨Nat.le_trans (Nat.le_of_ble_eq_true rfl : _ ≤ 50) (by decide), ?_⟩ | refine ⟨_, _, _, _, rfl, rfl, upd_same, rfl, ?_⟩ | refine ⟨_, _, _, _, rfl, rfl, SqL.of upd_same, rfl, ?_⟩ | refine ⟨_, _, _, _, rfl, rfl, SqT.of upd_same, rfl, ?_⟩ | refine ⟨_, _, rfl, .inl (SqL.of upd_same), ?_⟩ | refine ⟨_, _, rfl, .inr (SqT.of upd_same), ?_⟩ | (refine' ⟨_, _, _, _, rfl, rfl, _, _, _⟩; rotate_left 2; (focus (first | assumption | exact SqL.of (by assumption) | exact SqT.of (by assumption) | exact Same.seq (by assumption) (by assumption))); (focus (exact rfl))) | (refine' ⟨_, _, rfl, _, _⟩; rotate_left 1; (focus (first | exact .inl (by assumption) | exact .inl (SqL.of (by assumption)) | exact .inr (by assumption) | exact .inr (SqT.of (by assumption)))))))
        exact fin
      · rw [if_neg (fun z => e (decide_eq_true z))] at fin
        (repeat (first | refine ⟨_, rfl, ?_⟩ | refine ⟨_, _, rfl, rfl, ?_⟩ | refine ⟨rfl, ?_⟩ | refine .inl ⟨_, rfl, ?_⟩ | refine .inr ⟨_, rfl, ?_⟩ | refine ⟨.inr ⟨by decide, by decide⟩, ?_⟩ | refine ⟨⟨by decide, by decide⟩, ?_⟩ | refine ⟨⟨by decide, by decide, by decide⟩, ?_⟩ | refine ⟨.inr ⟨by omega, by omega⟩, ?_⟩ | refine ⟨(by show (0 : Int) < _; first | decide | omega), ?_⟩ | refine ⟨Nat.le_trans (Nat.le_of_ble_eq_true rfl : _ ≤ 50) (by decide), ?_⟩ | refine ⟨_, _, _, _, rfl, rfl, upd_same, rfl, ?_⟩ | refine ⟨_, _, _, _, rfl, rfl, SqL.of upd_same, rfl, ?_⟩ | refine ⟨_, _, _, _, rfl, rfl, SqT.of upd_same, rfl, ?_⟩ | refine ⟨_, _, rfl, .inl (SqL.of upd_same), ?_⟩ | refine ⟨_, _, rfl, .inr (SqT.of upd_same), ?_⟩ | (refine' ⟨_, _, _, _, rfl, rfl, _, _, _⟩; rotate_left 2; (focus (first | assumption | exact SqL.of (by assumption) | exact SqT.of (by assumption) | exact Same.seq (by assumption) (by assumption))); (focus (exact rfl))) | (refine' ⟨_, _, rfl, _, _⟩; rotate_left 1; (focus (first | exact .inl (by assumption) | exact .inl (SqL.of (by assumption)) | exact .inr (by assumption) | exact .inr (SqT.of (by assumption)))))))
        exact fin
    | call pl =>
      (repeat (first | refine ⟨_, rfl, ?_⟩ | refine ⟨_, _, rfl, rfl, ?_⟩ | refine ⟨rfl, ?_⟩ | refine .inl ⟨_, rfl, ?_⟩ | refine .inr ⟨_, rfl, ?_⟩ | refine ⟨.inr ⟨by decide, by decide⟩, ?_⟩ | refine ⟨⟨by decide, by decide⟩, ?_⟩ | refine ⟨⟨by decide, by decide, by decide⟩, ?_⟩ | refine ⟨.inr ⟨by omega, by omega⟩, ?_⟩ | refine ⟨(by show (0 : Int) < _; first | decide | omega), ?_⟩ | refine ⟨Nat.le_trans (Nat.le_of_ble_eq_true rfl : _ ≤ 50) (by decide), ?_⟩ | refine ⟨_, _, _, _, rfl, rfl, upd_same, rfl, ?_⟩ | refine ⟨_, _, _, _, rfl, rfl, SqL.of upd_same, rfl, ?_⟩ | refine ⟨_, _, _, _, rfl, rfl, SqT.of upd_same, rfl, ?_⟩ | refine ⟨_, _, rfl, .inl (SqL.of upd_same), ?_⟩ | refine ⟨_, _, rfl, .inr (SqT.of upd_same), ?_⟩ | (refine' ⟨_, _, _, _, rfl, rfl, _, _, _⟩; rotate_left 2; (focus (first | assumption | exact SqL.of (by assumption) | exact SqT.of (by assumption) | exact Same.seq (by assumption) (by assumption))); (focus (exact rfl))) | (refine' ⟨_, _, rfl, _, _⟩; rotate_left 1; (focus (first | exact .inl (by assumption) | exact .inl (SqL.of (by assumption)) | exact .inr (by assumption) | exact .inr (SqT.of (by assumption)))))))
      refine ⟨.inl ⟨rfl, _, SqL.of hst⟩, ?_⟩
      (repeat (first | refine ⟨_, rfl, ?_⟩ | refine ⟨_, _, rfl, rfl, ?_⟩ | refine ⟨rfl, ?_⟩ | refine .inl ⟨_, rfl, ?_⟩ | refine .inr ⟨_, rfl, ?_⟩ | refine ⟨.inr ⟨by decide, by decide⟩, ?_⟩ | refine ⟨⟨by decide, by decide⟩, ?_⟩ | refine ⟨⟨by decide, by decide, by decide⟩, ?_⟩ | refine ⟨.inr ⟨by omega, by omega⟩, ?_⟩ | refine ⟨(by show (0 : Int) < _; first | decide | omega), ?_⟩ | refine ⟨Nat.le_trans (Nat.le_of_ble_eq_true rfl : _ ≤ 50) (by decide), ?_⟩ | refine ⟨_, _, _, _, rfl, rfl, upd_same, rfl, ?_⟩ | refine ⟨_, _, _, _, rfl, rfl, SqL.of upd_same, rfl, ?_⟩ | refine ⟨_, _, _, _, rfl, rfl, SqT.of upd_same, rfl, ?_⟩ | refine ⟨_, _, rfl, .inl (SqL.of upd_same), ?_⟩ | refine ⟨_, _, rfl, .inr (SqT.of upd_same), ?_⟩ | (refine' ⟨_, _, _, _, rfl, rfl, _, _, _⟩; rotate_left 2; (focus (first | assumption | exact SqL.of (by assumption) | exact SqT.of (by assumption) | exact Same.seq (by assumption) (by assumption))); (focus (exact rfl))) | (refine' ⟨_, _, rfl, _, _⟩; rotate_left 1; (focus (first | exact .inl (by assumption) | exact .inl (SqL.of (by assumption)) | exact .inr (by assumption) | exact .inr (SqT.of (by assumption)))))))
      refine ⟨st, _, _, rfl, rfl, hst, line5' (by rw [List.length_map]; omega), ?_⟩
      have hr4 : (upd H st (.lst (S.wt.map V.int ++ [.int (S.at_ + 1)]))) r = some (.tup (Ins.call pl).row) := by
        rw [upd_ne (fun z => by rw [z, hst] at hr2; cases hr2)]
        exact hr2
      (repeat (first | refine ⟨_, rfl, ?_⟩ | refine ⟨_, _, rfl, rfl, ?_⟩ | refine ⟨rfl, ?_⟩ | refine .inl ⟨_, rfl, ?_⟩ | refine .inr ⟨_, rfl, ?_⟩ | refine ⟨.inr ⟨by decide, by decide⟩, ?_⟩ | refine ⟨⟨by decide, by decide⟩, ?_⟩ | refine ⟨⟨by decide, by decide, by decide⟩, ?_⟩ | refine ⟨.inr ⟨by omega, by omega⟩, ?_⟩ | refine ⟨(by show (0 : Int) < _; first | decide | omega), ?_⟩ | refine ⟨Nat.le_trans (Nat.le_of_ble_eq_true rfl : _ ≤ 50) (by decide), ?_⟩ | refine ⟨_, _, _, _, rfl, rfl, upd_same, rfl, ?_⟩ | refine ⟨_, _, _, _, rfl, rfl, SqL.of upd_same, rfl, ?_⟩ | refine ⟨_, _, _, _, rfl, rfl, SqT.of upd_same, rfl, ?_⟩ | refine ⟨_, _, rfl, .inl (SqL.of upd_same), ?_⟩ | refine ⟨_, _, rfl, .inr (SqT.of upd_same), ?_⟩ | (refine' ⟨_, _, _, _, rfl, rfl, _, _, _⟩; rotate_left 2; (focus (first | assumption | exact SqL.of (by assumption) | exact SqT.of (by assumption) | exact Same.seq (by assumption) (by assumption))); (focus (exact rfl))) | (refine' ⟨_, _, rfl, _, _⟩; rotate_left 1; (focus (first | exact .inl (by assumption) | exact .inl (SqL.of (by assumption)) | exact .inr (by assumption) | exact .inr (SqT.of (by assumption)))))))
      refine q _ { S with wt := S.wt ++ [S.at_ + 1], at_ := pl, tn := S.tn + 1 } ?_ (fun b o n _ e => by rw [upd_ne n]; exact e) (by rw [upd_same, List.map_append]; rfl) (by rw [upd_ne (Ne.symm hne)]; exact hrg)
      show (if S.wt.length ≥ 16 then _ else _) = _
      rw [if_neg (by have := hcl pl rfl; omega)]
    | ret =>
      have hl0 : 0 < S.wt.length := List.length_pos_iff.mpr (hret rfl)
      have hl : S.wt.length - 1 < S.wt.length := by omega
      have hlast : S.wt.getD (S.wt.length - 1) 0 = S.wt[S.wt.length - 1] := by rw [List.getD_eq_getElem?_getD, List.getElem?_eq_getElem hl]; rfl
      (repeat (first | refine ⟨_, rfl, ?_⟩ | refine ⟨_, _, rfl, rfl, ?_⟩ | refine ⟨rfl, ?_⟩ | refine .inl ⟨_, rfl, ?_⟩ | refine .inr ⟨_, rfl, ?_⟩ | refine ⟨.inr ⟨by decide, by decide⟩, ?_⟩ | refine ⟨⟨by decide, by decide⟩, ?_⟩ | refine ⟨⟨by decide, by decide, by decide⟩, ?_⟩ | refine ⟨.inr ⟨by omega, by omega⟩, ?_⟩ | refine ⟨(by show (0 : Int) < _; first | decide | omega), ?_⟩ | refine ⟨Nat.le_trans (Nat.le_of_ble_eq_true rfl : _ ≤ 50) (by decide), ?_⟩ | refine ⟨_, _, _, _, rfl, rfl, upd_same, rfl, ?_⟩ | refine ⟨_, _, _, _, rfl, rfl, SqL.of upd_same, rfl, ?_⟩ | refine ⟨_, _, _, _, rfl, rfl, SqT.of upd_same, rfl, ?_⟩ | refine ⟨_, _, rfl, .inl (SqL.of upd_same), ?_⟩ | refine ⟨_, _, rfl, .inr (SqT.of upd_same), ?_⟩ | (refine' ⟨_, _, _, _, rfl, rfl, _, _, _⟩; rotate_left 2; (focus (first | assumption | exact SqL.of (by assumption) | exact SqT.of (by assumption) | exact Same.seq (by assumption) (by assumption))); (focus (exact rfl))) | (refine' ⟨_, _, rfl, _, _⟩; rotate_left 1; (focus (first | exact .inl (by assumption) | exact .inl (SqL.of (by assumption)) | exact .inr (by assumption) | exact .inr (SqT.of (by assumption)))))))
      refine ⟨.inl ⟨rfl, _, SqL.of hst⟩, st, _, .int (S.wt.getD (S.wt.length - 1) 0), rfl, rfl, hst, ?_, ?_⟩
      · rw [List.length_map, List.getElem?_map, List.getElem?_eq_getElem hl, hlast]
        rfl
      · refine q _ { S with wt := S.wt.dropLast, at_ := S.wt.getD (S.wt.length - 1) 0, tn := S.tn + 1 } ?_ (fun b o n _ e => by rw [upd_ne n]; exact e) (by rw [upd_same, List.map_dropLast]) (by rw [upd_ne (Ne.symm hne)]; exact hrg)
        show (if 0 < S.wt.length then _ else _) = _
        rw [if_pos hl0]
end
end K32

set_option Elab.async false
set_option linter.all false
set_option maxRecDepth 100000
set_option maxHeartbeats 4000000
namespace K32
open PySem PySem.Spec PyProof.Rows L2 QX Lw GxR
def spRefusal (C CP : Addr) : Sp := fun vs H Q _ => ∃ H0 m cd S L code n, vs = [.ref m, .int n] ∧ MAt C CP H0 H m cd S L ∧ CodeAt L cd code ∧ S.tn ≤ 100000 ∧ Wts S ∧ 0 ≤ n ∧
  ((n = 0 ∧ ∃ b S', stepM S code = .ok (b, S') ∧ ∀ p H', MAt C CP H0 H' m cd S' ((p, .lst [.bl true, .bl b]) :: L) → Q (.ref p) H') ∨
   (∃ r, stepM S code = .error r ∧ ∀ p H', MAt C CP H0 H' m cd S ((p, .lst [.str "refused", .str r]) :: L) → Q (.ref p) H'))
section
variable {P : Program} {w : World} {K : PySem.W.Frag} {mg : Str → Option Value} {base : Heap}
theorem ok_refusal (T : Tx P w K mg) (G_BadRun : FnOk P w K mg base CX0 1 T.E_BadRun.f T.E_BadRun.fd ["self", "reason"] (spI1 T.E_BadRun.C "reason")) :
    FnOk P w K mg base CX0 6 T.a_law_refusal T.d_law_refusal ["machine", "turns"] (spRefusal T.c_Machine T.c_Predictor) := by
  have G_Machine_step : FnOk P w K mg base (L2.CX P w) 4 T.a_Machine_step T.d_Machine_step ["self"] (spStep T.c_Machine T.c_Predictor T.E_BadRun.C) := ok_step T G_BadRun
  have G_Machine_run : FnOk P w K mg base (L2.CX P w) 5 T.a_Machine_run T.d_Machine_run ["self", "limit"] (spRun T.c_Machine T.c_Predictor T.E_BadRun.C) := ok_run T G_BadRun
  refine T.F_law_refusal.ok sc_law_refusal (fun vs H Q E h => ?_) (fun cdv A outer s H vs Q E hr h => ?_)
  · obtain ⟨H0, m, cd, S, L, code, n, rfl, _⟩ := h
    rfl
  · obtain ⟨H0, m, cd, S, L, code, n, rfl, hm, hcd, htn, hwt, hn, h⟩ := h
    obtain ⟨dx, mo, ce, wa, wt, t, ca, p, dp, pm, flag, clock, trs, e1, e2, e3, e4, o⟩ := id hm
    have hr_Machine_step : Room 4 _ := hr.mono (by decide)
    have hr_Machine_run : Room 5 _ := hr
    have kB := isB_of T.kit (i := 1) (by show 1 < 2; decide)
    refine ⟨_, (pss_cons (ps_try_as (i := 3) rfl rfl sc_law_refusal.nd rfl rfl ⟨rfl, by decide, .inl T.g_QuietError⟩ takes0 (fun W pn xe tk _ =>
        (pss_cons (ps_if (pt_cmpR op_eq (pv 1) pe_int (nomark _))
        (pss_cons (ps_set (i := 2) sc_law_refusal.nd rfl (.inl rfl) (Fl.pe_methT0 (pv 0) T.cl_Machine T.m_Machine_step G_Machine_step hr_Machine_step T.b_Machine_step (fun σ => passAt tk σ) ))
        (pss_one (ps_ret (pe_lst (pa_cons (pe_callB (show CallR _ (.builtin "isinstance") (rIsi K) from call_isi) (by rfl) T.z_isinstance (by decide +kernel) (pa_cons (pv 2) (pa_cons (pe_bltn (v := .ty "bool") (u := .type "bool") (by rfl) T.z_bool (by decide +kernel) rfl) pa_nil))) (pa_cons (pv 2) pa_nil))))))
        pss_nil)
        (pss_one (ps_expr (Fl.pe_methT (pv 0) T.cl_Machine T.m_Machine_run G_Machine_run hr_Machine_run T.b_Machine_run (fun σ => passAt tk σ) (pa_cons (pv 1) pa_nil))))))
        (fun a oe cls d pn hz hf =>
        (pss_cons (ps_if (PW.pt (pw_and (pt_val (pe_callB (show CallR _ (.builtin "isinstance") (rIsCaught K a cls d) from call_isCaught hz hf) (by rfl) T.z_isinstance (by decide +kernel) (pa_cons (pv 3) (pa_cons (pe_glob (v := .ref T.E_BadRun.C) rfl T.E_BadRun.g rfl) pa_nil)))) (pw_and (pt_val (pe_callB (show CallR _ (.builtin "isinstance") (rIsCaught K a cls d) from call_isCaught hz hf) (by rfl) T.z_isinstance (by decide +kernel) (pa_cons (pv 3) (pa_cons (pe_bltn (v := .ty "ValueError") (u := .type "ValueError") (by rfl) T.z_ValueError (by decide +kernel) rfl) pa_nil)))) (pw_and1 (pt_not (pt_val (pe_callB (show CallR _ (.builtin "isinstance") (rIsCaught K a cls d) from call_isCaught hz hf) (by rfl) T.z_isinstance (by decide +kernel) (pa_cons (pv 3) (pa_cons (pe_glob (v := .ref T.E_BadInput.C) rfl T.E_BadInput.g rfl) pa_nil)))))))))
        (pss_one (ps_ret (pe_lst (pa_cons pe_str (pa_cons (pe_xf T.E_BadRun.xf (T.E_BadRun.no _ (by decide +kernel)) hz hf (pv 3)) pa_nil)))))
        pss_nil)
        (pss_one (ps_ret (pe_lst (pa_cons pe_str pa_nil)))))))
        (pss_one (ps_ret (pe_lst (pa_cons pe_str pa_nil))))), ?_⟩
    rcases h with ⟨rfl, b, S', hs, q⟩ | ⟨r, hs, q⟩
    · (repeat (first | refine ⟨_, rfl, ?_⟩ | refine ⟨_, _, rfl, rfl, ?_⟩ | refine ⟨rfl, ?_⟩ | refine .inl ⟨_, rfl, ?_⟩ | refine .inr ⟨_, rfl, ?_⟩ | refine ⟨.inr ⟨by decide, by decide⟩, ?_⟩ | refine ⟨⟨by decide, by decide⟩, ?_⟩ | refine ⟨⟨by decide, by decide, by decide⟩, ?_⟩ | refine ⟨.inr ⟨by omega, by omega⟩, ?_⟩ | refine ⟨(by show (0 : Int) < _; first | decide | omega), ?_⟩ | refine ⟨Nat.le_trans (Nat.le_of_ble_eq_true rfl : _ ≤ 50) (by decide), ?_⟩ | refine ⟨_, _, _, _, rfl, rfl, upd_same, rfl, ?_⟩ | refine ⟨_, _, _, _, rfl, rfl, SqL.of upd_same, rfl, ?_⟩ | refine ⟨_, _, _, _, rfl, rfl, SqT.of upd_same, rfl, ?_⟩ | refine ⟨_, _, rfl, .inl (SqL.of upd_same), ?_⟩ | refine ⟨_, _, rfl, .inr (SqT.of upd_same), ?_⟩ | (refine' ⟨_, _, _, _, rfl, rfl, _, _, _⟩; rotate_left 2; (focus (first | assumption | exact SqL.of (by assumption) | exact SqT.of (by assumption) | exact Same.seq (by assumption) (by assumption))); (focus (exact rfl))) | (refine' ⟨_, _, rfl, _, _⟩; rotate_left 1; (focus (first | exact .inl (by assumption) | exact .inl (SqL.of (by assumption)) | exact .inr (by assumption) | exact .inr (SqT.of (by assumption)))))))
      refine ⟨m, dx, _, rfl, o.get 0 rfl, rfl, ?_⟩
      refine ⟨H0, m, cd, S, L, code, rfl, hm, hcd, htn, hwt, ?_⟩
      rw [hs]
      intro H1 h1
      refine ⟨_, rfl, _, _, _, _, true, rfl, .ty "bool", .base (.bl _), kit_ty (by decide +kernel), ?_⟩
      refine ⟨_, rfl, Nat.le_of_ble_eq_true rfl, fun p hp => ?_⟩
      exact q p _ (h1.add hp)
    · by_cases hn0 : n = 0
      · subst hn0
        (repeat (first | refine ⟨_, rfl, ?_⟩ | refine ⟨_, _, rfl, rfl, ?_⟩ | refine ⟨rfl, ?_⟩ | refine .inl ⟨_, rfl, ?_⟩ | refine .inr ⟨_, rfl, ?_⟩ | refine ⟨.inr ⟨by decide, by decide⟩, ?_⟩ | refine ⟨⟨by decide, by decide⟩, ?_⟩ | refine ⟨⟨by decide, by decide, by decide⟩, ?_⟩ | refine ⟨.inr ⟨by omega, by omega⟩, ?_⟩ | refine ⟨(by show (0 : Int) < _; first | decide | omega), ?_⟩ | refine ⟨Nat.le_trans (Nat.le_of_ble_eq_true rfl : _ ≤ 50) (by decide), ?_⟩ | refine ⟨_, _, _, _, rfl, rfl, upd_same, rfl, ?_⟩ | refine ⟨_, _, _, _, rfl, rfl, SqL.of upd_same, rfl, ?_⟩ | refine ⟨_, _, _, _, rfl, rfl, SqT.of upd_same, rfl, ?_⟩ | refine ⟨_, _, rfl, .inl (SqL.of upd_same), ?_⟩ | refine ⟨_, _, rfl, .inr (SqT.of upd_same), ?_⟩ | (refine' ⟨_, _, _, _, rfl, rfl, _, _, _⟩; rotate_left 2; (focus (first | assumption | exact SqL.of (by assumption) | exact SqT.of (by assumption) | exact Same.seq (by assumption) (by assumption))); (focus (exact rfl))) | (refine' ⟨_, _, rfl, _, _⟩; rotate_left 1; (focus (first | exact .inl (by assumption) | exact .inl (SqL.of (by assumption)) | exact .inr (by assumption) | exact .inr (SqT.of (by assumption)))))))
        refine ⟨m, dx, _, rfl, o.get 0 rfl, rfl, ?_⟩
        refine ⟨H0, m, cd, S, L, code, rfl, hm, hcd, htn, hwt, ?_⟩
        rw [hs]
        intro e G he sG eG
        refine ⟨true, T.te_BadRun, fun _ x _ => ?_, fun z => Bool.noConfusion z⟩
        refine ⟨_, rfl, T.E_BadRun.C, e, _, _, _, true, rfl, rfl, rfl, eG, T.E_BadRun.T, .own _, kB.2.2 1 (by show 1 < 2; decide), ?_⟩
        refine ⟨_, rfl, iteT ?_⟩
        refine ⟨_, rfl, T.E_BadRun.C, e, _, _, _, true, rfl, rfl, rfl, eG, T.E_BadRun.T, .ty _, kB.1, ?_⟩
        refine ⟨_, rfl, iteT ?_⟩
        refine ⟨_, rfl, T.E_BadRun.C, e, _, _, _, false, rfl, rfl, rfl, eG, T.E_BadRun.T, .own _, kB.2.2 0 (by show 0 < 2; decide), ?_⟩
        refine ⟨_, rfl, iteT ?_⟩
        refine ⟨_, rfl, rfl, rfl, e, _, _, rfl, eG, rfl, ?_⟩
        refine ⟨Nat.le_of_ble_eq_true rfl, fun p hp => ?_⟩
        exact q p _ ((hm.mono sG).add hp)
      · (repeat (first | refine ⟨_, rfl, ?_⟩ | refine ⟨_, _, rfl, rfl, ?_⟩ | refine ⟨rfl, ?_⟩ | refine .inl ⟨_, rfl, ?_⟩ | refine .inr ⟨_, rfl, ?_⟩ | refine ⟨.inr ⟨by decide, by decide⟩, ?_⟩ | refine ⟨⟨by decide, by decide⟩, ?_⟩ | refine ⟨⟨by decide, by decide, by decide⟩, ?_⟩ | refine ⟨.inr ⟨by omega, by omega⟩, ?_⟩ | refine ⟨(by show (0 : Int) < _; first | decide | omega), ?_⟩ | refine ⟨Nat.le_trans (Nat.le_of_ble_eq_true rfl : _ ≤ 50) (by decide), ?_⟩ | refine ⟨_, _, _, _, rfl, rfl, upd_same, rfl, ?_⟩ | refine ⟨_, _, _, _, rfl, rfl, SqL.of upd_same, rfl, ?_⟩ | refine ⟨_, _, _, _, rfl, rfl, SqT.of upd_same, rfl, ?_⟩ | refine ⟨_, _, rfl, .inl (SqL.of upd_same), ?_⟩ | refine ⟨_, _, rfl, .inr (SqT.of upd_same), ?_⟩ | (refine' ⟨_, _, _, _, rfl, rfl, _, _, _⟩; rotate_left 2; (focus (first | assumption | exact SqL.of (by assumption) | exact SqT.of (by assumption) | exact Same.seq (by assumption) (by assumption))); (focus (exact rfl))) | (refine' ⟨_, _, rfl, _, _⟩; rotate_left 1; (focus (first | exact .inl (by assumption) | exact .inl (SqL.of (by assumption)) | exact .inr (by assumption) | exact .inr (SqT.of (by assumption)))))))
        refine ite2 (fun z => absurd (of_decide_eq_true z) (fun y => hn0 (by injection y))) (fun _ => ?_)
        (repeat (first | refine ⟨_, rfl, ?_⟩ | refine ⟨_, _, rfl, rfl, ?_⟩ | refine ⟨rfl, ?_⟩ | refine .inl ⟨_, rfl, ?_⟩ | refine .inr ⟨_, rfl, ?_⟩ | refine ⟨.inr ⟨by decide, by decide⟩, ?_⟩ | refine ⟨⟨by decide, by decide⟩, ?_⟩ | refine ⟨⟨by decide, by decide, by decide⟩, ?_⟩ | refine ⟨.inr ⟨by omega, by omega⟩, ?_⟩ | refine ⟨(by show (0 : Int) < _; first | decide | omega), ?_⟩ | refine ⟨Nat.le_trans (Nat.le_of_ble_eq_true rfl : _ ≤ 50) (by decide), ?_⟩ | refine ⟨_, _, _, _, rfl, rfl, upd_same, rfl, ?_⟩ | refine ⟨_, _, _, _, rfl, rfl, SqL.of upd_same, rfl, ?_⟩ | refine ⟨_, _, _, _, rfl, rfl, SqT.of upd_same, rfl, ?_⟩ | refine ⟨_, _, rfl, .inl (SqL.of upd_same), ?_⟩ | refine ⟨_, _, rfl, .inr (SqT.of upd_same), ?_⟩ | (refine' ⟨_, _, _, _, rfl, rfl, _, _, _⟩; rotate_left 2; (focus (first | assumption | exact SqL.of (by assumption) | exact SqT.of (by assumption) | exact Same.seq (by assumption) (by assumption))); (focus (exact rfl))) | (refine' ⟨_, _, rfl, _, _⟩; rotate_left 1; (focus (first | exact .inl (by assumption) | exact .inl (SqL.of (by assumption)) | exact .inr (by assumption) | exact .inr (SqT.of (by assumption)))))))
        refine ⟨m, dx, _, rfl, o.get 0 rfl, rfl, ?_⟩
        refine ⟨_, rfl, H0, m, cd, S, L, code, n, rfl, hm, hcd, htn, hwt, by omega, .inr ⟨r, hs, ?_⟩⟩
        intro e G he sG eG
        refine ⟨true, T.te_BadRun, fun _ x _ => ?_, fun z => Bool.noConfusion z⟩
        refine ⟨_, rfl, T.E_BadRun.C, e, _, _, _, true, rfl, rfl, rfl, eG, T.E_BadRun.T, .own _, kB.2.2 1 (by show 1 < 2; decide), ?_⟩
        refine ⟨_, rfl, iteT ?_⟩
        refine ⟨_, rfl, T.E_BadRun.C, e, _, _, _, true, rfl, rfl, rfl, eG, T.E_BadRun.T, .ty _, kB.1, ?_⟩
        refine ⟨_, rfl, iteT ?_⟩
        refine ⟨_, rfl, T.E_BadRun.C, e, _, _, _, false, rfl, rfl, rfl, eG, T.E_BadRun.T, .own _, kB.2.2 0 (by show 0 < 2; decide), ?_⟩
        refine ⟨_, rfl, iteT ?_⟩
        refine ⟨_, rfl, rfl, rfl, e, _, _, rfl, eG, rfl, ?_⟩
        refine ⟨Nat.le_of_ble_eq_true rfl, fun p hp => ?_⟩
        exact q p _ ((hm.mono sG).add hp)
end
end K32

set_option Elab.async false
set_option linter.all false
set_option maxRecDepth 100000
set_option maxHeartbeats 4000000
namespace K32
open PySem PySem.Spec PyProof.Rows L2 QX Lw GxR
def spRefused (C CP : Addr) : Sp := fun vs H Q _ => ∃ H0 m cd S L code r, vs = [.ref m, .str r] ∧ MAt C CP H0 H m cd S L ∧ CodeAt L cd code ∧ S.tn ≤ 100000 ∧ Wts S ∧ stepM S code = .error r ∧ SeqAt.shaped (.list [.str "refused", .str r]) = true ∧
  ∀ H', MAt C CP H0 H' m cd S L → Q (.bl true) H'
def spHolds (C CP : Addr) : Sp := fun vs H Q _ => ∃ H0 m cd S L st rg, vs = [.ref m, .int S.at_, .ref st, .ref rg, .bl S.over, .int S.tn] ∧ MAt C CP H0 H m cd S L ∧ (st, HO.lst (S.wt.map V.int)) ∈ L ∧ (rg, HO.lst (S.ws.map V.int)) ∈ L ∧
  ∀ H', MAt C CP H0 H' m cd S L → Q (.bl true) H'
theorem CodeAt.more {L L' : List (Addr × HO)} {cd : Addr} {code : List Ins} (h : CodeAt L cd code) (s : ∀ q, q ∈ L → q ∈ L') : CodeAt L' cd code := by
  obtain ⟨rs, h1, h2, h3⟩ := h.ex
  exact ⟨⟨rs, s _ h1, h2, fun i ins hi => by obtain ⟨r, a, b⟩ := h3 i ins hi; exact ⟨r, a, s _ b⟩⟩, h.ok⟩
theorem MAt.ins {C CP : Addr} {H0 H : Hp} {m cd : Addr} {S : MS} {L : List (Addr × HO)} (h : MAt C CP H0 H m cd S L) : ∃ (dx cd mo ce wa wt t ca p : Addr) (flag at_ clock : Int) (over : Bool), H m = some (.ins C dx (mf cd mo ce wa wt t ca p flag at_ clock over)) := by
  obtain ⟨dx, mo, ce, wa, wt, t, ca, p, dp, pm, flag, clock, trs, e1, e2, e3, e4, o⟩ := h
  exact ⟨_, _, _, _, _, _, _, _, _, _, _, _, _, o.get 0 rfl⟩
section
variable {P : Program} {w : World} {K : PySem.W.Frag} {mg : Str → Option Value} {base : Heap}
theorem ok_refused (T : Tx P w K mg) (G_BadRun : FnOk P w K mg base CX0 1 T.E_BadRun.f T.E_BadRun.fd ["self", "reason"] (spI1 T.E_BadRun.C "reason")) :
    FnOk P w K mg base CX0 7 T.a_law_refused T.d_law_refused ["machine", "reason"] (spRefused T.c_Machine T.c_Predictor) := by
  have G_law_refusal : FnOk P w K mg base CX0 6 T.a_law_refusal T.d_law_refusal ["machine", "turns"] (spRefusal T.c_Machine T.c_Predictor) := ok_refusal T G_BadRun
  refine T.F_law_refused.ok sc_law_refused (fun vs H Q E h => ?_) (fun cdv A outer s H vs Q E hr h => ?_)
  · obtain ⟨H0, m, cd, S, L, code, r, rfl, _⟩ := h
    rfl
  · obtain ⟨H0, m, cd, S, L, code, r, rfl, hm, hcd, htn, hwt, hs, hsh, q⟩ := h
    have hr_law_refusal : Room 6 _ := hr
    refine ⟨_, (pss_cons (ps_for PassesOwn.never rfl (pi_list (pe_lst (pa_cons pe_int (pa_cons pe_int (pa_cons pe_int pa_nil))))) (pg_name (i := 2) sc_law_refused.nd rfl (.inl rfl))
        (pss_one (ps_if (pt_cmpR (op_neD hr.units) (pe_call G_law_refusal hr_law_refusal (by rfl) T.g_law_refusal T.F_law_refusal.kp T.b_law_refusal .nil pass0 (pa_cons (pv 0) (pa_cons (pv 2) pa_nil))) (pe_lst (pa_cons pe_str (pa_cons (pv 1) pa_nil))) (nomark _))
        (pss_one (ps_ret pe_bl))
        pss_nil)))
        (pss_one (ps_ret pe_bl))), ?_⟩
    (repeat (first | refine ⟨_, rfl, ?_⟩ | refine ⟨_, _, rfl, rfl, ?_⟩ | refine ⟨rfl, ?_⟩ | refine .inl ⟨_, rfl, ?_⟩ | refine .inr ⟨_, rfl, ?_⟩ | refine ⟨.inr ⟨by decide, by decide⟩, ?_⟩ | refine ⟨⟨by decide, by decide⟩, ?_⟩ | refine ⟨⟨by decide, by decide, by decide⟩, ?_⟩ | refine ⟨.inr ⟨by omega, by omega⟩, ?_⟩ | refine ⟨(by show (0 : Int) < _; first | decide | omega), ?_⟩ | refine ⟨Nat.le_trans (Nat.le_of_ble_eq_true rfl : _ ≤ 50) (by decide), ?_⟩ | refine ⟨_, _, _, _, rfl, rfl, upd_same, rfl, ?_⟩ | refine ⟨_, _, _, _, rfl, rfl, SqL.of upd_same, rfl, ?_⟩ | refine ⟨_, _, _, _, rfl, rfl, SqT.of upd_same, rfl, ?_⟩ | refine ⟨_, _, rfl, .inl (SqL.of upd_same), ?_⟩ | refine ⟨_, _, rfl, .inr (SqT.of upd_same), ?_⟩ | (refine' ⟨_, _, _, _, rfl, rfl, _, _, _⟩; rotate_left 2; (focus (first | assumption | exact SqL.of (by assumption) | exact SqT.of (by assumption) | exact Same.seq (by assumption) (by assumption))); (focus (exact rfl))) | (refine' ⟨_, _, rfl, _, _⟩; rotate_left 1; (focus (first | exact .inl (by assumption) | exact .inl (SqL.of (by assumption)) | exact .inr (by assumption) | exact .inr (SqT.of (by assumption)))))))
    refine fun l hl => ?_
    have hm1 := hm.add (u := .lst [.int 0, .int 5, .int 0]) hl
    refine ⟨l, rfl, ⟨_, SqL.of (hm1.mem (List.mem_cons_self ..))⟩, for_it (walk_list (K := K) (a := l) (xs := [.int 0, .int 5, .int 0])) (fun i σ H' => ∃ v, σ = [some (.ref m), some (.str r), v] ∧ MAt T.c_Machine T.c_Predictor H0 H' m cd S ((l, .lst [.int 0, .int 5, .int 0]) :: L)) ⟨_, rfl, hm1⟩ (fun i σ H' _ h => by obtain ⟨_, _, u⟩ := h; exact SqL.of (u.mem (List.mem_cons_self ..))) ?_ ?_⟩
    · rintro i x σ H1 H2 hi ⟨v, rfl, u⟩ ⟨rfl, hx⟩
      have hx2 : ∃ n, x = .int n ∧ 0 ≤ n := by
        have hmm := List.mem_of_getElem? hx
        simp only [List.mem_cons, List.not_mem_nil, or_false] at hmm
        rcases hmm with rfl | rfl | rfl
        · exact ⟨_, rfl, by decide⟩
        · exact ⟨_, rfl, by decide⟩
        · exact ⟨_, rfl, by decide⟩
      obtain ⟨n, rfl, hn⟩ := hx2
      refine ⟨_, rfl, _, rfl, ?_⟩
      refine ⟨H0, m, cd, S, _, code, n, rfl, u, hcd.more (fun q hq => List.mem_cons_of_mem _ hq), htn, hwt, hn, .inr ⟨r, hs, fun p H3 u3 => ?_⟩⟩
      refine ⟨_, rfl, Nat.le_of_ble_eq_true rfl, fun p2 hp2 => ?_⟩
      have u4 := u3.add (u := .lst [.str "refused", .str r]) hp2
      have dp : ∀ a, (a, HO.lst [V.str "refused", .str r]) ∈ (p2, HO.lst [V.str "refused", .str r]) :: (p, HO.lst [V.str "refused", .str r]) :: (l, HO.lst [V.int 0, .int 5, .int 0]) :: L → Dp K (upd H3 p2 (.lst [.str "refused", .str r])) (.ref a) (.list [.str "refused", .str r]) := fun a ha =>
        Dp.lst (SqL.of (u4.mem ha)) (.cons (.str _) (.cons (.str _) .nil))
      refine ⟨_, _, dp p (by simp), dp p2 (by simp), hsh, hsh, ?_⟩
      rw [SeqAt.eqv_refl _ (SeqAt.canLay_of_shaped hsh)]
      refine ⟨_, rfl, iteF' rfl ?_⟩
      exact ⟨_, rfl, u4.sub (by simp)⟩
    · rintro σ H1 ⟨v, rfl, u⟩
      exact q H1 (u.sub (List.sublist_cons_self _ _))
theorem ok_holds (T : Tx P w K mg) : FnOk P w K mg base CX0 2 T.a_law_holds T.d_law_holds ["machine", "place", "stack", "registers", "ended", "count"] (spHolds T.c_Machine T.c_Predictor) := by
  have G_law_same_words : FnOk P w K mg base CX0 1 T.a_law_same_words T.d_law_same_words ["actual", "due"] spSame := ok_same T
  have G_Machine_place : FnOk P w K mg base CX0 1 T.a_Machine_place T.d_Machine_place ["self"] (spGet T.c_Machine T.c_Predictor fun S => .int S.at_) := ok_place T
  have G_Machine_ended : FnOk P w K mg base CX0 1 T.a_Machine_ended T.d_Machine_ended ["self"] (spGet T.c_Machine T.c_Predictor fun S => .bl S.over) := ok_ended T
  have G_Machine_registers : FnOk P w K mg base CX0 1 T.a_Machine_registers T.d_Machine_registers ["self"] (spList T.c_Machine T.c_Predictor fun S xs => xs = S.ws.map V.int) := ok_regs T
  have G_Machine_stack : FnOk P w K mg base CX0 1 T.a_Machine_stack T.d_Machine_stack ["self"] (spList T.c_Machine T.c_Predictor fun S xs => xs = S.wt.map V.int) := ok_stack T
  have G_Machine_shown : FnOk P w K mg base CX0 1 T.a_Machine_shown T.d_Machine_shown ["self"] (spList T.c_Machine T.c_Predictor fun S xs => xs.length = S.tn) := ok_shown T
  refine T.F_law_holds.ok sc_law_holds (fun vs H Q E h => ?_) (fun cdv A outer s H vs Q E hr h => ?_)
  · obtain ⟨H0, m, cd, S, L, st, rg, rfl, _⟩ := h
    rfl
  · obtain ⟨H0, m, cd, S, L, st, rg, rfl, hm, hst, hrg, q⟩ := h
    have hr_law_same_words : Room 1 _ := hr
    have hr_Machine_place : Room 1 _ := hr
    have hr_Machine_ended : Room 1 _ := hr
    have hr_Machine_registers : Room 1 _ := hr
    have hr_Machine_stack : Room 1 _ := hr
    have hr_Machine_shown : Room 1 _ := hr
    obtain ⟨dx0, _, _, _, _, _, _, _, _, _, _, _, _, _, e2, e3, _, o0⟩ := id hm
    refine ⟨_, (pss_cons (ps_for PassesOwn.never rfl (pi_range1 rfl T.z_range (pa_cons pe_int pa_nil)) (pg_name (i := 6) sc_law_holds.nd rfl (.inl rfl))
        (pss_cons (ps_if (PW.pt (pw_or (pt_not (pt_val (pe_call G_law_same_words hr_law_same_words (by rfl) T.g_law_same_words T.F_law_same_words.kp T.b_law_same_words .nil pass0 (pa_cons (pe_lst (pa_cons (pe_meth0 (pv 0) T.cl_Machine T.m_Machine_place G_Machine_place hr_Machine_place T.b_Machine_place .nil pass0 ) pa_nil)) (pa_cons (pe_lst (pa_cons (pv 1) pa_nil)) pa_nil))))) (pw_or1 (pt_not (pt_val (pe_call G_law_same_words hr_law_same_words (by rfl) T.g_law_same_words T.F_law_same_words.kp T.b_law_same_words .nil pass0 (pa_cons (pe_meth0 (pv 0) T.cl_Machine T.m_Machine_registers G_Machine_registers hr_Machine_registers T.b_Machine_registers .nil pass0 ) (pa_cons (pv 3) pa_nil))))))))
        (pss_one (ps_ret pe_bl))
        pss_nil)
        (pss_cons (ps_set (i := 7) sc_law_holds.nd rfl (.inl rfl) (pe_meth0 (pv 0) T.cl_Machine T.m_Machine_stack G_Machine_stack hr_Machine_stack T.b_Machine_stack .nil pass0 ))
        (pss_cons (ps_if (PW.pt (pw_or (pt_not (pt_val (pe_call G_law_same_words hr_law_same_words (by rfl) T.g_law_same_words T.F_law_same_words.kp T.b_law_same_words .nil pass0 (pa_cons (pv 7) (pa_cons (pv 2) pa_nil))))) (pw_or1 (pt_cmpR op_ne (pe_callB call_len_seq (by rfl) T.z_len (by decide +kernel) (pa_cons (pe_meth0 (pv 0) T.cl_Machine T.m_Machine_shown G_Machine_shown hr_Machine_shown T.b_Machine_shown .nil pass0 ) pa_nil)) (pv 5) (nomark _)))))
        (pss_one (ps_ret pe_bl))
        pss_nil)
        (pss_cons (ps_if (PW.pt (pw_or (pt_not (pt_val (pe_callB call_isi (by rfl) T.z_isinstance (by decide +kernel) (pa_cons (pe_meth0 (pv 0) T.cl_Machine T.m_Machine_ended G_Machine_ended hr_Machine_ended T.b_Machine_ended .nil pass0 ) (pa_cons (pe_bltn (v := .ty "bool") (u := .type "bool") (by rfl) T.z_bool (by decide +kernel) rfl) pa_nil))))) (pw_or1 (pt_cmpR op_ne (pe_meth0 (pv 0) T.cl_Machine T.m_Machine_ended G_Machine_ended hr_Machine_ended T.b_Machine_ended .nil pass0 ) (pv 4) (nomark _)))))
        (pss_one (ps_ret pe_bl))
        pss_nil)
        (pss_one (ps_expr (pe_bm PySem.F.plainAttrs_list PySem.F.slot_list_append PySem.F.type_list_append mt_append (pv 7) (pa_cons pe_int pa_nil)))))))))
        (pss_one (ps_ret pe_bl))), ?_⟩
    refine ⟨2, rfl, by decide, by decide, for_range (lo := 0) (n := 2) (fun i σ H' => ∃ v w, σ = [some (.ref m), some (.int S.at_), some (.ref st), some (.ref rg), some (.bl S.over), some (.int S.tn), v, w] ∧ MAt T.c_Machine T.c_Predictor H0 H' m cd S L) ⟨_, _, rfl, hm⟩ ?_ ?_⟩
    · rintro i σ H1 hi ⟨v, w, rfl, u⟩
      obtain ⟨dx, cd', mo, ce, wa, wt, t, ca, p, flag, at', clock, over, hi1⟩ := u.ins
      refine ⟨_, rfl, m, dx, _, rfl, hi1, rfl, ?_⟩
      refine ⟨H0, m, cd, S, L, rfl, u, ?_⟩
      refine ⟨Nat.le_of_ble_eq_true rfl, fun l1 hl1 => ?_⟩
      have u1 := u.add (u := .lst [.int S.at_]) hl1
      refine ⟨_, rfl, Nat.le_of_ble_eq_true rfl, fun l2 hl2 => ?_⟩
      have u2 := u1.add (u := .lst [.int S.at_]) hl2
      refine ⟨l1, l2, [S.at_], rfl, u2.mem (by simp), u2.mem (by simp), by show 1 ≤ 100; decide, ?_⟩
      refine ⟨_, rfl, iteF' rfl ?_⟩
      obtain ⟨dx, cd', mo, ce, wa, wt, t, ca, p, flag, at', clock, over, hi1⟩ := u2.ins
      refine ⟨_, rfl, m, dx, _, rfl, hi1, rfl, ?_⟩
      refine ⟨H0, m, cd, S, _, rfl, u2, ?_⟩
      rintro l3 xs hl3 rfl
      have u3 := u2.add (u := .lst (S.ws.map V.int)) hl3
      refine ⟨_, rfl, l3, rg, S.ws, rfl, u3.mem (by simp), u3.mem (by simp [hrg]), by omega, ?_⟩
      refine ⟨_, rfl, iteF' rfl ?_⟩
      obtain ⟨dx, cd', mo, ce, wa, wt, t, ca, p, flag, at', clock, over, hi1⟩ := u3.ins
      refine ⟨_, rfl, m, dx, _, rfl, hi1, rfl, ?_⟩
      refine ⟨H0, m, cd, S, _, rfl, u3, ?_⟩
      rintro l4 xs hl4 rfl
      have u4 := (u3.sub (L' := L) (List.Sublist.cons _ (List.Sublist.cons _ (List.sublist_cons_self _ _)))).add (u := .lst (S.wt.map V.int)) hl4
      clear u3 u2 u1
      refine ⟨_, rfl, _, rfl, l4, st, S.wt, rfl, u4.mem (by simp), u4.mem (by simp [hst]), by omega, ?_⟩
      refine ⟨_, rfl, iteF' rfl ?_⟩
      obtain ⟨dx, cd', mo, ce, wa, wt, t, ca, p, flag, at', clock, over, hi1⟩ := u4.ins
      refine ⟨_, rfl, m, dx, _, rfl, hi1, rfl, ?_⟩
      refine ⟨H0, m, cd, S, _, rfl, u4, ?_⟩
      intro l5 xs hl5 hxs
      have u5 := u4.add (u := .lst xs) hl5
      refine ⟨_, _, rfl, .inl (SqL.of upd_same), ?_⟩
      refine ⟨_, rfl, rfl, _, rfl, iteF' (by simp [hxs]) ?_⟩
      obtain ⟨dx, cd', mo, ce, wa, wt, t, ca, p, flag, at', clock, over, hi1⟩ := u5.ins
      refine ⟨_, rfl, m, dx, _, rfl, hi1, rfl, ?_⟩
      refine ⟨H0, m, cd, S, _, rfl, u5, ?_⟩
      refine ⟨_, _, _, _, true, rfl, .ty "bool", .base (.bl _), kit_ty (by decide +kernel), ?_⟩
      refine ⟨_, rfl, iteF' rfl ?_⟩
      refine ⟨_, rfl, m, dx, _, rfl, hi1, rfl, ?_⟩
      refine ⟨H0, m, cd, S, _, rfl, u5, ?_⟩
      refine ⟨_, rfl, rfl, _, rfl, iteF' (by simp) ?_⟩
      have k4 := u5.mem (a := l4) (u := .lst (S.wt.map V.int)) (by simp)
      refine ⟨_, rfl, .inl ⟨rfl, _, SqL.of k4⟩, ?_⟩
      refine ⟨l4, _, _, rfl, rfl, k4, line5' (by rw [List.length_map]; omega), ?_⟩
      have u6 := u5.put (u' := .lst (S.wt.map V.int ++ [.int 3])) 1 rfl
      exact ⟨_, _, rfl, u6.sub (List.Sublist.cons _ (List.sublist_cons_self _ _))⟩
    · rintro σ H1 ⟨v, w, rfl, u⟩
      exact q H1 u
end
end K32

set_option Elab.async false
set_option linter.all false
set_option maxRecDepth 100000
set_option maxHeartbeats 4000000
namespace K32
open PySem PySem.Spec PyProof.Rows L2 QX Lw GxR
/-- a source at p, and what is new and known since H0 -/
def Dr (H0 H : Hp) (p : Addr) (L : List (Addr × HO)) : Prop := ∃ x y : Int, 0 ≤ x ∧ Objs H0 H ((p, .lst [.int x, .int y]) :: L)
section
variable {H0 H : Hp} {p a : Addr} {L : List (Addr × HO)} {u : HO} {Q : VK} {E : XK} {m : Int}
theorem Dr.draw (h : Dr H0 H p L) (m0 : 0 < m) (m1 : m ≤ 100000) (q : ∀ v H', 0 ≤ v → v < m → Dr H0 H' p L → Q (.int v) H') : spDraw [.ref p, .int m] H Q E := by
  obtain ⟨x, y, hx, o⟩ := h
  exact ⟨p, x, y, m, rfl, o.get 0 rfl, hx, m0, m1, fun v x' y' v0 v1 x0 => q v _ v0 v1 ⟨x', y', x0, o.put 0 rfl⟩⟩
theorem Dr.add (h : Dr H0 H p L) (n : H a = none) : Dr H0 (upd H a u) p ((a, u) :: L) := by
  obtain ⟨x, y, hx, o⟩ := h
  exact ⟨x, y, hx, Objs.perm (o.add n) (.swap _ _ _)⟩
theorem Dr.mem (h : Dr H0 H p L) (hm : (a, u) ∈ L) : H a = some u := by
  obtain ⟨x, y, hx, o⟩ := h
  exact o.at_ (a, u) (List.mem_cons_of_mem _ hm)
theorem Dr.nil (h : Dr H0 H p L) : Dr H0 H p [] := by
  obtain ⟨x, y, hx, o⟩ := h
  exact ⟨x, y, hx, o.sub ((List.nil_sublist _).cons_cons _)⟩
end
def spIns : Sp := fun vs H Q _ => ∃ H0 p L size deep, vs = [.ref p, .int size, .bl deep] ∧ Dr H0 H p L ∧ 0 < size ∧ size ≤ 100 ∧ ∀ r i H', i.ok → Dr H0 H' p [(r, .tup (Ins.row i))] → Q (.ref r) H'
def I1 (H0 : Hp) (p : Addr) (size : Int) (deep : Bool) : L2.St → Hp → Prop := fun σ H => ∃ pl L, σ = [some (.ref p), some (.int size), some (.bl deep), some (.int pl), none, none, none] ∧ 0 ≤ pl ∧ Dr H0 H p L
def I2 (H0 : Hp) (p : Addr) (size : Int) (deep : Bool) : L2.St → Hp → Prop := fun σ H => ∃ pl wd at_ L, σ = [some (.ref p), some (.int size), some (.bl deep), some (.int pl), some (.int wd), some (.int at_), none] ∧ 0 ≤ pl ∧ 0 ≤ at_ ∧ at_ < 16 ∧ Dr H0 H p L
def I3 (H0 : Hp) (p : Addr) (size : Int) (deep : Bool) : L2.St → Hp → Prop := fun σ H => ∃ pl wd at_ sh L, σ = [some (.ref p), some (.int size), some (.bl deep), some (.int pl), some (.int wd), some (.int at_), some (.int sh)] ∧ 0 ≤ pl ∧ 0 ≤ at_ ∧ at_ < 16 ∧ Dr H0 H p L
theorem four_of {a b c d j : Int} (h0 : 0 ≤ j) (h1 : j < 4) : ∃ z, atI [V.int a, .int b, .int c, .int d] j = some (.int z) := by
  have h : j = 0 ∨ j = 1 ∨ j = 2 ∨ j = 3 := by omega
  rcases h with h | h | h | h <;> rw [h] <;> exact ⟨_, rfl⟩
theorem five_of (n : Int) : ∃ z, atI [V.int 0, .int 3, .int 6, .int 6, .int 6] (n % 5) = some (.int z) := by
  have h : n % 5 = 0 ∨ n % 5 = 1 ∨ n % 5 = 2 ∨ n % 5 = 3 ∨ n % 5 = 4 := by omega
  rcases h with h | h | h | h | h <;> rw [h] <;> exact ⟨_, rfl⟩
section
variable {P : Program} {w : World} {K : PySem.W.Frag} {mg : Str → Option Value} {base : Heap}
theorem ok_ins (T : Tx P w K mg) : FnOk P w K mg base CX0 2 T.a_law_instruction T.d_law_instruction ["source", "size", "deep"] spIns := by
  have G_law_draw : FnOk P w K mg base CX0 1 T.a_law_draw T.d_law_draw ["source", "many"] spDraw := ok_draw T
  refine T.F_law_instruction.ok sc_law_instruction (fun vs H Q E h => ?_) (fun cdv A outer s H vs Q E hr h => ?_)
  · obtain ⟨H0, p, L, size, deep, rfl, _⟩ := h
    rfl
  · obtain ⟨H0, p, L, size, deep, rfl, o, hs0, hs1, q⟩ := h
    have hr_law_draw : Room 1 _ := hr
    refine ⟨_, (pss_cons (ps_set (i := 3) sc_law_instruction.nd rfl (.inl rfl) (pe_call G_law_draw hr_law_draw (by rfl) T.g_law_draw T.F_law_draw.kp T.b_law_draw .nil pass0 (pa_cons (pv 0) (pa_cons (pe_op op_add (pv 1) pe_int) pa_nil))))
        (C8.pss_cut (ps_if (pt_cmpR op_eq (pe_call G_law_draw hr_law_draw (by rfl) T.g_law_draw T.F_law_draw.kp T.b_law_draw .nil pass0 (pa_cons (pv 0) (pa_cons pe_int pa_nil))) pe_int (nomark _))
        (pss_one (ps_set (i := 3) sc_law_instruction.nd rfl (.inl rfl) (pe_call G_law_draw hr_law_draw (by rfl) T.g_law_draw T.F_law_draw.kp T.b_law_draw .nil pass0 (pa_cons (pv 0) (pa_cons pe_int pa_nil)))))
        pss_nil)
        (pss_cons (ps_set (i := 4) sc_law_instruction.nd rfl (.inl rfl) (pe_ix ix_list (pe_lst (pa_cons (pe_call G_law_draw hr_law_draw (by rfl) T.g_law_draw T.F_law_draw.kp T.b_law_draw .nil pass0 (pa_cons (pv 0) (pa_cons pe_int pa_nil))) (pa_cons (pe_call G_law_draw hr_law_draw (by rfl) T.g_law_draw T.F_law_draw.kp T.b_law_draw .nil pass0 (pa_cons (pv 0) (pa_cons pe_int pa_nil))) (pa_cons pe_int (pa_cons (pe_call G_law_draw hr_law_draw (by rfl) T.g_law_draw T.F_law_draw.kp T.b_law_draw .nil pass0 (pa_cons (pv 0) (pa_cons pe_int pa_nil))) pa_nil))))) (pe_call G_law_draw hr_law_draw (by rfl) T.g_law_draw T.F_law_draw.kp T.b_law_draw .nil pass0 (pa_cons (pv 0) (pa_cons pe_int pa_nil))) (fun _ _ => rfl)))
        (pss_cons (ps_set (i := 5) sc_law_instruction.nd rfl (.inl rfl) (pe_call G_law_draw hr_law_draw (by rfl) T.g_law_draw T.F_law_draw.kp T.b_law_draw .nil pass0 (pa_cons (pv 0) (pa_cons pe_int pa_nil))))
        (C8.pss_cut (ps_if (pt_cmpR op_eq (pe_call G_law_draw hr_law_draw (by rfl) T.g_law_draw T.F_law_draw.kp T.b_law_draw .nil pass0 (pa_cons (pv 0) (pa_cons pe_int pa_nil))) pe_int (nomark _))
        (pss_one (ps_set (i := 5) sc_law_instruction.nd rfl (.inl rfl) (pe_op op_mod (pv 5) pe_int)))
        pss_nil)
        (pss_cons (ps_set (i := 6) sc_law_instruction.nd rfl (.inl rfl) (pe_call G_law_draw hr_law_draw (by rfl) T.g_law_draw T.F_law_draw.kp T.b_law_draw .nil pass0 (pa_cons (pv 0) (pa_cons pe_int pa_nil))))
        (C8.pss_cut (ps_if (pt_val (pv 2))
        (pss_one (ps_set (i := 6) sc_law_instruction.nd rfl (.inl rfl) (pe_ix ix_list (pe_lst (pa_cons pe_int (pa_cons pe_int (pa_cons pe_int (pa_cons pe_int (pa_cons pe_int pa_nil)))))) (pe_op op_mod (pv 6) pe_int) (fun _ _ => rfl))))
        pss_nil)
        (pss_cons (ps_if (pt_cmpR op_lt (pv 6) pe_int (nomark _))
        (pss_one (ps_ret (pe_tup (pa_cons pe_str (pa_cons (pv 5) (pa_cons (pv 4) pa_nil))))))
        pss_nil)
        (pss_cons (ps_if (pt_cmpR op_eq (pv 6) pe_int (nomark _))
        (pss_one (ps_ret (pe_tup (pa_cons pe_str pa_nil))))
        pss_nil)
        (pss_cons (ps_if (pt_cmpR op_eq (pv 6) pe_int (nomark _))
        (pss_one (ps_ret (pe_tup (pa_cons pe_str (pa_cons (pv 3) pa_nil)))))
        pss_nil)
        (pss_cons (ps_if (pt_cmpR op_lt (pv 6) pe_int (nomark _))
        (pss_one (ps_ret (pe_tup (pa_cons pe_str (pa_cons (pv 5) (pa_cons (pv 4) (pa_cons (pv 3) pa_nil)))))))
        pss_nil)
        (pss_cons (ps_if (pt_cmpR op_lt (pv 6) pe_int (nomark _))
        (pss_one (ps_ret (pe_tup (pa_cons pe_str (pa_cons (pv 3) pa_nil)))))
        pss_nil)
        (pss_one (ps_ret (pe_tup (pa_cons pe_str pa_nil)))))))))))))))), ?_⟩
    refine ⟨_, rfl, _, rfl, _, _, rfl, rfl, ?_⟩
    dsimp only [tCons, tC, tNil]
    refine o.draw (by omega) (by omega) fun pl H1 p0 p1 o1 => ?_
    refine ⟨I1 H0 p size deep, ?_, ?_⟩
    · refine ⟨_, rfl, ?_⟩
      dsimp only [tCons, tC, tNil]
      refine o1.draw (by decide) (by decide) fun v H2 v0 v1 o2 => ?_
      refine ⟨rfl, _, rfl, ite2 (fun _ => ?_) (fun _ => ?_)⟩
      · refine ⟨_, rfl, ?_⟩
        dsimp only [tCons, tC, tNil]
        refine o2.draw (by decide) (by decide) fun v H3 v0 v1 o3 => ?_
        exact ⟨v, L, rfl, v0, o3⟩
      · exact ⟨pl, L, rfl, p0, o2⟩
    · clear o p0 p1 o1
      rintro σ H ⟨pl, L, rfl, hpl, o⟩
      refine ⟨_, rfl, ?_⟩
      dsimp only [tCons, tC, tNil]
      refine o.draw (by decide) (by decide) fun v1 H1 _ _ o1 => ?_
      refine ⟨_, rfl, ?_⟩
      dsimp only [tCons, tC, tNil]
      refine o1.draw (by decide) (by decide) fun w H2 w0 w1 o2 => ?_
      refine ⟨_, rfl, ?_⟩
      dsimp only [tCons, tC, tNil]
      refine o2.draw (by decide) (by decide) fun y H3 y0 y1 o3 => ?_
      refine ⟨Nat.le_of_ble_eq_true rfl, fun l hl => ?_⟩
      have o4 := o3.add (u := .lst [.int v1, .int w, .int 65535, .int y]) hl
      refine ⟨_, rfl, ?_⟩
      dsimp only [tCons, tC, tNil]
      refine o4.draw (by decide) (by decide) fun j H5 j0 j1 o5 => ?_
      obtain ⟨wd, hwd⟩ := four_of (a := v1) (b := w) (c := 65535) (d := y) j0 j1
      refine ⟨l, _, _, _, rfl, rfl, SqL.of (o5.mem (List.mem_cons_self ..)), hwd, ?_⟩
      refine ⟨_, rfl, ?_⟩
      dsimp only [tCons, tC, tNil]
      refine o5.draw (by decide) (by decide) fun at_ H6 at_0 at_1 o6 => ?_
      refine ⟨I2 H0 p size deep, ?_, ?_⟩
      · refine ⟨_, rfl, ?_⟩
        dsimp only [tCons, tC, tNil]
        refine o6.draw (by decide) (by decide) fun v H7 v0 v1 o7 => ?_
        refine ⟨rfl, _, rfl, ite2 (fun _ => ?_) (fun _ => ?_)⟩
        · (repeat (first | refine ⟨_, rfl, ?_⟩ | refine ⟨_, _, rfl, rfl, ?_⟩ | refine ⟨rfl, ?_⟩ | refine .inl ⟨_, rfl, ?_⟩ | refine .inr ⟨_, rfl, ?_⟩ | refine ⟨.inr ⟨by decide, by decide⟩, ?_⟩ | refine ⟨⟨by decide, by decide⟩, ?_⟩ | refine ⟨⟨by decide, by decide, by decide⟩, ?_⟩ | refine ⟨.inr ⟨by omega, by omega⟩, ?_⟩ | refine ⟨(by show (0 : Int) < _; first | decide | omega), ?_⟩ | refine ⟨Nat.le_trans (Nat.le_of_ble_eq_true rfl : _ ≤ 50) (by decide), ?_⟩ | refine ⟨_, _, _, _, rfl, rfl, upd_same, rfl, ?_⟩ | refine ⟨_, _, _, _, rfl, rfl, SqL.of upd_same, rfl, ?_⟩ | refine ⟨_, _, _, _, rfl, rfl, SqT.of upd_same, rfl, ?_⟩ | refine ⟨_, _, rfl, .inl (SqL.of upd_same), ?_⟩ | refine ⟨_, _, rfl, .inr (SqT.of upd_same), ?_⟩ | (refine' ⟨_, _, _, _, rfl, rfl, _, _, _⟩; rotate_left 2; (focus (first | assumption | exact SqL.of (by assumption) | exact SqT.of (by assumption) | exact Same.seq (by assumption) (by assumption))); (focus (exact rfl))) | (refine' ⟨_, _, rfl, _, _⟩; rotate_left 1; (focus (first | exact .inl (by assumption) | exact .inl (SqL.of (by assumption)) | exact .inr (by assumption) | exact .inr (SqT.of (by assumption)))))))
          exact ⟨pl, wd, at_ % 2, _, rfl, hpl, Int.emod_nonneg _ (by decide), by have := Int.emod_lt_of_pos at_ (show (0 : Int) < 2 by decide); omega, o7⟩
        · exact ⟨pl, wd, at_, _, rfl, hpl, at_0, at_1, o7⟩
      · clear o o1 o2 o3 o4 o5 o6 at_0 at_1
        rintro σ H ⟨pl, wd, at_, L, rfl, hpl, h0, h1, o⟩
        refine ⟨_, rfl, ?_⟩
        dsimp only [tCons, tC, tNil]
        refine o.draw (by decide) (by decide) fun sh H1 _ _ o1 => ?_
        refine ⟨I3 H0 p size deep, ?_, ?_⟩
        · refine ⟨_, rfl, ?_⟩
          refine ⟨_, rfl, ite2 (fun _ => ?_) (fun _ => ?_)⟩
          · (repeat (first | refine ⟨_, rfl, ?_⟩ | refine ⟨_, _, rfl, rfl, ?_⟩ | refine ⟨rfl, ?_⟩ | refine .inl ⟨_, rfl, ?_⟩ | refine .inr ⟨_, rfl, ?_⟩ | refine ⟨.inr ⟨by decide, by decide⟩, ?_⟩ | refine ⟨⟨by decide, by decide⟩, ?_⟩ | refine ⟨⟨by decide, by decide, by decide⟩, ?_⟩ | refine ⟨.inr ⟨by omega, by omega⟩, ?_⟩ | refine ⟨(by show (0 : Int) < _; first | decide | omega), ?_⟩ | refine ⟨Nat.le_trans (Nat.le_of_ble_eq_true rfl : _ ≤ 50) (by decide), ?_⟩ | refine ⟨_, _, _, _, rfl, rfl, upd_same, rfl, ?_⟩ | refine ⟨_, _, _, _, rfl, rfl, SqL.of upd_same, rfl, ?_⟩ | refine ⟨_, _, _, _, rfl, rfl, SqT.of upd_same, rfl, ?_⟩ | refine ⟨_, _, rfl, .inl (SqL.of upd_same), ?_⟩ | refine ⟨_, _, rfl, .inr (SqT.of upd_same), ?_⟩ | (refine' ⟨_, _, _, _, rfl, rfl, _, _, _⟩; rotate_left 2; (focus (first | assumption | exact SqL.of (by assumption) | exact SqT.of (by assumption) | exact Same.seq (by assumption) (by assumption))); (focus (exact rfl))) | (refine' ⟨_, _, rfl, _, _⟩; rotate_left 1; (focus (first | exact .inl (by assumption) | exact .inl (SqL.of (by assumption)) | exact .inr (by assumption) | exact .inr (SqT.of (by assumption)))))))
            refine fun l hl => ?_
            have o2 := o1.add (u := .lst [.int 0, .int 3, .int 6, .int 6, .int 6]) hl
            obtain ⟨z, hz⟩ := five_of sh
            (repeat (first | refine ⟨_, rfl, ?_⟩ | refine ⟨_, _, rfl, rfl, ?_⟩ | refine ⟨rfl, ?_⟩ | refine .inl ⟨_, rfl, ?_⟩ | refine .inr ⟨_, rfl, ?_⟩ | refine ⟨.inr ⟨by decide, by decide⟩, ?_⟩ | refine ⟨⟨by decide, by decide⟩, ?_⟩ | refine ⟨⟨by decide, by decide, by decide⟩, ?_⟩ | refine ⟨.inr ⟨by omega, by omega⟩, ?_⟩ | refine ⟨(by show (0 : Int) < _; first | decide | omega), ?_⟩ | refine ⟨Nat.le_trans (Nat.le_of_ble_eq_true rfl : _ ≤ 50) (by decide), ?_⟩ | refine ⟨_, _, _, _, rfl, rfl, upd_same, rfl, ?_⟩ | refine ⟨_, _, _, _, rfl, rfl, SqL.of upd_same, rfl, ?_⟩ | refine ⟨_, _, _, _, rfl, rfl, SqT.of upd_same, rfl, ?_⟩ | refine ⟨_, _, rfl, .inl (SqL.of upd_same), ?_⟩ | refine ⟨_, _, rfl, .inr (SqT.of upd_same), ?_⟩ | (refine' ⟨_, _, _, _, rfl, rfl, _, _, _⟩; rotate_left 2; (focus (first | assumption | exact SqL.of (by assumption) | exact SqT.of (by assumption) | exact Same.seq (by assumption) (by assumption))); (focus (exact rfl))) | (refine' ⟨_, _, rfl, _, _⟩; rotate_left 1; (focus (first | exact .inl (by assumption) | exact .inl (SqL.of (by assumption)) | exact .inr (by assumption) | exact .inr (SqT.of (by assumption)))))))
            refine ⟨l, _, _, _, rfl, rfl, SqL.of (o2.mem (List.mem_cons_self ..)), hz, ?_⟩
            exact ⟨pl, wd, at_, z, _, rfl, hpl, h0, h1, o2⟩
          · exact ⟨pl, wd, at_, sh, _, rfl, hpl, h0, h1, o1⟩
        · clear o o1
          rintro σ H ⟨pl, wd, at_, sh, L, rfl, hpl, h0, h1, o⟩
          obtain ⟨a, rfl⟩ := Int.eq_ofNat_of_zero_le h0
          have ha : a < 16 := by omega
          have fin : ∀ (i : Ins) (r : Addr), i.ok → H r = none → Q (.ref r) (upd H r (.tup i.row)) := fun i r hi hr => q r i _ hi (o.nil.add hr)
          refine ⟨_, rfl, _, _, rfl, rfl, _, rfl, ite2 (fun _ => ?_) (fun _ => ?_)⟩
          · (repeat (first | refine ⟨_, rfl, ?_⟩ | refine ⟨_, _, rfl, rfl, ?_⟩ | refine ⟨rfl, ?_⟩ | refine .inl ⟨_, rfl, ?_⟩ | refine .inr ⟨_, rfl, ?_⟩ | refine ⟨.inr ⟨by decide, by decide⟩, ?_⟩ | refine ⟨⟨by decide, by decide⟩, ?_⟩ | refine ⟨⟨by decide, by decide, by decide⟩, ?_⟩ | refine ⟨.inr ⟨by omega, by omega⟩, ?_⟩ | refine ⟨(by show (0 : Int) < _; first | decide | omega), ?_⟩ | refine ⟨Nat.le_trans (Nat.le_of_ble_eq_true rfl : _ ≤ 50) (by decide), ?_⟩ | refine ⟨_, _, _, _, rfl, rfl, upd_same, rfl, ?_⟩ | refine ⟨_, _, _, _, rfl, rfl, SqL.of upd_same, rfl, ?_⟩ | refine ⟨_, _, _, _, rfl, rfl, SqT.of upd_same, rfl, ?_⟩ | refine ⟨_, _, rfl, .inl (SqL.of upd_same), ?_⟩ | refine ⟨_, _, rfl, .inr (SqT.of upd_same), ?_⟩ | (refine' ⟨_, _, _, _, rfl, rfl, _, _, _⟩; rotate_left 2; (focus (first | assumption | exact SqL.of (by assumption) | exact SqT.of (by assumption) | exact Same.seq (by assumption) (by assumption))); (focus (exact rfl))) | (refine' ⟨_, _, rfl, _, _⟩; rotate_left 1; (focus (first | exact .inl (by assumption) | exact .inl (SqL.of (by assumption)) | exact .inr (by assumption) | exact .inr (SqT.of (by assumption)))))))
            exact fun r hr => fin (.set a wd) r ha hr
          · refine ⟨_, rfl, rfl, _, rfl, ite2 (fun _ => ?_) (fun _ => ?_)⟩
            · (repeat (first | refine ⟨_, rfl, ?_⟩ | refine ⟨_, _, rfl, rfl, ?_⟩ | refine ⟨rfl, ?_⟩ | refine .inl ⟨_, rfl, ?_⟩ | refine .inr ⟨_, rfl, ?_⟩ | refine ⟨.inr ⟨by decide, by decide⟩, ?_⟩ | refine ⟨⟨by decide, by decide⟩, ?_⟩ | refine ⟨⟨by decide, by decide, by decide⟩, ?_⟩ | refine ⟨.inr ⟨by omega, by omega⟩, ?_⟩ | refine ⟨(by show (0 : Int) < _; first | decide | omega), ?_⟩ | refine ⟨Nat.le_trans (Nat.le_of_ble_eq_true rfl : _ ≤ 50) (by decide), ?_⟩ | refine ⟨_, _, _, _, rfl, rfl, upd_same, rfl, ?_⟩ | refine ⟨_, _, _, _, rfl, rfl, SqL.of upd_same, rfl, ?_⟩ | refine ⟨_, _, _, _, rfl, rfl, SqT.of upd_same, rfl, ?_⟩ | refine ⟨_, _, rfl, .inl (SqL.of upd_same), ?_⟩ | refine ⟨_, _, rfl, .inr (SqT.of upd_same), ?_⟩ | (refine' ⟨_, _, _, _, rfl, rfl, _, _, _⟩; rotate_left 2; (focus (first | assumption | exact SqL.of (by assumption) | exact SqT.of (by assumption) | exact Same.seq (by assumption) (by assumption))); (focus (exact rfl))) | (refine' ⟨_, _, rfl, _, _⟩; rotate_left 1; (focus (first | exact .inl (by assumption) | exact .inl (SqL.of (by assumption)) | exact .inr (by assumption) | exact .inr (SqT.of (by assumption)))))))
              exact fun r hr => fin .halt r trivial hr
            · refine ⟨_, rfl, rfl, _, rfl, ite2 (fun _ => ?_) (fun _ => ?_)⟩
              · (repeat (first | refine ⟨_, rfl, ?_⟩ | refine ⟨_, _, rfl, rfl, ?_⟩ | refine ⟨rfl, ?_⟩ | refine .inl ⟨_, rfl, ?_⟩ | refine .inr ⟨_, rfl, ?_⟩ | refine ⟨.inr ⟨by decide, by decide⟩, ?_⟩ | refine ⟨⟨by decide, by decide⟩, ?_⟩ | refine ⟨⟨by decide, by decide, by decide⟩, ?_⟩ | refine ⟨.inr ⟨by omega, by omega⟩, ?_⟩ | refine ⟨(by show (0 : Int) < _; first | decide | omega), ?_⟩ | refine ⟨Nat.le_trans (Nat.le_of_ble_eq_true rfl : _ ≤ 50) (by decide), ?_⟩ | refine ⟨_, _, _, _, rfl, rfl, upd_same, rfl, ?_⟩ | refine ⟨_, _, _, _, rfl, rfl, SqL.of upd_same, rfl, ?_⟩ | refine ⟨_, _, _, _, rfl, rfl, SqT.of upd_same, rfl, ?_⟩ | refine ⟨_, _, rfl, .inl (SqL.of upd_same), ?_⟩ | refine ⟨_, _, rfl, .inr (SqT.of upd_same), ?_⟩ | (refine' ⟨_, _, _, _, rfl, rfl, _, _, _⟩; rotate_left 2; (focus (first | assumption | exact SqL.of (by assumption) | exact SqT.of (by assumption) | exact Same.seq (by assumption) (by assumption))); (focus (exact rfl))) | (refine' ⟨_, _, rfl, _, _⟩; rotate_left 1; (focus (first | exact .inl (by assumption) | exact .inl (SqL.of (by assumption)) | exact .inr (by assumption) | exact .inr (SqT.of (by assumption)))))))
                exact fun r hr => fin (.jump pl) r hpl hr
              · refine ⟨_, rfl, _, _, rfl, rfl, _, rfl, ite2 (fun _ => ?_) (fun _ => ?_)⟩
                · (repeat (first | refine ⟨_, rfl, ?_⟩ | refine ⟨_, _, rfl, rfl, ?_⟩ | refine ⟨rfl, ?_⟩ | refine .inl ⟨_, rfl, ?_⟩ | refine .inr ⟨_, rfl, ?_⟩ | refine ⟨.inr ⟨by decide, by decide⟩, ?_⟩ | refine ⟨⟨by decide, by decide⟩, ?_⟩ | refine ⟨⟨by decide, by decide, by decide⟩, ?_⟩ | refine ⟨.inr ⟨by omega, by omega⟩, ?_⟩ | refine ⟨(by show (0 : Int) < _; first | decide | omega), ?_⟩ | refine ⟨Nat.le_trans (Nat.le_of_ble_eq_true rfl : _ ≤ 50) (by decide), ?_⟩ | refine ⟨_, _, _, _, rfl, rfl, upd_same, rfl, ?_⟩ | refine ⟨_, _, _, _, rfl, rfl, SqL.of upd_same, rfl, ?_⟩ | refine ⟨_, _, _, _, rfl, rfl, SqT.of upd_same, rfl, ?_⟩ | refine ⟨_, _, rfl, .inl (SqL.of upd_same), ?_⟩ | refine ⟨_, _, rfl, .inr (SqT.of upd_same), ?_⟩ | (refine' ⟨_, _, _, _, rfl, rfl, _, _, _⟩; rotate_left 2; (focus (first | assumption | exact SqL.of (by assumption) | exact SqT.of (by assumption) | exact Same.seq (by assumption) (by assumption))); (focus (exact rfl))) | (refine' ⟨_, _, rfl, _, _⟩; rotate_left 1; (focus (first | exact .inl (by assumption) | exact .inl (SqL.of (by assumption)) | exact .inr (by assumption) | exact .inr (SqT.of (by assumption)))))))
                  exact fun r hr => fin (.below a wd pl) r ⟨ha, hpl⟩ hr
                · refine ⟨_, rfl, _, _, rfl, rfl, _, rfl, ite2 (fun _ => ?_) (fun _ => ?_)⟩
                  · (repeat (first | refine ⟨_, rfl, ?_⟩ | refine ⟨_, _, rfl, rfl, ?_⟩ | refine ⟨rfl, ?_⟩ | refine .inl ⟨_, rfl, ?_⟩ | refine .inr ⟨_, rfl, ?_⟩ | refine ⟨.inr ⟨by decide, by decide⟩, ?_⟩ | refine ⟨⟨by decide, by decide⟩, ?_⟩ | refine ⟨⟨by decide, by decide, by decide⟩, ?_⟩ | refine ⟨.inr ⟨by omega, by omega⟩, ?_⟩ | refine ⟨(by show (0 : Int) < _; first | decide | omega), ?_⟩ | refine ⟨Nat.le_trans (Nat.le_of_ble_eq_true rfl : _ ≤ 50) (by decide), ?_⟩ | refine ⟨_, _, _, _, rfl, rfl, upd_same, rfl, ?_⟩ | refine ⟨_, _, _, _, rfl, rfl, SqL.of upd_same, rfl, ?_⟩ | refine ⟨_, _, _, _, rfl, rfl, SqT.of upd_same, rfl, ?_⟩ | refine ⟨_, _, rfl, .inl (SqL.of upd_same), ?_⟩ | refine ⟨_, _, rfl, .inr (SqT.of upd_same), ?_⟩ | (refine' ⟨_, _, _, _, rfl, rfl, _, _, _⟩; rotate_left 2; (focus (first | assumption | exact SqL.of (by assumption) | exact SqT.of (by assumption) | exact Same.seq (by assumption) (by assumption))); (focus (exact rfl))) | (refine' ⟨_, _, rfl, _, _⟩; rotate_left 1; (focus (first | exact .inl (by assumption) | exact .inl (SqL.of (by assumption)) | exact .inr (by assumption) | exact .inr (SqT.of (by assumption)))))))
                    exact fun r hr => fin (.call pl) r hpl hr
                  · (repeat (first | refine ⟨_, rfl, ?_⟩ | refine ⟨_, _, rfl, rfl, ?_⟩ | refine ⟨rfl, ?_⟩ | refine .inl ⟨_, rfl, ?_⟩ | refine .inr ⟨_, rfl, ?_⟩ | refine ⟨.inr ⟨by decide, by decide⟩, ?_⟩ | refine ⟨⟨by decide, by decide⟩, ?_⟩ | refine ⟨⟨by decide, by decide, by decide⟩, ?_⟩ | refine ⟨.inr ⟨by omega, by omega⟩, ?_⟩ | refine ⟨(by show (0 : Int) < _; first | decide | omega), ?_⟩ | refine ⟨Nat.le_trans (Nat.le_of_ble_eq_true rfl : _ ≤ 50) (by decide), ?_⟩ | refine ⟨_, _, _, _, rfl, rfl, upd_same, rfl, ?_⟩ | refine ⟨_, _, _, _, rfl, rfl, SqL.of upd_same, rfl, ?_⟩ | refine ⟨_, _, _, _, rfl, rfl, SqT.of upd_same, rfl, ?_⟩ | refine ⟨_, _, rfl, .inl (SqL.of upd_same), ?_⟩ | refine ⟨_, _, rfl, .inr (SqT.of upd_same), ?_⟩ | (refine' ⟨_, _, _, _, rfl, rfl, _, _, _⟩; rotate_left 2; (focus (first | assumption | exact SqL.of (by assumption) | exact SqT.of (by assumption) | exact Same.seq (by assumption) (by assumption))); (focus (exact rfl))) | (refine' ⟨_, _, rfl, _, _⟩; rotate_left 1; (focus (first | exact .inl (by assumption) | exact .inl (SqL.of (by assumption)) | exact .inr (by assumption) | exact .inr (SqT.of (by assumption)))))))
                    exact fun r hr => fin .ret r trivial hr
end
end K32

set_option Elab.async false
set_option linter.all false
set_option maxRecDepth 100000
set_option maxHeartbeats 4000000
namespace K32
open PySem PySem.Spec PyProof.Rows L2 QX Lw GxR
def spOne (K : PySem.W.Frag) (P : Addr) : Sp := fun vs H Q _ => ∃ (H0 : Hp) (a : Addr) (ns : List Int) (at_ : Int) (ps : Array Value), vs = [.ref a, .int at_] ∧ SqL K H0 a (ns.map V.int) ∧ ns.length ≤ 63 ∧ 0 ≤ at_ ∧ Objs H0 H [(P, .tbl ps)] ∧ TriplesOk ps.toList ∧
  ∀ H' ps', Objs H0 H' [(P, .tbl ps')] → TriplesOk ps'.toList → Q (.bl true) H'
/-- the instructions is, as rows at rs -/
def Rows (L : List (Addr × HO)) (rs : List Addr) (is : List Ins) : Prop := rs.length = is.length ∧ (∀ i ∈ is, i.ok) ∧ ∀ (k : Nat) (ins : Ins), is[k]? = some ins → ∃ r, rs[k]? = some r ∧ (r, HO.tup ins.row) ∈ L
def J1 (H0 : Hp) (a P : Addr) (at_ : Int) : L2.St → Hp → Prop := fun σ H => ∃ (p cd : Addr) (size : Int) (deep : Bool) (ps : Array Value) (L : List (Addr × HO)) (rs : List Addr) (is : List Ins), σ = [some (.ref a), some (.int at_), some (.ref p), some (.int size), some (.bl deep), some (.ref cd), none, none, none, none, none, none, none, none, none, none] ∧
  Objs H0 H ((P, .tbl ps) :: L) ∧ TriplesOk ps.toList ∧ (cd, HO.tup (rs.map V.ref)) ∈ L ∧ Rows L rs is ∧ (is.length : Int) = size ∧ 0 < size ∧ size ≤ 100
theorem three_of {j : Int} (h0 : 0 ≤ j) (h1 : j < 3) : ∃ z : Int, atI [V.int 3, .int 8, .int 40] j = some (.int z) ∧ 0 < z ∧ z ≤ 40 := by
  have h : j = 0 ∨ j = 1 ∨ j = 2 := by omega
  rcases h with h | h | h <;> rw [h] <;> exact ⟨_, rfl, by decide, by decide⟩
def J2 (C CP : Addr) (H0 : Hp) (a P : Addr) (at_ : Int) : L2.St → Hp → Prop := fun σ H => ∃ (p cd m st rg : Addr) (size : Int) (deep : Bool) (ps : Array Value) (L : List (Addr × HO)) (is : List Ins), σ = [some (.ref a), some (.int at_), some (.ref p), some (.int size), some (.bl deep), some (.ref cd), some (.ref m), some (.int 0), some (.ref st), some (.ref rg), some (.int 0), none, none, none, none, none] ∧
  MAt C CP H0 H m cd S0 ((rg, .lst ((List.replicate 16 (0 : Int)).map V.int)) :: (st, .lst []) :: (P, .tbl ps) :: L) ∧ TriplesOk ps.toList ∧ CodeAt L cd is ∧ (is.length : Int) = size ∧ 0 < size ∧ size ≤ 100
theorem MAt.objs {C CP : Addr} {H0 H : Hp} {m cd : Addr} {S : MS} {L : List (Addr × HO)} {q : Addr × HO} (h : MAt C CP H0 H m cd S L) (hq : q ∈ L) : Objs H0 H [q] := by
  obtain ⟨dx, mo, ce, wa, wt, t, ca, p, dp, pm, flag, clock, trs, e1, e2, e3, e4, o⟩ := h
  exact o.sub (List.singleton_sublist.mpr (mem6 hq))
theorem MAt.at0 {C CP : Addr} {H0 H : Hp} {m cd : Addr} {S : MS} {L : List (Addr × HO)} (h : MAt C CP H0 H m cd S L) : 0 ≤ S.at_ ∧ S.ws.length = 16 ∧ S.wt.length ≤ 16 := by
  obtain ⟨dx, mo, ce, wa, wt, t, ca, p, dp, pm, flag, clock, trs, e1, e2, e3, e4, o⟩ := h
  exact ⟨e4, e2, e3⟩
/-- before turn i -/
def K1 (C CP : Addr) (H0 : Hp) (a P : Addr) (at_ : Int) : Nat → L2.St → Hp → Prop := fun i σ H => ∃ (p cd m st rg : Addr) (size : Int) (deep : Bool) (ps : Array Value) (L : List (Addr × HO)) (is : List Ins) (S : MS) (v1 v2 v3 v4 : Option V), σ = [some (.ref a), some (.int at_), some (.ref p), some (.int size), some (.bl deep), some (.ref cd), some (.ref m), some (.int S.at_), some (.ref st), some (.ref rg), some (.int S.tn), v1, v2, v3, v4, none] ∧
  MAt C CP H0 H m cd S ((rg, .lst (S.ws.map V.int)) :: (st, .lst (S.wt.map V.int)) :: (P, .tbl ps) :: L) ∧ TriplesOk ps.toList ∧ CodeAt L cd is ∧ (is.length : Int) = size ∧ 0 < size ∧ size ≤ 100 ∧ S.over = false ∧ S.tn ≤ i ∧ Wts S
def K2 (C CP : Addr) (H0 : Hp) (a P : Addr) (at_ : Int) (i : Nat) : L2.St → Hp → Prop := fun σ H => ∃ (p cd m st rg r : Addr) (size : Int) (deep : Bool) (ps : Array Value) (L : List (Addr × HO)) (is : List Ins) (S S' : MS) (ins : Ins) (v1 v3 v4 : Option V), σ = [some (.ref a), some (.int at_), some (.ref p), some (.int size), some (.bl deep), some (.ref cd), some (.ref m), some (.int S.at_), some (.ref st), some (.ref rg), some (.int S.tn), v1, some (.ref r), v3, v4, none] ∧
  MAt C CP H0 H m cd S ((rg, .lst (S.ws.map V.int)) :: (st, .lst (S.wt.map V.int)) :: (P, .tbl ps) :: L) ∧ TriplesOk ps.toList ∧ CodeAt L cd is ∧ (is.length : Int) = size ∧ 0 < size ∧ size ≤ 100 ∧ S.over = false ∧ S.tn ≤ i ∧ Wts S ∧ (0 ≤ S.at_ ∧ S.ws.length = 16 ∧ S.wt.length ≤ 16) ∧
  (r, HO.tup ins.row) ∈ (rg, HO.lst (S.ws.map V.int)) :: (st, .lst (S.wt.map V.int)) :: (P, .tbl ps) :: L ∧ ins.ok ∧ goesM S ins = .ok S' ∧ stepM S is = .ok (true, S')
theorem not_call (i : Ins) (h : ∀ p, i ≠ .call p) : decide (V.str i.nm = V.str "call") = false := by
  cases i with
  | call p => exact absurd rfl (h p)
  | set a w => exact (by decide +kernel : decide (V.str "set" = V.str "call") = false)
  | halt => exact (by decide +kernel : decide (V.str "halt" = V.str "call") = false)
  | jump p => exact (by decide +kernel : decide (V.str "jump" = V.str "call") = false)
  | below a w p => exact (by decide +kernel : decide (V.str "below" = V.str "call") = false)
  | ret => exact (by decide +kernel : decide (V.str "ret" = V.str "call") = false)
theorem not_halt (i : Ins) (h : i ≠ .halt) : decide (V.str i.nm = V.str "halt") = false := by
  cases i with
  | halt => exact absurd rfl h
  | set a w => exact (by decide +kernel : decide (V.str "set" = V.str "halt") = false)
  | call p => exact (by decide +kernel : decide (V.str "call" = V.str "halt") = false)
  | jump p => exact (by decide +kernel : decide (V.str "jump" = V.str "halt") = false)
  | below a w p => exact (by decide +kernel : decide (V.str "below" = V.str "halt") = false)
  | ret => exact (by decide +kernel : decide (V.str "ret" = V.str "halt") = false)
theorem not_ret (i : Ins) (h : i ≠ .ret) : decide (V.str i.nm = V.str "ret") = false := by
  cases i with
  | ret => exact absurd rfl h
  | set a w => exact (by decide +kernel : decide (V.str "set" = V.str "ret") = false)
  | call p => exact (by decide +kernel : decide (V.str "call" = V.str "ret") = false)
  | jump p => exact (by decide +kernel : decide (V.str "jump" = V.str "ret") = false)
  | below a w p => exact (by decide +kernel : decide (V.str "below" = V.str "ret") = false)
  | halt => exact (by decide +kernel : decide (V.str "halt" = V.str "ret") = false)
theorem goes_ok (S : MS) (i : Ins) (h : ∀ p, i ≠ .call p) : ∃ S', goesM S i = .ok S' := by
  cases i with
  | call p => exact absurd rfl (h p)
  | ret =>
    show ∃ S', (if 0 < S.wt.length then _ else _) = _
    split <;> exact ⟨_, rfl⟩
  | set a w => exact ⟨_, rfl⟩
  | halt => exact ⟨_, rfl⟩
  | jump p => exact ⟨_, rfl⟩
  | below a w p => exact ⟨_, rfl⟩
def K3 (C CP : Addr) (H0 : Hp) (a P : Addr) (at_ : Int) (i : Nat) : L2.St → Hp → Prop := fun σ H => ∃ (p cd m st rg r : Addr) (size : Int) (deep : Bool) (ps : Array Value) (L : List (Addr × HO)) (is : List Ins) (S S' : MS) (ins : Ins) (v1 v3 v4 : Option V), σ = [some (.ref a), some (.int at_), some (.ref p), some (.int size), some (.bl deep), some (.ref cd), some (.ref m), some (.int S.at_), some (.ref st), some (.ref rg), some (.int (S.tn + 1)), v1, some (.ref r), v3, v4, none] ∧
  MAt C CP H0 H m cd S' ((rg, .lst (S.ws.map V.int)) :: (st, .lst (S.wt.map V.int)) :: (P, .tbl ps) :: L) ∧ TriplesOk ps.toList ∧ CodeAt L cd is ∧ (is.length : Int) = size ∧ 0 < size ∧ size ≤ 100 ∧ S.over = false ∧ S.tn ≤ i ∧ Wts S ∧ (0 ≤ S.at_ ∧ S.ws.length = 16 ∧ S.wt.length ≤ 16) ∧
  (r, HO.tup ins.row) ∈ (rg, HO.lst (S.ws.map V.int)) :: (st, .lst (S.wt.map V.int)) :: (P, .tbl ps) :: L ∧ ins.ok ∧ goesM S ins = .ok S'
def K4 (C CP : Addr) (H0 : Hp) (a P : Addr) (at_ : Int) (i : Nat) : L2.St → Hp → Prop := fun σ H => ∃ (p cd m st rg r : Addr) (size : Int) (deep : Bool) (ps : Array Value) (L : List (Addr × HO)) (is : List Ins) (S S' : MS) (ins : Ins) (v1 v3 v4 : Option V), σ = [some (.ref a), some (.int at_), some (.ref p), some (.int size), some (.bl deep), some (.ref cd), some (.ref m), some (.int S.at_), some (.ref st), some (.ref rg), some (.int (S.tn + 1)), v1, some (.ref r), v3, v4, none] ∧
  MAt C CP H0 H m cd S' ((rg, .lst (S.ws.map V.int)) :: (st, .lst (S.wt.map V.int)) :: (P, .tbl ps) :: L) ∧ TriplesOk ps.toList ∧ CodeAt L cd is ∧ (is.length : Int) = size ∧ 0 < size ∧ size ≤ 100 ∧ S.over = false ∧ S.tn ≤ i ∧ Wts S ∧ (0 ≤ S.at_ ∧ S.ws.length = 16 ∧ S.wt.length ≤ 16) ∧
  (r, HO.tup ins.row) ∈ (rg, HO.lst (S.ws.map V.int)) :: (st, .lst (S.wt.map V.int)) :: (P, .tbl ps) :: L ∧ ins.ok ∧ goesM S ins = .ok S' ∧ ins ≠ .halt ∧ (ins = .ret → S.wt ≠ [])
/-- a machine that is over -/
def K5 (C CP : Addr) (H0 : Hp) (a P : Addr) (at_ : Int) : Nat → L2.St → Hp → Prop := fun _ σ H => ∃ (p cd m st rg r : Addr) (size : Int) (deep : Bool) (ps : Array Value) (L : List (Addr × HO)) (is : List Ins) (S : MS) (v1 v3 v4 : Option V), σ = [some (.ref a), some (.int at_), some (.ref p), some (.int size), some (.bl deep), some (.ref cd), some (.ref m), some (.int S.at_), some (.ref st), some (.ref rg), some (.int S.tn), v1, some (.ref r), v3, v4, none] ∧
  MAt C CP H0 H m cd S ((rg, .lst (S.ws.map V.int)) :: (st, .lst (S.wt.map V.int)) :: (P, .tbl ps) :: L) ∧ TriplesOk ps.toList ∧ CodeAt L cd is ∧ S.over = true ∧ S.tn ≤ 100 ∧ Wts S
theorem MAt.ne01 {C CP : Addr} {H0 H : Hp} {m cd x y : Addr} {u v : HO} {S : MS} {L : List (Addr × HO)} (h : MAt C CP H0 H m cd S ((x, u) :: (y, v) :: L)) : y ≠ x := by
  obtain ⟨dx, mo, ce, wa, wt, t, ca, p, dp, pm, flag, clock, trs, e1, e2, e3, e4, o⟩ := h
  exact o.ne 7 6 rfl rfl (by decide)
theorem goes_facts {S S' : MS} {i : Ins} (hg : goesM S i = .ok S') (hn : i ≠ .halt) (hr : i = .ret → S.wt ≠ []) (hov : S.over = false) (hok : i.ok) (hw : Wts S) (h0 : 0 ≤ S.at_) : S'.over = false ∧ S'.tn = S.tn + 1 ∧ Wts S' := by
  cases i with
  | halt => exact absurd rfl hn
  | set a w =>
    obtain rfl : _ = S' := by injection hg
    exact ⟨hov, rfl, hw⟩
  | jump p =>
    obtain rfl : _ = S' := by injection hg
    exact ⟨hov, rfl, hw⟩
  | below a w p =>
    obtain rfl : _ = S' := by injection hg
    exact ⟨hov, rfl, hw⟩
  | call p =>
    change (if S.wt.length ≥ 16 then _ else _) = _ at hg
    by_cases h16 : S.wt.length ≥ 16
    · rw [if_pos h16] at hg
      cases hg
    · rw [if_neg h16] at hg
      obtain rfl : _ = S' := by injection hg
      refine ⟨hov, rfl, fun x hx => ?_⟩
      rcases List.mem_append.mp hx with z | z
      · exact hw x z
      · obtain rfl : x = S.at_ + 1 := by simpa using z
        omega
  | ret =>
    change (if 0 < S.wt.length then _ else _) = _ at hg
    rw [if_pos (List.length_pos_iff.mpr (hr rfl))] at hg
    obtain rfl : _ = S' := by injection hg
    exact ⟨hov, rfl, fun x hx => hw x (List.dropLast_subset _ hx)⟩
theorem ins_use {H0 H : Hp} {p : Addr} {x y size : Int} {deep : Bool} {L : List (Addr × HO)} {Q : VK} {E : XK} (o : Objs H0 H ((p, .lst [.int x, .int y]) :: L)) (hx : 0 ≤ x) (h0 : 0 < size) (h1 : size ≤ 100)
    (q : ∀ r i H' , i.ok → Objs H0 H' ((r, .tup (Ins.row i)) :: L) → Q (.ref r) H') : spIns [.ref p, .int size, .bl deep] H Q E := by
  have hp := o.get 0 rfl
  refine ⟨fun b => if b = p then none else H b, p, [], size, deep, rfl, ⟨x, y, hx, ⟨fun b u e => ?_, fun q hq => ?_, by simp, fun q hq => ?_⟩⟩, h0, h1, fun r i H' hi d => ?_⟩
  · split at e
    · cases e
    · exact e
  · obtain rfl : q = _ := by simpa using hq
    exact hp
  · obtain rfl : q = _ := by simpa using hq
    exact if_pos rfl
  · obtain ⟨x', y', hx', o'⟩ := d
    have k : Keep H H' p := fun b u n e => o'.same b u (by show (if b = p then none else H b) = some u; rw [if_neg n]; exact e)
    have hrp : r ≠ p := fun z => by
      have := o'.nd
      simp [z] at this
    have hr0 : H r = none := by
      have := o'.new (r, .tup i.row) (by simp)
      dsimp only at this
      rwa [if_neg hrp] at this
    have o2 := o.set 0 rfl k (o'.get 0 rfl)
    have o3 := o2.join (o.fresh hr0).1 (o.fresh hr0).2 (o'.get 1 rfl)
    exact q r i H' hi (o3.sub ((List.sublist_cons_self _ _).cons_cons _))
section
variable {P : Program} {w : World} {K : PySem.W.Frag} {mg : Str → Option Value} {base : Heap}
theorem ok_one (T : Tx P w K mg) (G_BadRun : FnOk P w K mg base CX0 1 T.E_BadRun.f T.E_BadRun.fd ["self", "reason"] (spI1 T.E_BadRun.C "reason")) (B_is_memory : LamX.TabB base mg T.cc_is_memory T.P_is_memory) :
    FnOk P w K mg base CX0 8 T.a_law_one_holds T.d_law_one_holds ["script", "at"] (spOne K T.P_is_memory) := by
  have G_law_source : FnOk P w K mg base CX0 1 T.a_law_source T.d_law_source ["script", "k"] (spSource K) := ok_source T
  have G_law_draw : FnOk P w K mg base CX0 1 T.a_law_draw T.d_law_draw ["source", "many"] spDraw := ok_draw T
  have G_law_instruction : FnOk P w K mg base CX0 2 T.a_law_instruction T.d_law_instruction ["source", "size", "deep"] spIns := ok_ins T
  have G_Machine_init : FnOk P w K mg base CX0 5 T.a_Machine_init T.d_Machine_init ["self", "code_file", "memory"] (spMInit T.c_Machine T.c_Predictor T.P_is_memory) := ok_minit T B_is_memory
  have G_law_holds : FnOk P w K mg base CX0 2 T.a_law_holds T.d_law_holds ["machine", "place", "stack", "registers", "ended", "count"] (spHolds T.c_Machine T.c_Predictor) := ok_holds T
  have G_law_refused : FnOk P w K mg base CX0 7 T.a_law_refused T.d_law_refused ["machine", "reason"] (spRefused T.c_Machine T.c_Predictor) := ok_refused T G_BadRun
  have G_law_refusal : FnOk P w K mg base CX0 6 T.a_law_refusal T.d_law_refusal ["machine", "turns"] (spRefusal T.c_Machine T.c_Predictor) := ok_refusal T G_BadRun
  have G_law_same_words : FnOk P w K mg base CX0 1 T.a_law_same_words T.d_law_same_words ["actual", "due"] spSame := ok_same T
  have G_law_goes : FnOk P w K mg base CX0 1 T.a_law_goes T.d_law_goes ["row", "place", "stack", "registers"] spGoes := ok_goes T
  have G_Machine_run : FnOk P w K mg base (L2.CX P w) 5 T.a_Machine_run T.d_Machine_run ["self", "limit"] (spRun T.c_Machine T.c_Predictor T.E_BadRun.C) := ok_run T G_BadRun
  refine T.F_law_one_holds.ok sc_law_one_holds (fun vs H Q E h => ?_) (fun cdv A outer s H vs Q E hr h => ?_)
  · obtain ⟨H0, a, ns, at_, ps, rfl, _⟩ := h
    rfl
  · obtain ⟨H0, a, ns, at_, ps, rfl, hS, hlen, hat, o, hps, q⟩ := h
    have hr_law_source : Room 1 _ := hr.mono (by decide)
    have hr_law_draw : Room 1 _ := hr.mono (by decide)
    have hr_law_instruction : Room 2 _ := hr.mono (by decide)
    have hr_Machine_init : Room 6 _ := hr.mono (by decide)
    have hr_law_holds : Room 2 _ := hr.mono (by decide)
    have hr_law_refused : Room 7 _ := hr
    have hr_law_refusal : Room 6 _ := hr.mono (by decide)
    have hr_law_same_words : Room 1 _ := hr.mono (by decide)
    have hr_law_goes : Room 1 _ := hr.mono (by decide)
    have hr_Machine_run : Room 5 _ := hr.mono (by decide)
    refine ⟨_, (pss_cons (ps_set (i := 2) sc_law_one_holds.nd rfl (.inl rfl) (pe_call G_law_source hr_law_source (by rfl) T.g_law_source T.F_law_source.kp T.b_law_source .nil pass0 (pa_cons (pv 0) (pa_cons (pv 1) pa_nil))))
        (pss_cons (ps_set (i := 3) sc_law_one_holds.nd rfl (.inr rfl) (pe_op op_add pe_int (pe_call G_law_draw hr_law_draw (by rfl) T.g_law_draw T.F_law_draw.kp T.b_law_draw .nil pass0 (pa_cons (pv 2) (pa_cons (pe_ix ix_list (pe_lst (pa_cons pe_int (pa_cons pe_int (pa_cons pe_int pa_nil)))) (pe_call G_law_draw hr_law_draw (by rfl) T.g_law_draw T.F_law_draw.kp T.b_law_draw .nil pass0 (pa_cons (pv 2) (pa_cons pe_int pa_nil))) (fun _ _ => rfl)) pa_nil)))))
        (pss_cons (ps_set (i := 4) sc_law_one_holds.nd rfl (.inr rfl) (pe_cmpR op_eq (pe_call G_law_draw hr_law_draw (by rfl) T.g_law_draw T.F_law_draw.kp T.b_law_draw .nil pass0 (pa_cons (pv 2) (pa_cons pe_int pa_nil))) pe_int (nomark _)))
        (C8.pss_cut (ps_set (i := 5) sc_law_one_holds.nd rfl (.inl rfl) (pe_callTy call_tuple_of (by rfl) T.z_tuple (by decide +kernel) (pa_cons (pe_lc (own := [("k", 15)]) (g := gName 15) rfl sc_law_one_holds.nd (pi_range1 rfl T.z_range (pa_cons (pv 3) pa_nil)) (blkOk_by (N := n_law_one_holds) (sc := defScope s_law_one_holds) (by decide +kernel)) (fun _ _ _ _ _ => pg_name (i := 15) sc_law_one_holds.nd rfl (Or.inl rfl)) (fun _ _ _ _ _ => pts_nil) (fun _ _ _ _ _ => (pe_call G_law_instruction hr_law_instruction (by rfl) T.g_law_instruction T.F_law_instruction.kp T.b_law_instruction .nil pass0 (pa_cons (pe_call G_law_source hr_law_source (by rfl) T.g_law_source T.F_law_source.kp T.b_law_source .nil pass0 (pa_cons (pv 0) (pa_cons (pe_op op_add (pe_op op_add (pv 1) pe_int) (pv 15)) pa_nil))) (pa_cons (pv 3) (pa_cons (pv 4) pa_nil)))))) pa_nil)))
        (pss_cons (ps_set (i := 6) sc_law_one_holds.nd rfl (.inl rfl) (pe_make T.mk_Machine G_Machine_init hr_Machine_init (by rfl) T.g_Machine T.b_Machine_init .nil pass0 (pa_cons (pe_tup (pa_cons (pe_tup pa_nil) (pa_cons (pv 5) pa_nil))) (pa_cons (pe_lst pa_nil) pa_nil))))
        (pss_cons (ps_set (i := 7) sc_law_one_holds.nd rfl (.inl rfl) pe_int)
        (pss_cons (ps_set (i := 8) sc_law_one_holds.nd rfl (.inl rfl) (pe_lst pa_nil))
        (pss_cons (ps_set (i := 9) sc_law_one_holds.nd rfl (.inl rfl) (pe_op op_rep (pe_lst (pa_cons pe_int pa_nil)) pe_int))
        (pss_cons (ps_set (i := 10) sc_law_one_holds.nd rfl (.inl rfl) pe_int)
        (C8.pss_cut (ps_if (pt_not (pt_val (pe_call G_law_holds hr_law_holds (by rfl) T.g_law_holds T.F_law_holds.kp T.b_law_holds .nil pass0 (pa_cons (pv 6) (pa_cons (pv 7) (pa_cons (pv 8) (pa_cons (pv 9) (pa_cons pe_bl (pa_cons pe_int pa_nil)))))))))
        (pss_one (ps_ret pe_bl))
        pss_nil)
        (pss_cons (ps_for PassesOwn.never rfl (pi_range1 rfl T.z_range (pa_cons pe_int pa_nil)) (pg_name (i := 11) sc_law_one_holds.nd rfl (.inl rfl))
        (pss_cons (ps_if (pt_cmpR op_ge (pv 7) (pv 3) (nomark _))
        (pss_one (ps_ret (pe_and (pe_call G_law_refused hr_law_refused (by rfl) T.g_law_refused T.F_law_refused.kp T.b_law_refused .nil pass0 (pa_cons (pv 6) (pa_cons pe_str pa_nil))) (pe_one (pe_call G_law_holds hr_law_holds (by rfl) T.g_law_holds T.F_law_holds.kp T.b_law_holds .nil pass0 (pa_cons (pv 6) (pa_cons (pv 7) (pa_cons (pv 8) (pa_cons (pv 9) (pa_cons pe_bl (pa_cons (pv 10) pa_nil)))))))))))
        pss_nil)
        (pss_cons (ps_set (i := 12) sc_law_one_holds.nd rfl (.inl rfl) (pe_ix ix_tup (pv 5) (pv 7) (fun _ _ => rfl)))
        (C8.pss_cut (ps_if (PW.pt (pw_and (pt_cmpR op_eq (pe_ix ix_tup (pv 12) pe_int (fun _ _ => rfl)) pe_str (nomark _)) (pw_and1 (pt_cmpR op_eq (pe_callB call_len_seq (by rfl) T.z_len (by decide +kernel) (pa_cons (pv 8) pa_nil)) pe_int (nomark _)))))
        (pss_one (ps_ret (pe_and (pe_call G_law_refused hr_law_refused (by rfl) T.g_law_refused T.F_law_refused.kp T.b_law_refused .nil pass0 (pa_cons (pv 6) (pa_cons pe_str pa_nil))) (pe_one (pe_call G_law_holds hr_law_holds (by rfl) T.g_law_holds T.F_law_holds.kp T.b_law_holds .nil pass0 (pa_cons (pv 6) (pa_cons (pv 7) (pa_cons (pv 8) (pa_cons (pv 9) (pa_cons pe_bl (pa_cons (pv 10) pa_nil)))))))))))
        pss_nil)
        (pss_cons (ps_set (i := 10) sc_law_one_holds.nd rfl (.inl rfl) (pe_op op_add (pv 10) pe_int))
        (C8.pss_cut (ps_if (pt_cmpR (op_neD hr.units) (pe_call G_law_refusal hr_law_refusal (by rfl) T.g_law_refusal T.F_law_refusal.kp T.b_law_refusal .nil pass0 (pa_cons (pv 6) (pa_cons pe_int pa_nil))) (pe_lst (pa_cons pe_bl (pa_cons pe_bl pa_nil))) (nomark _))
        (pss_one (ps_ret pe_bl))
        pss_nil)
        (C8.pss_cut (ps_if (PW.pt (pw_or (pt_cmpR op_eq (pe_ix ix_tup (pv 12) pe_int (fun _ _ => rfl)) pe_str (nomark _)) (pw_or1 (PW.pt (pw_and (pt_cmpR op_eq (pe_ix ix_tup (pv 12) pe_int (fun _ _ => rfl)) pe_str (nomark _)) (pw_and1 (pt_cmpR op_eq (pe_callB call_len_seq (by rfl) T.z_len (by decide +kernel) (pa_cons (pv 8) pa_nil)) pe_int (nomark _))))))))
        (pss_cons (ps_for PassesOwn.never rfl (pi_range1 rfl T.z_range (pa_cons pe_int pa_nil)) (pg_name (i := 13) sc_law_one_holds.nd rfl (.inl rfl))
        (pss_cons (ps_if (pt_not (pt_val (pe_call G_law_holds hr_law_holds (by rfl) T.g_law_holds T.F_law_holds.kp T.b_law_holds .nil pass0 (pa_cons (pv 6) (pa_cons (pv 7) (pa_cons (pv 8) (pa_cons (pv 9) (pa_cons pe_bl (pa_cons (pv 10) pa_nil)))))))))
        (pss_one (ps_ret pe_bl))
        pss_nil)
        (pss_cons (ps_set (i := 14) sc_law_one_holds.nd rfl (.inl rfl) (pe_meth (pv 6) T.cl_Machine T.m_Machine_run G_Machine_run hr_Machine_run T.b_Machine_run .nil passF (pa_cons pe_int pa_nil)))
        (pss_one (ps_if (PW.pt (pw_or (pt_cmpR (op_neD hr.units) (pe_call G_law_refusal hr_law_refusal (by rfl) T.g_law_refusal T.F_law_refusal.kp T.b_law_refusal .nil pass0 (pa_cons (pv 6) (pa_cons pe_int pa_nil))) (pe_lst (pa_cons pe_bl (pa_cons pe_bl pa_nil))) (nomark _)) (pw_or1 (pt_not (pt_val (pe_call G_law_same_words hr_law_same_words (by rfl) T.g_law_same_words T.F_law_same_words.kp T.b_law_same_words .nil pass0 (pa_cons (pe_lst (pa_cons (pv 14) pa_nil)) (pa_cons (pe_lst (pa_cons pe_int pa_nil)) pa_nil))))))))
        (pss_one (ps_ret pe_bl))
        pss_nil)))))
        (pss_one (ps_ret pe_bl)))
        pss_nil)
        (pss_cons (ps_set (i := 7) sc_law_one_holds.nd rfl (.inl rfl) (pe_call G_law_goes hr_law_goes (by rfl) T.g_law_goes T.F_law_goes.kp T.b_law_goes .nil pass0 (pa_cons (pv 12) (pa_cons (pv 7) (pa_cons (pv 8) (pa_cons (pv 9) pa_nil))))))
        (pss_one (ps_if (pt_not (pt_val (pe_call G_law_holds hr_law_holds (by rfl) T.g_law_holds T.F_law_holds.kp T.b_law_holds .nil pass0 (pa_cons (pv 6) (pa_cons (pv 7) (pa_cons (pv 8) (pa_cons (pv 9) (pa_cons pe_bl (pa_cons (pv 10) pa_nil)))))))))
        (pss_one (ps_ret pe_bl))
        pss_nil))))))))))
        (pss_one (ps_ret pe_bl))))))))))))), ?_⟩
    refine ⟨_, rfl, _, rfl, a, ns, at_, rfl, o.same.seq hS, hlen, hat, fun p x y hp hx => ?_⟩
    have d1 : Dr H0 _ p [(T.P_is_memory, .tbl ps)] := ⟨x, y, hx, o.add (o := .lst [.int x, .int y]) hp⟩
    refine ⟨_, rfl, ?_⟩
    refine ⟨Nat.le_of_ble_eq_true rfl, fun l hl => ?_⟩
    have d2 := d1.add (u := .lst [.int 3, .int 8, .int 40]) hl
    refine ⟨_, rfl, ?_⟩
    dsimp only [tCons, tC, tNil]
    refine d2.draw (by decide) (by decide) fun v H3 v0 v1 d3 => ?_
    obtain ⟨z, hz, z0, z1⟩ := three_of v0 v1
    refine ⟨l, _, _, _, rfl, rfl, SqL.of (d3.mem (List.mem_cons_self ..)), hz, ?_⟩
    refine d3.draw z0 (by omega) fun sz H4 s0 s1 d4 => ?_
    refine ⟨_, _, rfl, rfl, ?_⟩
    refine ⟨_, rfl, ?_⟩
    dsimp only [tCons, tC, tNil]
    refine d4.draw (by decide) (by decide) fun dv H5 _ _ d5 => ?_
    refine ⟨rfl, ?_⟩
    obtain ⟨x5, y5, hx5, o5⟩ := d5
    refine ⟨J1 H0 a T.P_is_memory at_, ?_, ?_⟩
    · have hD : ∀ D, H5 D = none → Objs H0 (upd H5 D (.lst [])) [(D, .lst []), (T.P_is_memory, .tbl ps)] := fun D hD => (o5.sub (L' := [(T.P_is_memory, .tbl ps)]) (by simp)).add hD
      refine ⟨_, rfl, 1 + sz, rfl, by omega, by omega, fun D hDn => lc_range (lo := 0) (n := (1 + sz).toNat) (fun k H => ∃ L rs is, Objs H0 H ((D, .lst (rs.map V.ref)) :: (T.P_is_memory, .tbl ps) :: L) ∧ Rows L rs is ∧ is.length = k) ⟨[], [], [], hD D hDn, ⟨rfl, fun i hi => absurd hi (by simp), fun k i hi => absurd hi (by simp)⟩, rfl⟩ ?_ ?_⟩
      · rintro k H6 hk ⟨L, rs, is, o6, hR, hl6⟩
        refine ⟨rfl, ?_⟩
        unfold tYes
        dsimp only
        rw [if_pos rfl]
        refine ⟨_, rfl, _, rfl, _, _, rfl, rfl, _, rfl, _, _, rfl, rfl, ?_⟩
        refine ⟨a, ns, _, rfl, o6.same.seq hS, hlen, by omega, fun p2 x2 y2 hp2 hx2 => ?_⟩
        refine ⟨_, rfl, _, rfl, ?_⟩
        dsimp only [tNil]
        refine ins_use (o6.add hp2) hx2 (by omega) (by omega) fun r i H7 hi o7 => ?_
        refine ⟨rs.map V.ref, o7.get 1 rfl, Nat.lt_of_le_of_lt (by rw [List.length_map]; exact Nat.le_of_eq hR.1) (line5' (by omega)), (r, .tup i.row) :: L, rs ++ [r], is ++ [i], ?_, ?_, by rw [List.length_append, hl6]; rfl⟩
        · have o8 : Objs H0 _ ((r, HO.tup i.row) :: (D, .lst (rs.map V.ref ++ [.ref r])) :: (T.P_is_memory, .tbl ps) :: L) := o7.put (o' := .lst (rs.map V.ref ++ [.ref r])) 1 rfl
          rw [List.map_append]
          exact Objs.perm o8 (List.perm_middle (a := (r, HO.tup i.row)) (l₂ := L) (l₁ := [(D, HO.lst (rs.map V.ref ++ [V.ref r])), (T.P_is_memory, HO.tbl ps)])).symm
        · refine ⟨by rw [List.length_append, List.length_append, hR.1]; rfl, fun j hj => ?_, fun k' ins hk' => ?_⟩
          · rcases List.mem_append.mp hj with z | z
            · exact hR.2.1 _ z
            · obtain rfl : j = i := by simpa using z
              exact hi
          · by_cases hlt : k' < is.length
            · rw [List.getElem?_append_left hlt] at hk'
              obtain ⟨r', e1, e2⟩ := hR.2.2 k' ins hk'
              exact ⟨r', by rw [List.getElem?_append_left (by rw [hR.1]; exact hlt)]; exact e1, List.mem_cons_of_mem _ e2⟩
            · have hk2 : k' = is.length := by
                have := (List.getElem?_eq_some_iff.mp hk').1
                rw [List.length_append] at this
                have e : ([i] : List Ins).length = 1 := rfl
                omega
              subst hk2
              rw [List.getElem?_append_right (Nat.le_refl _), Nat.sub_self] at hk'
              obtain rfl : i = ins := by simpa using hk'
              refine ⟨r, ?_, List.mem_cons_self ..⟩
              rw [List.getElem?_append_right (by rw [hR.1]; exact Nat.le_refl _), hR.1, Nat.sub_self]
              rfl
      · rintro H6 ⟨L, rs, is, o6, hR, hl6⟩
        refine ⟨D, _, rfl, .inl ⟨SqL.of (o6.get 0 rfl), fun cd hcd => ?_⟩⟩
        have o7 := (o6.sub (L' := (T.P_is_memory, .tbl ps) :: L) (List.sublist_cons_self _ _)).add (o := .tup (rs.map V.ref)) hcd
        refine ⟨p, cd, 1 + sz, _, ps, (cd, .tup (rs.map V.ref)) :: L, rs, is, rfl, Objs.perm o7 (.swap _ _ _), hps, List.mem_cons_self .., ⟨hR.1, hR.2.1, fun k' ins hk' => ?_⟩, by omega, by omega, by omega⟩
        obtain ⟨r', e1, e2⟩ := hR.2.2 k' ins hk'
        exact ⟨r', e1, List.mem_cons_of_mem _ e2⟩
    · clear o5 d4 d3 d2 d1 o hps hz
      rintro σ H ⟨p, cd, size, deep, ps, L, rs, is, rfl, o, hps, hcd, hR, hil, h0, h1⟩
      refine ⟨Nat.zero_le _, fun lay hlay => ?_⟩
      have o1 := o.add (o := .tup []) hlay
      refine ⟨_, rfl, Nat.le_of_ble_eq_true rfl, fun cf hcf => ?_⟩
      have o2 := o1.add (o := .tup [.ref lay, .ref cd]) hcf
      refine ⟨Nat.zero_le _, fun me hme => ?_⟩
      have o3 := o2.add (o := .lst []) hme
      intro x dx hx hdx ndx
      have o4 := (o3.skip (o := .own x) hdx).add (a := x) (o := .ins T.c_Machine dx []) (by rw [upd_ne (Ne.symm ndx)]; exact hx)
      have o5 := Objs.perm o4 (List.Perm.cons _ (List.perm_middle (a := (T.P_is_memory, HO.tbl ps)) (l₁ := [(me, .lst []), (cf, .tup [.ref lay, .ref cd]), (lay, .tup [])]) (l₂ := L)))
      clear o1 o2 o3 o4
      refine ⟨H0, x, dx, cf, lay, cd, me, ps, _, rfl, o5, hps, by simp, by simp, by simp, fun H2 ps2 hps2 hm => ⟨rfl, ?_⟩⟩
      have hcode : CodeAt ([(me, HO.lst []), (cf, .tup [.ref lay, .ref cd]), (lay, .tup [])] ++ L) cd is := ⟨⟨rs, List.mem_append_right _ hcd, hR.1, fun k' ins hk' => by obtain ⟨r', e1, e2⟩ := hR.2.2 k' ins hk'; exact ⟨r', e1, List.mem_append_right _ e2⟩⟩, hR.2.1⟩
      generalize ([(me, HO.lst []), (cf, .tup [.ref lay, .ref cd]), (lay, .tup [])] ++ L) = L3 at hm hcode
      clear o5 o
      refine ⟨Nat.zero_le _, fun st hst => ?_⟩
      have m1 := hm.add (u := .lst []) hst
      refine ⟨Nat.le_of_ble_eq_true rfl, fun z hz => ?_⟩
      have m2 := m1.mono (same_upd (o := .lst [.int 0]) hz)
      refine ⟨z, 16, _, rfl, rfl, upd_same, by decide, by decide, by decide, fun rg hrg => ?_⟩
      have m3 := m2.add (u := .lst ((List.replicate 16 (0 : Int)).map V.int)) hrg
      clear m1 m2 hm
      refine ⟨J2 T.c_Machine T.c_Predictor H0 a T.P_is_memory at_, ?_, ?_⟩
      · refine ⟨_, rfl, _, rfl, _, rfl, _, rfl, ?_⟩
        refine ⟨H0, x, cd, S0, _, st, rg, rfl, m3, by simp [S0], by simp [S0], fun H3 m4 => ?_⟩
        refine ⟨_, rfl, iteF' rfl ?_⟩
        exact ⟨p, cd, x, st, rg, size, deep, ps2, L3, is, rfl, m4, hps2, hcode, hil, h0, h1⟩
      · clear m3 hcode hps2
        rintro σ H ⟨p, cd, m, st, rg, size, deep, ps, L, is, rfl, hm, hps, hcode, hil, h0, h1⟩
        refine ⟨90, rfl, by decide, by decide, for_range (lo := 0) (n := 90) (K1 T.c_Machine T.c_Predictor H0 a T.P_is_memory at_) ⟨p, cd, m, st, rg, size, deep, ps, L, is, S0, none, none, none, none, rfl, hm, hps, hcode, hil, h0, h1, rfl, Nat.zero_le _, fun x hx => absurd hx (by simp [S0])⟩ ?_ ?_⟩
        · rintro i σ H3 hi ⟨p, cd, m, st, rg, size, deep, ps, L, is, S, v1, v2, v3, v4, rfl, hm, hps, hcode, hil, h0, h1, hov, htn, hwt⟩
          have fin : ∀ H' S L, MAt T.c_Machine T.c_Predictor H0 H' m cd S L → (T.P_is_memory, HO.tbl ps) ∈ L → Q (.bl true) H' := fun H' S L hm' hP => q H' ps (hm'.objs hP) hps
          have hc2 : CodeAt ((rg, HO.lst (S.ws.map V.int)) :: (st, .lst (S.wt.map V.int)) :: (T.P_is_memory, .tbl ps) :: L) cd is := hcode.more fun q hq => List.mem_cons_of_mem _ (List.mem_cons_of_mem _ (List.mem_cons_of_mem _ hq))
          have hat0 := hm.at0
          refine ⟨_, rfl, _, rfl, _, _, rfl, rfl, _, rfl, ite2 (fun e => ?_) (fun e => ?_)⟩
          · have e5 : is.length ≤ S.at_.toNat := by
              have := of_decide_eq_true e
              omega
            have hstep : stepM S is = .error "place" := by
              unfold stepM
              rw [hov, if_neg (by decide), List.getElem?_eq_none e5]
            refine ⟨_, rfl, ?_⟩
            dsimp only [tCons, tC, tNil]
            refine ⟨H0, m, cd, S, _, is, "place", rfl, hm, hc2, by omega, hwt, hstep, by decide +kernel, fun H4 hm4 => ?_⟩
            refine ⟨_, rfl, iteT ?_⟩
            refine ⟨_, rfl, _, rfl, _, rfl, _, rfl, _, rfl, ?_⟩
            exact ⟨H0, m, cd, S, _, st, rg, by rw [hov]; rfl, hm4, by simp, by simp, fun H5 hm5 => fin H5 _ _ hm5 (by simp)⟩
          · have e5 : S.at_.toNat < is.length := by
              have : ¬ size ≤ S.at_ := fun z => e (decide_eq_true z)
              omega
            obtain ⟨rs, hrs, hrl, hri⟩ := hc2.ex
            have hcd := hm.mem hrs
            obtain ⟨r, hr1, hr2⟩ := hri _ _ (List.getElem?_eq_getElem e5)
            have hok := hc2.ok _ (List.getElem_mem e5)
            have hstep : stepM S is = (goesM S is[S.at_.toNat]).map fun S' => (true, S') := by
              unfold stepM
              rw [hov, if_neg (by decide), List.getElem?_eq_getElem e5]
            generalize is[S.at_.toNat] = ins at hr2 hok hstep
            have hr3 := hm.mem hr2
            have hst := hm.mem (a := st) (u := .lst (S.wt.map V.int)) (by simp)
            have hat2 : atI (rs.map V.ref) S.at_ = some (.ref r) := by
              rw [show S.at_ = ((S.at_.toNat : Nat) : Int) by omega]
              exact atI_nat (by rw [List.getElem?_map, hr1]; rfl)
            refine ⟨_, rfl, _, rfl, cd, _, _, _, rfl, rfl, SqT.of hcd, hat2, ?_⟩
            have hk2 : ∀ S' : MS, goesM S ins = .ok S' → ∀ v, K2 T.c_Machine T.c_Predictor H0 a T.P_is_memory at_ i [some (.ref a), some (.int at_), some (.ref p), some (.int size), some (.bl deep), some (.ref cd), some (.ref m), some (.int S.at_), some (.ref st), some (.ref rg), some (.int S.tn), v, some (.ref r), v3, v4, none] H3 := fun S' hg v =>
              ⟨p, cd, m, st, rg, r, size, deep, ps, L, is, S, S', ins, v, v3, v4, rfl, hm, hps, hcode, hil, h0, h1, hov, htn, hwt, hat0, hr2, hok, hg, by rw [hstep, hg]; rfl⟩
            refine ⟨K2 T.c_Machine T.c_Predictor H0 a T.P_is_memory at_ i, ?_, ?_⟩
            · refine ⟨_, rfl, r, _, _, _, rfl, rfl, SqT.of hr3, row0 ins, rfl, _, rfl, ?_⟩
              by_cases hcall : ∃ pl, ins = .call pl
              · obtain ⟨pl, rfl⟩ := hcall
                rw [decide_eq_true (show V.str (Ins.call pl).nm = .str "call" from rfl)]
                refine iteT ?_
                refine ⟨_, rfl, _, _, rfl, .inl (SqL.of hst), rfl, _, rfl, ite2 (fun e6 => ?_) (fun e6 => ?_)⟩
                · have e7 : S.wt.length = 16 := by
                    have := of_decide_eq_true e6
                    injection this with this
                    rw [List.length_map] at this
                    omega
                  have hstep2 : stepM S is = .error "depth" := by
                    rw [hstep]
                    show Except.map _ (if S.wt.length ≥ 16 then _ else _) = _
                    rw [if_pos (by omega)]
                    rfl
                  refine ⟨_, rfl, ?_⟩
                  dsimp only [tCons, tC, tNil]
                  refine ⟨H0, m, cd, S, _, is, "depth", rfl, hm, hc2, by omega, hwt, hstep2, by decide +kernel, fun H4 hm4 => ?_⟩
                  refine ⟨_, rfl, iteT ?_⟩
                  refine ⟨_, rfl, _, rfl, _, rfl, _, rfl, _, rfl, ?_⟩
                  exact ⟨H0, m, cd, S, _, st, rg, by rw [hov]; rfl, hm4, by simp, by simp, fun H5 hm5 => fin H5 _ _ hm5 (by simp)⟩
                · have e7 : S.wt.length ≠ 16 := fun z => e6 (decide_eq_true (by rw [List.length_map, z]; rfl))
                  refine hk2 { S with wt := S.wt ++ [S.at_ + 1], at_ := pl, tn := S.tn + 1 } ?_ _
                  show (if S.wt.length ≥ 16 then _ else _) = _
                  rw [if_neg (by omega)]
              · have hnm : decide (V.str ins.nm = V.str "call") = false := not_call ins fun pl z => hcall ⟨pl, z⟩
                rw [hnm]
                refine iteF ?_
                obtain ⟨S', hS'⟩ := goes_ok S ins fun pl z => hcall ⟨pl, z⟩
                exact hk2 S' hS' _
            · clear hk2 hat2 hst hr3 hstep hok hr1 hr2 e e5 hrs hrl hri hcd
              rintro σ H4 ⟨p, cd, m, st, rg, r, size, deep, ps, L, is, S, S', ins, v1, v3, v4, rfl, hm, hps, hcode, hil, h0, h1, hov, htn, hwt, hb, hr2, hok, hg, hstep⟩
              have hc2 : CodeAt ((rg, HO.lst (S.ws.map V.int)) :: (st, .lst (S.wt.map V.int)) :: (T.P_is_memory, .tbl ps) :: L) cd is := hcode.more fun q hq => List.mem_cons_of_mem _ (List.mem_cons_of_mem _ (List.mem_cons_of_mem _ hq))
              refine ⟨_, rfl, _, _, rfl, rfl, ?_⟩
              refine ⟨K3 T.c_Machine T.c_Predictor H0 a T.P_is_memory at_ i, ?_, ?_⟩
              · refine ⟨_, rfl, ?_⟩
                dsimp only [tCons, tC, tNil]
                refine ⟨H0, m, cd, S, _, is, 0, rfl, hm, hc2, by omega, hwt, Int.le_refl _, .inl ⟨rfl, true, S', hstep, fun p2 H5 hm5 => ?_⟩⟩
                refine ⟨Nat.le_of_ble_eq_true rfl, fun p3 hp3 => ?_⟩
                have u4 := hm5.add (u := .lst [.bl true, .bl true]) hp3
                refine ⟨.list [.bool true, .bool true], .list [.bool true, .bool true], Dp.lst (SqL.of (u4.mem (a := p2) (u := .lst [.bl true, .bl true]) (by simp))) (.cons (.bl _) (.cons (.bl _) .nil)), Dp.lst (SqL.of (u4.mem (a := p3) (u := .lst [.bl true, .bl true]) (by simp))) (.cons (.bl _) (.cons (.bl _) .nil)), by decide +kernel, by decide +kernel, ?_⟩
                have hne : (!PyData.eqv (.list [.bool true, .bool true]) (.list [.bool true, .bool true])) = false := by decide +kernel
                rw [hne]
                refine ⟨_, rfl, iteF' rfl ?_⟩
                exact ⟨p, cd, m, st, rg, r, size, deep, ps, L, is, S, S', ins, v1, v3, v4, rfl, u4.sub (List.Sublist.cons _ (List.sublist_cons_self _ _)), hps, hcode, hil, h0, h1, hov, htn, hwt, hb, hr2, hok, hg⟩
              · clear hm hc2 hstep
                rintro σ H5 ⟨p, cd, m, st, rg, r, size, deep, ps, L, is, S, S', ins, v1, v3, v4, rfl, hm, hps, hcode, hil, h0, h1, hov, htn, hwt, hb, hr2, hok, hg⟩
                have hr3 := hm.mem hr2
                have hst := hm.mem (a := st) (u := .lst (S.wt.map V.int)) (by simp)
                refine ⟨K4 T.c_Machine T.c_Predictor H0 a T.P_is_memory at_ i, ?_, ?_⟩
                · refine ⟨_, rfl, r, _, _, _, rfl, rfl, SqT.of hr3, row0 ins, rfl, _, rfl, ?_⟩
                  by_cases hh : ins = .halt
                  · subst hh
                    obtain rfl : { S with over := true, tn := S.tn + 1 } = S' := by injection hg
                    refine iteT ?_
                    refine ⟨2, rfl, by decide, by decide, for_range (lo := 0) (n := 2) (K5 T.c_Machine T.c_Predictor H0 a T.P_is_memory at_) ⟨p, cd, m, st, rg, r, size, deep, ps, L, is, { S with over := true, tn := S.tn + 1 }, v1, v3, v4, rfl, hm, hps, hcode, rfl, by show S.tn + 1 ≤ 100; omega, hwt⟩ ?_ ?_⟩
                    · rintro j σ H6 hj ⟨p, cd, m, st, rg, r, size, deep, ps, L, is, S, v1, v3, v4, rfl, hm, hps, hcode, hov, htn, hwt⟩
                      have hc2 : CodeAt ((rg, HO.lst (S.ws.map V.int)) :: (st, .lst (S.wt.map V.int)) :: (T.P_is_memory, .tbl ps) :: L) cd is := hcode.more fun q hq => List.mem_cons_of_mem _ (List.mem_cons_of_mem _ (List.mem_cons_of_mem _ hq))
                      refine ⟨_, rfl, _, rfl, _, rfl, _, rfl, _, rfl, ?_⟩
                      refine ⟨H0, m, cd, S, _, st, rg, by rw [hov]; rfl, hm, by simp, by simp, fun H7 hm7 => ?_⟩
                      refine ⟨_, rfl, iteF' rfl ?_⟩
                      obtain ⟨dx, cd', mo, ce, wa, wt, t, ca, p', flag, at', clock, over, hi1⟩ := hm7.ins
                      refine ⟨_, rfl, m, dx, _, rfl, hi1, rfl, ?_⟩
                      refine ⟨H0, m, cd, S, _, is, 4, rfl, hm7, hc2, by omega, hwt, by decide, .inl ⟨hov, fun H8 hm8 => ?_⟩⟩
                      refine ⟨_, rfl, ?_⟩
                      dsimp only [tCons, tC, tNil]
                      have hstep : stepM S is = .ok (false, S) := by unfold stepM; rw [if_pos hov]
                      refine ⟨H0, m, cd, S, _, is, 0, rfl, hm8, hc2, by omega, hwt, Int.le_refl _, .inl ⟨rfl, false, S, hstep, fun p2 H9 hm9 => ?_⟩⟩
                      refine ⟨Nat.le_of_ble_eq_true rfl, fun p3 hp3 => ?_⟩
                      have u4 := hm9.add (u := .lst [.bl true, .bl false]) hp3
                      refine ⟨.list [.bool true, .bool false], .list [.bool true, .bool false], Dp.lst (SqL.of (u4.mem (a := p2) (u := .lst [.bl true, .bl false]) (by simp))) (.cons (.bl _) (.cons (.bl _) .nil)), Dp.lst (SqL.of (u4.mem (a := p3) (u := .lst [.bl true, .bl false]) (by simp))) (.cons (.bl _) (.cons (.bl _) .nil)), by decide +kernel, by decide +kernel, ?_⟩
                      have hne : (!PyData.eqv (.list [.bool true, .bool false]) (.list [.bool true, .bool false])) = false := by decide +kernel
                      rw [hne]
                      refine ⟨_, rfl, iteF' rfl ?_⟩
                      refine ⟨_, rfl, Nat.le_of_ble_eq_true rfl, fun l1 hl1 => ?_⟩
                      have u5 := u4.add (u := .lst [.int 0]) hl1
                      refine ⟨Nat.le_of_ble_eq_true rfl, fun l2 hl2 => ?_⟩
                      have u6 := u5.add (u := .lst [.int 0]) hl2
                      refine ⟨l1, l2, [0], rfl, u6.mem (by simp), u6.mem (by simp), by decide, ?_⟩
                      refine ⟨_, rfl, iteF' rfl ?_⟩
                      exact ⟨p, cd, m, st, rg, r, size, deep, ps, L, is, S, _, _, _, rfl, u6.sub (List.Sublist.cons _ (List.Sublist.cons _ (List.Sublist.cons _ (List.sublist_cons_self _ _)))), hps, hcode, hov, htn, hwt⟩
                    · rintro σ H6 ⟨p, cd, m, st, rg, r, size, deep, ps, L, is, S, v1, v3, v4, rfl, hm, hps, hcode, hov, htn, hwt⟩
                      exact q H6 ps (hm.objs (by simp)) hps
                  · rw [not_halt ins hh]
                    refine iteF ?_
                    refine ⟨_, rfl, r, _, _, _, rfl, rfl, SqT.of hr3, row0 ins, rfl, _, rfl, ?_⟩
                    have hk4 : (ins = .ret → S.wt ≠ []) → ∀ v, K4 T.c_Machine T.c_Predictor H0 a T.P_is_memory at_ i [some (.ref a), some (.int at_), some (.ref p), some (.int size), some (.bl deep), some (.ref cd), some (.ref m), some (.int S.at_), some (.ref st), some (.ref rg), some (.int (S.tn + 1)), v, some (.ref r), v3, v4, none] H5 := fun hret v =>
                      ⟨p, cd, m, st, rg, r, size, deep, ps, L, is, S, S', ins, v, v3, v4, rfl, hm, hps, hcode, hil, h0, h1, hov, htn, hwt, hb, hr2, hok, hg, hh, hret⟩
                    by_cases hret : ins = .ret
                    · subst hret
                      rw [decide_eq_true (show V.str (Ins.ret).nm = .str "ret" from rfl)]
                      refine iteT ?_
                      refine ⟨_, rfl, _, _, rfl, .inl (SqL.of hst), rfl, _, rfl, ite2 (fun e6 => ?_) (fun e6 => ?_)⟩
                      · have e7 : S.wt.length = 0 := by
                          have := of_decide_eq_true e6
                          injection this with this
                          rw [List.length_map] at this
                          omega
                        change (if 0 < S.wt.length then _ else _) = _ at hg
                        rw [if_neg (by omega)] at hg
                        obtain rfl : { S with over := true, tn := S.tn + 1 } = S' := by injection hg
                        refine ⟨2, rfl, by decide, by decide, for_range (lo := 0) (n := 2) (K5 T.c_Machine T.c_Predictor H0 a T.P_is_memory at_) ⟨p, cd, m, st, rg, r, size, deep, ps, L, is, { S with over := true, tn := S.tn + 1 }, v1, v3, v4, rfl, hm, hps, hcode, rfl, by show S.tn + 1 ≤ 100; omega, hwt⟩ ?_ ?_⟩
                        · rintro j σ H6 hj ⟨p, cd, m, st, rg, r, size, deep, ps, L, is, S, v1, v3, v4, rfl, hm, hps, hcode, hov, htn, hwt⟩
                          have hc2 : CodeAt ((rg, HO.lst (S.ws.map V.int)) :: (st, .lst (S.wt.map V.int)) :: (T.P_is_memory, .tbl ps) :: L) cd is := hcode.more fun q hq => List.mem_cons_of_mem _ (List.mem_cons_of_mem _ (List.mem_cons_of_mem _ hq))
                          refine ⟨_, rfl, _, rfl, _, rfl, _, rfl, _, rfl, ?_⟩
                          refine ⟨H0, m, cd, S, _, st, rg, by rw [hov]; rfl, hm, by simp, by simp, fun H7 hm7 => ?_⟩
                          refine ⟨_, rfl, iteF' rfl ?_⟩
                          obtain ⟨dx, cd', mo, ce, wa, wt, t, ca, p', flag, at', clock, over, hi1⟩ := hm7.ins
                          refine ⟨_, rfl, m, dx, _, rfl, hi1, rfl, ?_⟩
                          refine ⟨H0, m, cd, S, _, is, 4, rfl, hm7, hc2, by omega, hwt, by decide, .inl ⟨hov, fun H8 hm8 => ?_⟩⟩
                          refine ⟨_, rfl, ?_⟩
                          dsimp only [tCons, tC, tNil]
                          have hstep : stepM S is = .ok (false, S) := by unfold stepM; rw [if_pos hov]
                          refine ⟨H0, m, cd, S, _, is, 0, rfl, hm8, hc2, by omega, hwt, Int.le_refl _, .inl ⟨rfl, false, S, hstep, fun p2 H9 hm9 => ?_⟩⟩
                          refine ⟨Nat.le_of_ble_eq_true rfl, fun p3 hp3 => ?_⟩
                          have u4 := hm9.add (u := .lst [.bl true, .bl false]) hp3
                          refine ⟨.list [.bool true, .bool false], .list [.bool true, .bool false], Dp.lst (SqL.of (u4.mem (a := p2) (u := .lst [.bl true, .bl false]) (by simp))) (.cons (.bl _) (.cons (.bl _) .nil)), Dp.lst (SqL.of (u4.mem (a := p3) (u := .lst [.bl true, .bl false]) (by simp))) (.cons (.bl _) (.cons (.bl _) .nil)), by decide +kernel, by decide +kernel, ?_⟩
                          have hne : (!PyData.eqv (.list [.bool true, .bool false]) (.list [.bool true, .bool false])) = false := by decide +kernel
                          rw [hne]
                          refine ⟨_, rfl, iteF' rfl ?_⟩
                          refine ⟨_, rfl, Nat.le_of_ble_eq_true rfl, fun l1 hl1 => ?_⟩
                          have u5 := u4.add (u := .lst [.int 0]) hl1
                          refine ⟨Nat.le_of_ble_eq_true rfl, fun l2 hl2 => ?_⟩
                          have u6 := u5.add (u := .lst [.int 0]) hl2
                          refine ⟨l1, l2, [0], rfl, u6.mem (by simp), u6.mem (by simp), by decide, ?_⟩
                          refine ⟨_, rfl, iteF' rfl ?_⟩
                          exact ⟨p, cd, m, st, rg, r, size, deep, ps, L, is, S, _, _, _, rfl, u6.sub (List.Sublist.cons _ (List.Sublist.cons _ (List.Sublist.cons _ (List.sublist_cons_self _ _)))), hps, hcode, hov, htn, hwt⟩
                        · rintro σ H6 ⟨p, cd, m, st, rg, r, size, deep, ps, L, is, S, v1, v3, v4, rfl, hm, hps, hcode, hov, htn, hwt⟩
                          exact q H6 ps (hm.objs (by simp)) hps
                      · exact hk4 (fun _ z => e6 (by rw [z]; rfl)) _
                    · rw [not_ret ins hret]
                      refine iteF ?_
                      exact hk4 (fun z => absurd z hret) _
                · clear hm hr3 hst hg hr2
                  rintro σ H6 ⟨p, cd, m, st, rg, r, size, deep, ps, L, is, S, S', ins, v1, v3, v4, rfl, hm, hps, hcode, hil, h0, h1, hov, htn, hwt, hb, hr2, hok, hg, hnh, hret⟩
                  have hr3 := hm.mem hr2
                  have hst := hm.mem (a := st) (u := .lst (S.wt.map V.int)) (by simp)
                  have hrg := hm.mem (a := rg) (u := .lst (S.ws.map V.int)) (by simp)
                  have hne : st ≠ rg := hm.ne01
                  obtain ⟨f1, f2, f3⟩ := goes_facts hg hnh hret hov hok hwt hb.1
                  refine ⟨_, rfl, _, rfl, _, rfl, _, rfl, ?_⟩
                  refine ⟨r, st, rg, ins, S, rfl, hr3, hst, hrg, hne, hb.2.1, hok, hnh, hret, hb.2.2, fun pl z => ?_, fun H7 S'' hg2 fr h7 h8 => ?_⟩
                  · subst z
                    change (if S.wt.length ≥ 16 then _ else _) = _ at hg
                    by_cases h16 : S.wt.length ≥ 16
                    · rw [if_pos h16] at hg
                      cases hg
                    · omega
                  · obtain rfl : S' = S'' := by rw [hg] at hg2; injection hg2
                    have hm1 := hm.put (u' := .lst (S'.wt.map V.int)) 1 rfl
                    have hm2 := hm1.set (u' := .lst (S'.ws.map V.int)) 0 rfl (fun b o nb eb => by
                      by_cases hbs : b = st
                      · rw [hbs, upd_same] at eb
                        rw [hbs, h7]
                        exact eb
                      · rw [upd_ne hbs] at eb
                        exact fr b o hbs nb eb) h8
                    refine ⟨_, rfl, _, rfl, _, rfl, _, rfl, _, rfl, ?_⟩
                    refine ⟨H0, m, cd, S', _, st, rg, by rw [f1, f2]; rfl, hm2, by simp, by simp, fun H8 hm8 => ?_⟩
                    refine ⟨_, rfl, iteF' rfl ?_⟩
                    refine ⟨p, cd, m, st, rg, size, deep, ps, L, is, S', _, _, _, _, by rw [f2]; rfl, hm8, hps, hcode, hil, h0, h1, f1, by omega, f3⟩
        · rintro σ H3 ⟨p, cd, m, st, rg, size, deep, ps, L, is, S, v1, v2, v3, v4, rfl, hm, hps, hcode, hil, h0, h1, hov, htn, hwt⟩
          exact q H3 ps (hm.objs (by simp)) hps
end
end K32

set_option Elab.async false
set_option linter.all false
set_option maxRecDepth 100000
set_option maxHeartbeats 4000000
namespace K32
open PySem PySem.Spec PyProof.Rows L2 QX Lw GxR
def spLaw (K : PySem.W.Frag) (Ps : List Addr) : Sp := fun vs H Q _ => ∃ (a : Addr) (ns : List Int), vs = [.ref a] ∧ SqL K H a (ns.map V.int) ∧ ns.length ≤ 63 ∧ Ps.Nodup ∧ (∀ r ∈ Ps, H r = some (.tbl #[])) ∧ ∀ H', Q (.bl true) H'
section
variable {P : Program} {w : World} {K : PySem.W.Frag} {mg : Str → Option Value} {base : Heap}
theorem ok_BadInput {P : Program} (htop : (P.main.scope.names.lookup ("super" : Str)).isSome = false) (hms : mg "super" = none) (R : Err P K mg "BadInput" "BadInput.__init__" i_BadInput ["self"] []) : FnOk P w K mg base CX0 1 R.f R.fd ["self"] (spI0 R.C) := by
  refine R.F.ok (C := R.C) sc_BadInput R.S hms htop rfl rfl rfl (fun vs H Q E h => ?_) (fun vs H Q E h => ?_) (fun env => rfl) (fun env => rfl) (fun env => rfl) (fun env => rfl) (fun cda cc A outer s H a vr Q E hr h => ?_)
  · obtain ⟨a, rfl, _⟩ := h
    rfl
  · obtain ⟨a, rfl, hx, _⟩ := h
    exact ⟨a, _, rfl, hx⟩
  · obtain ⟨a', e, hx, q⟩ := h
    cases e
    refine ⟨_, _, pa_cons pe_str pa_nil, pss_nil, ?_⟩
    exact ⟨(by show 1 ≤ 1000; decide), hx, q⟩
theorem ok_BadRun {P : Program} (htop : (P.main.scope.names.lookup ("super" : Str)).isSome = false) (hms : mg "super" = none) (R : Err P K mg "BadRun" "BadRun.__init__" i_BadRun ["self", "reason"] ["reason"]) : FnOk P w K mg base CX0 1 R.f R.fd ["self", "reason"] (spI1 R.C "reason") := by
  refine R.F.ok (C := R.C) sc_BadRun R.S hms htop rfl rfl rfl (fun vs H Q E h => ?_) (fun vs H Q E h => ?_) (fun env => rfl) (fun env => rfl) (fun env => rfl) (fun env => rfl) (fun cda cc A outer s H a vr Q E hr h => ?_)
  · obtain ⟨a, v, rfl, _⟩ := h
    rfl
  · obtain ⟨a, v, rfl, hx, _⟩ := h
    exact ⟨a, _, rfl, hx⟩
  · obtain ⟨a', v, e, hx, hv, q⟩ := h
    cases e
    refine ⟨_, _, pa_cons (pe_joined (.cons pe_str (.cons (pe_fmt (pv 1)) .nil))) pa_nil, pss_one (ps_ost (pv 0) (pv 1)), ?_⟩
    rcases hv.two with ⟨y, rfl, hy⟩ | ⟨i, rfl, hi, hd⟩
    · refine ⟨_, rfl, by decide +kernel, _, rfl, .inl ⟨y, rfl, big (by omega), y, rfl, big (Nat.le_trans (len_app (a := 100) (by decide +kernel) hy) (by decide)), (by show 1 ≤ 1000; decide), hx, ?_⟩⟩
      exact ⟨_, rfl, _, rfl, a, R.C, rfl, R.S.ox, R.no _ (by decide +kernel), .inl ⟨hx, fun dx nd ne => fin1 nd ne (q dx)⟩⟩
    · refine ⟨_, rfl, by decide +kernel, _, rfl, .inr ⟨i, rfl, hi, _, rfl, big (Nat.le_trans (len_app (a := 100) (by decide +kernel) hd) (by decide)), (by show 1 ≤ 1000; decide), hx, ?_⟩⟩
      exact ⟨_, rfl, _, rfl, a, R.C, rfl, R.S.ox, R.no _ (by decide +kernel), .inl ⟨hx, fun dx nd ne => fin1 nd ne (q dx)⟩⟩

end
theorem triples0 : TriplesOk (#[] : Array Value).toList := by
  trivial
section
variable {w : World} {K : PySem.W.Frag} {mg : Str → Option Value} {base : Heap}
theorem ok_law' (T : Tx PySem.Challenge.rw_quietsmith_k32_control_steps.prog w K mg) (B_is_memory : LamX.TabB base mg T.cc_is_memory T.P_is_memory) {f : Addr} {fd : FuncData} (F : Fun K "law" "law" s_law f fd) : FnOk PySem.Challenge.rw_quietsmith_k32_control_steps.prog w K mg base CX0 9 f fd ["script"] (spLaw K [T.P_is_memory]) := by
  have htop : (PySem.Challenge.rw_quietsmith_k32_control_steps.prog.main.scope.names.lookup ("super" : Str)).isSome = false := by decide +kernel
  have G_BadRun := ok_BadRun (w := w) (base := base) htop T.z_super T.E_BadRun
  have G_law_one_holds : FnOk PySem.Challenge.rw_quietsmith_k32_control_steps.prog w K mg base CX0 8 T.a_law_one_holds T.d_law_one_holds ["script", "at"] (spOne K T.P_is_memory) := ok_one T G_BadRun B_is_memory
  refine F.ok sc_law (fun vs H Q E h => ?_) (fun cdv A outer s HH vs Q E hr h => ?_)
  · obtain ⟨a, ns, rfl, _⟩ := h
    rfl
  · obtain ⟨a, ns, rfl, hS, hlen, _, hP, q⟩ := h
    have hr_law_one_holds : Room 8 _ := hr
    have hPt := hP T.P_is_memory (by simp)
    refine ⟨_, (pss_cons (ps_for PassesOwn.never rfl (pi_range1 rfl T.z_range (pa_cons pe_int pa_nil)) (pg_name (i := 1) sc_law.nd rfl (.inl rfl))
        (pss_one (ps_if (pt_not (pt_val (pe_call G_law_one_holds hr_law_one_holds (by rfl) T.g_law_one_holds T.F_law_one_holds.kp T.b_law_one_holds .nil pass0 (pa_cons (pv 0) (pa_cons (pe_op op_mul pe_int (pv 1)) pa_nil)))))
        (pss_one (ps_ret pe_bl))
        pss_nil)))
        (pss_one (ps_ret pe_bl))), ?_⟩
    have o0 : Objs (fun b => if b = T.P_is_memory then none else HH b) HH [(T.P_is_memory, .tbl #[])] := by
      refine ⟨fun b u e => ?_, fun q hq => ?_, by simp, fun q hq => ?_⟩
      · split at e
        · cases e
        · exact e
      · obtain rfl : q = _ := by simpa using hq
        exact hPt
      · obtain rfl : q = _ := by simpa using hq
        exact if_pos rfl
    have hS0 : SqL K (fun b => if b = T.P_is_memory then none else HH b) a (ns.map V.int) := by
      have hh : ∀ o, HH a = some o → (∀ q, o ≠ .tbl q) → (fun b => if b = T.P_is_memory then none else HH b) a = some o := fun o e n => by
        have : a ≠ T.P_is_memory := fun z => by rw [z, hPt] at e; cases e; exact n _ rfl
        show (if a = T.P_is_memory then none else HH a) = some o
        rw [if_neg this]
        exact e
      rcases hS with h | h
      · refine .inl ?_
        rcases h with h | ⟨o, h⟩
        · exact .inl (hh _ h fun q z => by cases z)
        · exact .inr ⟨o, hh _ h fun q z => by cases z⟩
      · exact .inr h
    refine ⟨7, rfl, by decide, by decide, for_range (lo := 0) (n := 7) (fun i σ H => ∃ v ps, σ = [some (.ref a), v] ∧ Objs (fun b => if b = T.P_is_memory then none else HH b) H [(T.P_is_memory, .tbl ps)] ∧ TriplesOk ps.toList) ⟨_, _, rfl, o0, triples0⟩ ?_ ?_⟩
    · rintro i σ H hi ⟨v, ps, rfl, o, hps⟩
      refine ⟨_, rfl, _, rfl, _, _, rfl, rfl, ?_⟩
      refine ⟨.inl ⟨by decide, by decide⟩, ?_⟩
      refine ⟨_, a, ns, _, ps, rfl, hS0, hlen, by omega, o, hps, fun H' ps' o' hps' => ?_⟩
      exact ⟨_, rfl, _, ps', rfl, o', hps'⟩
    · rintro σ H ⟨v, ps, rfl, o, hps⟩
      exact q _
end
theorem all_mk {q : Program} {w : World} {K : PySem.W.Frag} {h : Heap} {mg : Str → Option Value} {fa : Addr} (X : K.In h) (G : h.Ns mainGlobals mg) (hfa : mg "law" = some (.ref fa)) (gt : GA.GTab q K h)
    {cCache : Addr}
    {cPredictor : Addr}
    {cMachine : Addr}
    {f1 : Addr} {od1 an1 : Option Addr} {sl1 : Array (Option Value)} {oc1 kV1 dc1 pm1 cd1 ct1 : Value}
    {f2 : Addr} {od2 an2 : Option Addr} {sl2 : Array (Option Value)} {oc2 kV2 dc2 pm2 cd2 ct2 : Value}
    {f3 : Addr} {od3 an3 : Option Addr} {sl3 : Array (Option Value)} {oc3 kV3 dc3 pm3 cd3 ct3 : Value}
    {f4 : Addr} {od4 an4 : Option Addr} {sl4 : Array (Option Value)} {oc4 kV4 dc4 pm4 cd4 ct4 : Value}
    {f5 : Addr} {od5 an5 : Option Addr} {sl5 : Array (Option Value)} {oc5 kV5 dc5 pm5 cd5 ct5 : Value}
    {f6 : Addr} {od6 an6 : Option Addr} {sl6 : Array (Option Value)} {oc6 kV6 dc6 pm6 cd6 ct6 : Value}
    {f7 : Addr} {od7 an7 : Option Addr} {sl7 : Array (Option Value)} {oc7 kV7 dc7 pm7 cd7 ct7 : Value}
    {f8 : Addr} {od8 an8 : Option Addr} {sl8 : Array (Option Value)} {oc8 kV8 dc8 pm8 cd8 ct8 : Value}
    {f9 : Addr} {od9 an9 : Option Addr} {sl9 : Array (Option Value)} {oc9 kV9 dc9 pm9 cd9 ct9 : Value}
    {f10 : Addr} {od10 an10 : Option Addr} {sl10 : Array (Option Value)} {oc10 kV10 dc10 pm10 cd10 ct10 : Value}
    {f11 cc11 P11 : Addr} {od11 an11 : Option Addr} {sl11 : Array (Option Value)} {oc11 kV11 dc11 pm11 ct11 : Value} {oq11 : Value} {dq11 : Option Addr} {vq11 : Array Value} {sq11 : Array (Option Value)}
    {f12 : Addr} {od12 an12 : Option Addr} {sl12 : Array (Option Value)} {oc12 kV12 dc12 pm12 cd12 ct12 : Value}
    {f13 : Addr} {od13 an13 : Option Addr} {sl13 : Array (Option Value)} {oc13 kV13 dc13 pm13 cd13 ct13 : Value}
    {f14 : Addr} {od14 an14 : Option Addr} {sl14 : Array (Option Value)} {oc14 kV14 dc14 pm14 cd14 ct14 : Value}
    {f15 : Addr} {od15 an15 : Option Addr} {sl15 : Array (Option Value)} {oc15 kV15 dc15 pm15 cd15 ct15 : Value}
    {f16 : Addr} {od16 an16 : Option Addr} {sl16 : Array (Option Value)} {oc16 kV16 dc16 pm16 cd16 ct16 : Value}
    {f17 : Addr} {od17 an17 : Option Addr} {sl17 : Array (Option Value)} {oc17 kV17 dc17 pm17 cd17 ct17 : Value}
    {f18 : Addr} {od18 an18 : Option Addr} {sl18 : Array (Option Value)} {oc18 kV18 dc18 pm18 cd18 ct18 : Value}
    {f19 : Addr} {od19 an19 : Option Addr} {sl19 : Array (Option Value)} {oc19 kV19 dc19 pm19 cd19 ct19 : Value}
    {f20 : Addr} {od20 an20 : Option Addr} {sl20 : Array (Option Value)} {oc20 kV20 dc20 pm20 cd20 ct20 : Value}
    {f21 : Addr} {od21 an21 : Option Addr} {sl21 : Array (Option Value)} {oc21 kV21 dc21 pm21 cd21 ct21 : Value}
    {f22 : Addr} {od22 an22 : Option Addr} {sl22 : Array (Option Value)} {oc22 kV22 dc22 pm22 cd22 ct22 : Value}
    {f23 : Addr} {od23 an23 : Option Addr} {sl23 : Array (Option Value)} {oc23 kV23 dc23 pm23 cd23 ct23 : Value}
    {f24 : Addr} {od24 an24 : Option Addr} {sl24 : Array (Option Value)} {oc24 kV24 dc24 pm24 cd24 ct24 : Value}
    {f25 : Addr} {od25 an25 : Option Addr} {sl25 : Array (Option Value)} {oc25 kV25 dc25 pm25 cd25 ct25 : Value}
    {f26 : Addr} {od26 an26 : Option Addr} {sl26 : Array (Option Value)} {oc26 kV26 dc26 pm26 cd26 ct26 : Value}
    {f27 : Addr} {od27 an27 : Option Addr} {sl27 : Array (Option Value)} {oc27 kV27 dc27 pm27 cd27 ct27 : Value}
    {f28 : Addr} {od28 an28 : Option Addr} {sl28 : Array (Option Value)} {oc28 kV28 dc28 pm28 cd28 ct28 : Value}
    {f29 : Addr} {od29 an29 : Option Addr} {sl29 : Array (Option Value)} {oc29 kV29 dc29 pm29 cd29 ct29 : Value}
    {f30 : Addr} {od30 an30 : Option Addr} {sl30 : Array (Option Value)} {oc30 kV30 dc30 pm30 cd30 ct30 : Value}
    {f31 : Addr} {od31 an31 : Option Addr} {sl31 : Array (Option Value)} {oc31 kV31 dc31 pm31 cd31 ct31 : Value}
    {f32 : Addr} {od32 an32 : Option Addr} {sl32 : Array (Option Value)} {oc32 kV32 dc32 pm32 cd32 ct32 : Value}
    {f33 : Addr} {od33 an33 : Option Addr} {sl33 : Array (Option Value)} {oc33 kV33 dc33 pm33 cd33 ct33 : Value}
    {f34 : Addr} {od34 an34 : Option Addr} {sl34 : Array (Option Value)} {oc34 kV34 dc34 pm34 cd34 ct34 : Value}
    {f35 : Addr} {od35 an35 : Option Addr} {sl35 : Array (Option Value)} {oc35 kV35 dc35 pm35 cd35 ct35 : Value}
    {f36 : Addr} {od36 an36 : Option Addr} {sl36 : Array (Option Value)} {oc36 kV36 dc36 pm36 cd36 ct36 : Value}
    {f37 : Addr} {od37 an37 : Option Addr} {sl37 : Array (Option Value)} {oc37 kV37 dc37 pm37 cd37 ct37 : Value}
    {f38 : Addr} {od38 an38 : Option Addr} {sl38 : Array (Option Value)} {oc38 kV38 dc38 pm38 cd38 ct38 : Value}
    {c_CYCLES : Addr}
    {es_CYCLES : Array DictEntry} {n_CYCLES : Nat}
    {t_LINES : Tok}
    {t_BLOCK_SIZE : Tok}
    {t_HIT : Tok}
    {t_MISS : Tok}
    {t_COUNTERS : Tok}
    {t_STRONGEST : Tok}
    {t_GREATEST_WORD : Tok}
    {t_WORD : Tok}
    {c_SHIFTS : Addr}
    {t_REGISTERS : Tok}
    {t_DEEPEST_STACK : Tok}
    {t_NO_ADDRESS : Tok}
    {t_WRONG_GUESS : Tok}
    {c_LEAVES : Addr}
    {cQ : Addr}
    {CBadInput fBadInput cdBadInput ccBadInput : Addr} {nmBadInput qqBadInput : Str} {NBadInput : Addr} {bsBadInput subBadInput : List Value} {snBadInput : List Str} {abBadInput : Bool} {colBadInput : Option Bool} {ddBadInput odBadInput anBadInput cddBadInput cldBadInput : Option Addr} {m0BadInput m1BadInput m2BadInput m3BadInput m5BadInput : Option Value} {ocBadInput kVBadInput dcBadInput pmBadInput ctBadInput clBadInput cmBadInput : Value} {slBadInput ccsBadInput cslBadInput : Array (Option Value)} {vsBadInput : Array Value} {fileBadInput : Str} {tfBadInput : Tok}
    {CBadRun fBadRun cdBadRun ccBadRun : Addr} {nmBadRun qqBadRun : Str} {NBadRun : Addr} {bsBadRun subBadRun : List Value} {snBadRun : List Str} {abBadRun : Bool} {colBadRun : Option Bool} {ddBadRun odBadRun anBadRun cddBadRun cldBadRun : Option Addr} {m0BadRun m1BadRun m2BadRun m3BadRun m5BadRun : Option Value} {ocBadRun kVBadRun dcBadRun pmBadRun ctBadRun clBadRun cmBadRun : Value} {slBadRun ccsBadRun cslBadRun : Array (Option Value)} {vsBadRun : Array Value} {fileBadRun : Str} {tfBadRun : Tok}
    (gCache : PySem.W.nsIn K mainGlobals "Cache" = some (some (.ref cCache))) (pgCache : PySem.W.plainGet K cCache Str.empty = true) (hdCache : PySem.W.hasDictIn K cCache = true) (poCache : PySem.W.plainOver K cCache = true) (saCache : PySem.W.findIn K (.ref cCache) "__setattr__" = some (some (.builtin "object.__setattr__"))) (mkCache : PySem.W.makesIn K cCache = true) (kcCache : PySem.W.keepIn K (.ref cCache) = true)
    (nf_Cache_blocks : PySem.W.findIn K (.ref cCache) "blocks" = some none)
    (gPredictor : PySem.W.nsIn K mainGlobals "Predictor" = some (some (.ref cPredictor))) (pgPredictor : PySem.W.plainGet K cPredictor Str.empty = true) (hdPredictor : PySem.W.hasDictIn K cPredictor = true) (poPredictor : PySem.W.plainOver K cPredictor = true) (saPredictor : PySem.W.findIn K (.ref cPredictor) "__setattr__" = some (some (.builtin "object.__setattr__"))) (mkPredictor : PySem.W.makesIn K cPredictor = true) (kcPredictor : PySem.W.keepIn K (.ref cPredictor) = true)
    (nf_Predictor_marks : PySem.W.findIn K (.ref cPredictor) "marks" = some none)
    (gMachine : PySem.W.nsIn K mainGlobals "Machine" = some (some (.ref cMachine))) (pgMachine : PySem.W.plainGet K cMachine Str.empty = true) (hdMachine : PySem.W.hasDictIn K cMachine = true) (poMachine : PySem.W.plainOver K cMachine = true) (saMachine : PySem.W.findIn K (.ref cMachine) "__setattr__" = some (some (.builtin "object.__setattr__"))) (mkMachine : PySem.W.makesIn K cMachine = true) (kcMachine : PySem.W.keepIn K (.ref cMachine) = true)
    (nf_Machine_code : PySem.W.findIn K (.ref cMachine) "code" = some none)
    (nf_Machine_mosts : PySem.W.findIn K (.ref cMachine) "mosts" = some none)
    (nf_Machine_cells : PySem.W.findIn K (.ref cMachine) "cells" = some none)
    (nf_Machine_words : PySem.W.findIn K (.ref cMachine) "words" = some none)
    (nf_Machine_flag : PySem.W.findIn K (.ref cMachine) "flag" = some none)
    (nf_Machine_waiting : PySem.W.findIn K (.ref cMachine) "waiting" = some none)
    (nf_Machine_at : PySem.W.findIn K (.ref cMachine) "at" = some none)
    (nf_Machine_clock : PySem.W.findIn K (.ref cMachine) "clock" = some none)
    (nf_Machine_over : PySem.W.findIn K (.ref cMachine) "over" = some none)
    (nf_Machine_trace : PySem.W.findIn K (.ref cMachine) "trace" = some none)
    (nf_Machine_cache : PySem.W.findIn K (.ref cMachine) "cache" = some none)
    (nf_Machine_predictor : PySem.W.findIn K (.ref cMachine) "predictor" = some none)
    (a1 : PySem.W.nsIn K mainGlobals "_wall" = some (some (.ref f1))) (l1 : K.lookup f1 = some ⟨oc1, od1, .func (PySem.W.fnOf "_wall" "_wall" (defArgs s_wall) (defBody s_wall) (defScope s_wall) .none kV1 dc1 pm1 an1 cd1 ct1), sl1⟩) (c1 : PySem.W.codeIn K cd1 "_wall" = true) (k1 : PySem.W.keepIn K (.ref f1) = true)
    (a2 : PySem.W.nsIn K mainGlobals "base_cycles" = some (some (.ref f2))) (l2 : K.lookup f2 = some ⟨oc2, od2, .func (PySem.W.fnOf "base_cycles" "base_cycles" (defArgs s_base_cycles) (defBody s_base_cycles) (defScope s_base_cycles) .none kV2 dc2 pm2 an2 cd2 ct2), sl2⟩) (c2 : PySem.W.codeIn K cd2 "base_cycles" = true) (k2 : PySem.W.keepIn K (.ref f2) = true)
    (a3 : PySem.W.findIn K (.ref cCache) "__init__" = some (some (.ref f3))) (l3 : K.lookup f3 = some ⟨oc3, od3, .func (PySem.W.fnOf "__init__" "Cache.__init__" (defArgs s_Cache_init) (defBody s_Cache_init) (defScope s_Cache_init) .none kV3 dc3 pm3 an3 cd3 ct3), sl3⟩) (c3 : PySem.W.codeIn K cd3 "Cache.__init__" = true) (k3 : PySem.W.keepIn K (.ref f3) = true)
    (i3 : PySem.W.isFn K (.ref f3) = true)
    (a4 : PySem.W.findIn K (.ref cCache) "lines" = some (some (.ref f4))) (l4 : K.lookup f4 = some ⟨oc4, od4, .func (PySem.W.fnOf "lines" "Cache.lines" (defArgs s_Cache_lines) (defBody s_Cache_lines) (defScope s_Cache_lines) .none kV4 dc4 pm4 an4 cd4 ct4), sl4⟩) (c4 : PySem.W.codeIn K cd4 "Cache.lines" = true) (k4 : PySem.W.keepIn K (.ref f4) = true)
    (i4 : PySem.W.isFn K (.ref f4) = true)
    (a5 : PySem.W.findIn K (.ref cPredictor) "__init__" = some (some (.ref f5))) (l5 : K.lookup f5 = some ⟨oc5, od5, .func (PySem.W.fnOf "__init__" "Predictor.__init__" (defArgs s_Predictor_init) (defBody s_Predictor_init) (defScope s_Predictor_init) .none kV5 dc5 pm5 an5 cd5 ct5), sl5⟩) (c5 : PySem.W.codeIn K cd5 "Predictor.__init__" = true) (k5 : PySem.W.keepIn K (.ref f5) = true)
    (i5 : PySem.W.isFn K (.ref f5) = true)
    (a6 : PySem.W.findIn K (.ref cPredictor) "branch" = some (some (.ref f6))) (l6 : K.lookup f6 = some ⟨oc6, od6, .func (PySem.W.fnOf "branch" "Predictor.branch" (defArgs s_Predictor_branch) (defBody s_Predictor_branch) (defScope s_Predictor_branch) .none kV6 dc6 pm6 an6 cd6 ct6), sl6⟩) (c6 : PySem.W.codeIn K cd6 "Predictor.branch" = true) (k6 : PySem.W.keepIn K (.ref f6) = true)
    (i6 : PySem.W.isFn K (.ref f6) = true)
    (a7 : PySem.W.findIn K (.ref cPredictor) "counters" = some (some (.ref f7))) (l7 : K.lookup f7 = some ⟨oc7, od7, .func (PySem.W.fnOf "counters" "Predictor.counters" (defArgs s_Predictor_counters) (defBody s_Predictor_counters) (defScope s_Predictor_counters) .none kV7 dc7 pm7 an7 cd7 ct7), sl7⟩) (c7 : PySem.W.codeIn K cd7 "Predictor.counters" = true) (k7 : PySem.W.keepIn K (.ref f7) = true)
    (i7 : PySem.W.isFn K (.ref f7) = true)
    (a8 : PySem.W.nsIn K mainGlobals "is_integer" = some (some (.ref f8))) (l8 : K.lookup f8 = some ⟨oc8, od8, .func (PySem.W.fnOf "is_integer" "is_integer" (defArgs s_is_integer) (defBody s_is_integer) (defScope s_is_integer) .none kV8 dc8 pm8 an8 cd8 ct8), sl8⟩) (c8 : PySem.W.codeIn K cd8 "is_integer" = true) (k8 : PySem.W.keepIn K (.ref f8) = true)
    (a9 : PySem.W.nsIn K mainGlobals "region_end" = some (some (.ref f9))) (l9 : K.lookup f9 = some ⟨oc9, od9, .func (PySem.W.fnOf "region_end" "region_end" (defArgs s_region_end) (defBody s_region_end) (defScope s_region_end) .none kV9 dc9 pm9 an9 cd9 ct9), sl9⟩) (c9 : PySem.W.codeIn K cd9 "region_end" = true) (k9 : PySem.W.keepIn K (.ref f9) = true)
    (a10 : PySem.W.nsIn K mainGlobals "layout_end" = some (some (.ref f10))) (l10 : K.lookup f10 = some ⟨oc10, od10, .func (PySem.W.fnOf "layout_end" "layout_end" (defArgs s_layout_end) (defBody s_layout_end) (defScope s_layout_end) .none kV10 dc10 pm10 an10 cd10 ct10), sl10⟩) (c10 : PySem.W.codeIn K cd10 "layout_end" = true) (k10 : PySem.W.keepIn K (.ref f10) = true)
    (a11 : PySem.W.nsIn K mainGlobals "is_memory" = some (some (.ref f11))) (l11 : K.lookup f11 = some ⟨oc11, od11, .func (PySem.W.fnOf "is_memory" "is_memory" (defArgs s_is_memory) (defBody s_is_memory) (defScope s_is_memory) .none kV11 dc11 pm11 an11 (.ref cc11) ct11), sl11⟩) (c11 : PySem.W.codeIn K (.ref cc11) "is_memory" = true) (k11 : PySem.W.keepIn K (.ref f11) = true)
    (qk11 : K.lookup cc11 = some ⟨oq11, dq11, .fields vq11, sq11⟩) (vk11 : vq11[11]? = some (.ref P11)) (np11 : K.lookup P11 = none)
    (a12 : PySem.W.nsIn K mainGlobals "outcome" = some (some (.ref f12))) (l12 : K.lookup f12 = some ⟨oc12, od12, .func (PySem.W.fnOf "outcome" "outcome" (defArgs s_outcome) (defBody s_outcome) (defScope s_outcome) .none kV12 dc12 pm12 an12 cd12 ct12), sl12⟩) (c12 : PySem.W.codeIn K cd12 "outcome" = true) (k12 : PySem.W.keepIn K (.ref f12) = true)
    (a13 : PySem.W.nsIn K mainGlobals "mosts_of" = some (some (.ref f13))) (l13 : K.lookup f13 = some ⟨oc13, od13, .func (PySem.W.fnOf "mosts_of" "mosts_of" (defArgs s_mosts_of) (defBody s_mosts_of) (defScope s_mosts_of) .none kV13 dc13 pm13 an13 cd13 ct13), sl13⟩) (c13 : PySem.W.codeIn K cd13 "mosts_of" = true) (k13 : PySem.W.keepIn K (.ref f13) = true)
    (a14 : PySem.W.findIn K (.ref cMachine) "__init__" = some (some (.ref f14))) (l14 : K.lookup f14 = some ⟨oc14, od14, .func (PySem.W.fnOf "__init__" "Machine.__init__" (defArgs s_Machine_init) (defBody s_Machine_init) (defScope s_Machine_init) .none kV14 dc14 pm14 an14 cd14 ct14), sl14⟩) (c14 : PySem.W.codeIn K cd14 "Machine.__init__" = true) (k14 : PySem.W.keepIn K (.ref f14) = true)
    (i14 : PySem.W.isFn K (.ref f14) = true)
    (a15 : PySem.W.findIn K (.ref cMachine) "step" = some (some (.ref f15))) (l15 : K.lookup f15 = some ⟨oc15, od15, .func (PySem.W.fnOf "step" "Machine.step" (defArgs s_Machine_step) (defBody s_Machine_step) (defScope s_Machine_step) .none kV15 dc15 pm15 an15 cd15 ct15), sl15⟩) (c15 : PySem.W.codeIn K cd15 "Machine.step" = true) (k15 : PySem.W.keepIn K (.ref f15) = true)
    (i15 : PySem.W.isFn K (.ref f15) = true)
    (a16 : PySem.W.findIn K (.ref cMachine) "run" = some (some (.ref f16))) (l16 : K.lookup f16 = some ⟨oc16, od16, .func (PySem.W.fnOf "run" "Machine.run" (defArgs s_Machine_run) (defBody s_Machine_run) (defScope s_Machine_run) .none kV16 dc16 pm16 an16 cd16 ct16), sl16⟩) (c16 : PySem.W.codeIn K cd16 "Machine.run" = true) (k16 : PySem.W.keepIn K (.ref f16) = true)
    (i16 : PySem.W.isFn K (.ref f16) = true)
    (a17 : PySem.W.findIn K (.ref cMachine) "show" = some (some (.ref f17))) (l17 : K.lookup f17 = some ⟨oc17, od17, .func (PySem.W.fnOf "show" "Machine.show" (defArgs s_Machine_show) (defBody s_Machine_show) (defScope s_Machine_show) .none kV17 dc17 pm17 an17 cd17 ct17), sl17⟩) (c17 : PySem.W.codeIn K cd17 "Machine.show" = true) (k17 : PySem.W.keepIn K (.ref f17) = true)
    (i17 : PySem.W.isFn K (.ref f17) = true)
    (a18 : PySem.W.findIn K (.ref cMachine) "compute" = some (some (.ref f18))) (l18 : K.lookup f18 = some ⟨oc18, od18, .func (PySem.W.fnOf "compute" "Machine.compute" (defArgs s_Machine_compute) (defBody s_Machine_compute) (defScope s_Machine_compute) .none kV18 dc18 pm18 an18 cd18 ct18), sl18⟩) (c18 : PySem.W.codeIn K cd18 "Machine.compute" = true) (k18 : PySem.W.keepIn K (.ref f18) = true)
    (i18 : PySem.W.isFn K (.ref f18) = true)
    (a19 : PySem.W.findIn K (.ref cMachine) "leave" = some (some (.ref f19))) (l19 : K.lookup f19 = some ⟨oc19, od19, .func (PySem.W.fnOf "leave" "Machine.leave" (defArgs s_Machine_leave) (defBody s_Machine_leave) (defScope s_Machine_leave) .none kV19 dc19 pm19 an19 cd19 ct19), sl19⟩) (c19 : PySem.W.codeIn K cd19 "Machine.leave" = true) (k19 : PySem.W.keepIn K (.ref f19) = true)
    (i19 : PySem.W.isFn K (.ref f19) = true)
    (a20 : PySem.W.findIn K (.ref cMachine) "place_behind" = some (some (.ref f20))) (l20 : K.lookup f20 = some ⟨oc20, od20, .func (PySem.W.fnOf "place_behind" "Machine.place_behind" (defArgs s_Machine_place_behind) (defBody s_Machine_place_behind) (defScope s_Machine_place_behind) .none kV20 dc20 pm20 an20 cd20 ct20), sl20⟩) (c20 : PySem.W.codeIn K cd20 "Machine.place_behind" = true) (k20 : PySem.W.keepIn K (.ref f20) = true)
    (i20 : PySem.W.isFn K (.ref f20) = true)
    (a21 : PySem.W.findIn K (.ref cMachine) "ended" = some (some (.ref f21))) (l21 : K.lookup f21 = some ⟨oc21, od21, .func (PySem.W.fnOf "ended" "Machine.ended" (defArgs s_Machine_ended) (defBody s_Machine_ended) (defScope s_Machine_ended) .none kV21 dc21 pm21 an21 cd21 ct21), sl21⟩) (c21 : PySem.W.codeIn K cd21 "Machine.ended" = true) (k21 : PySem.W.keepIn K (.ref f21) = true)
    (i21 : PySem.W.isFn K (.ref f21) = true)
    (a22 : PySem.W.findIn K (.ref cMachine) "place" = some (some (.ref f22))) (l22 : K.lookup f22 = some ⟨oc22, od22, .func (PySem.W.fnOf "place" "Machine.place" (defArgs s_Machine_place) (defBody s_Machine_place) (defScope s_Machine_place) .none kV22 dc22 pm22 an22 cd22 ct22), sl22⟩) (c22 : PySem.W.codeIn K cd22 "Machine.place" = true) (k22 : PySem.W.keepIn K (.ref f22) = true)
    (i22 : PySem.W.isFn K (.ref f22) = true)
    (a23 : PySem.W.findIn K (.ref cMachine) "cycles" = some (some (.ref f23))) (l23 : K.lookup f23 = some ⟨oc23, od23, .func (PySem.W.fnOf "cycles" "Machine.cycles" (defArgs s_Machine_cycles) (defBody s_Machine_cycles) (defScope s_Machine_cycles) .none kV23 dc23 pm23 an23 cd23 ct23), sl23⟩) (c23 : PySem.W.codeIn K cd23 "Machine.cycles" = true) (k23 : PySem.W.keepIn K (.ref f23) = true)
    (i23 : PySem.W.isFn K (.ref f23) = true)
    (a24 : PySem.W.findIn K (.ref cMachine) "carry" = some (some (.ref f24))) (l24 : K.lookup f24 = some ⟨oc24, od24, .func (PySem.W.fnOf "carry" "Machine.carry" (defArgs s_Machine_carry) (defBody s_Machine_carry) (defScope s_Machine_carry) .none kV24 dc24 pm24 an24 cd24 ct24), sl24⟩) (c24 : PySem.W.codeIn K cd24 "Machine.carry" = true) (k24 : PySem.W.keepIn K (.ref f24) = true)
    (i24 : PySem.W.isFn K (.ref f24) = true)
    (a25 : PySem.W.findIn K (.ref cMachine) "registers" = some (some (.ref f25))) (l25 : K.lookup f25 = some ⟨oc25, od25, .func (PySem.W.fnOf "registers" "Machine.registers" (defArgs s_Machine_registers) (defBody s_Machine_registers) (defScope s_Machine_registers) .none kV25 dc25 pm25 an25 cd25 ct25), sl25⟩) (c25 : PySem.W.codeIn K cd25 "Machine.registers" = true) (k25 : PySem.W.keepIn K (.ref f25) = true)
    (i25 : PySem.W.isFn K (.ref f25) = true)
    (a26 : PySem.W.findIn K (.ref cMachine) "memory" = some (some (.ref f26))) (l26 : K.lookup f26 = some ⟨oc26, od26, .func (PySem.W.fnOf "memory" "Machine.memory" (defArgs s_Machine_memory) (defBody s_Machine_memory) (defScope s_Machine_memory) .none kV26 dc26 pm26 an26 cd26 ct26), sl26⟩) (c26 : PySem.W.codeIn K cd26 "Machine.memory" = true) (k26 : PySem.W.keepIn K (.ref f26) = true)
    (i26 : PySem.W.isFn K (.ref f26) = true)
    (a27 : PySem.W.findIn K (.ref cMachine) "stack" = some (some (.ref f27))) (l27 : K.lookup f27 = some ⟨oc27, od27, .func (PySem.W.fnOf "stack" "Machine.stack" (defArgs s_Machine_stack) (defBody s_Machine_stack) (defScope s_Machine_stack) .none kV27 dc27 pm27 an27 cd27 ct27), sl27⟩) (c27 : PySem.W.codeIn K cd27 "Machine.stack" = true) (k27 : PySem.W.keepIn K (.ref f27) = true)
    (i27 : PySem.W.isFn K (.ref f27) = true)
    (a28 : PySem.W.findIn K (.ref cMachine) "shown" = some (some (.ref f28))) (l28 : K.lookup f28 = some ⟨oc28, od28, .func (PySem.W.fnOf "shown" "Machine.shown" (defArgs s_Machine_shown) (defBody s_Machine_shown) (defScope s_Machine_shown) .none kV28 dc28 pm28 an28 cd28 ct28), sl28⟩) (c28 : PySem.W.codeIn K cd28 "Machine.shown" = true) (k28 : PySem.W.keepIn K (.ref f28) = true)
    (i28 : PySem.W.isFn K (.ref f28) = true)
    (a29 : PySem.W.nsIn K mainGlobals "_law_source" = some (some (.ref f29))) (l29 : K.lookup f29 = some ⟨oc29, od29, .func (PySem.W.fnOf "_law_source" "_law_source" (defArgs s_law_source) (defBody s_law_source) (defScope s_law_source) .none kV29 dc29 pm29 an29 cd29 ct29), sl29⟩) (c29 : PySem.W.codeIn K cd29 "_law_source" = true) (k29 : PySem.W.keepIn K (.ref f29) = true)
    (a30 : PySem.W.nsIn K mainGlobals "_law_draw" = some (some (.ref f30))) (l30 : K.lookup f30 = some ⟨oc30, od30, .func (PySem.W.fnOf "_law_draw" "_law_draw" (defArgs s_law_draw) (defBody s_law_draw) (defScope s_law_draw) .none kV30 dc30 pm30 an30 cd30 ct30), sl30⟩) (c30 : PySem.W.codeIn K cd30 "_law_draw" = true) (k30 : PySem.W.keepIn K (.ref f30) = true)
    (a31 : PySem.W.nsIn K mainGlobals "_law_same_words" = some (some (.ref f31))) (l31 : K.lookup f31 = some ⟨oc31, od31, .func (PySem.W.fnOf "_law_same_words" "_law_same_words" (defArgs s_law_same_words) (defBody s_law_same_words) (defScope s_law_same_words) .none kV31 dc31 pm31 an31 cd31 ct31), sl31⟩) (c31 : PySem.W.codeIn K cd31 "_law_same_words" = true) (k31 : PySem.W.keepIn K (.ref f31) = true)
    (a32 : PySem.W.nsIn K mainGlobals "_law_instruction" = some (some (.ref f32))) (l32 : K.lookup f32 = some ⟨oc32, od32, .func (PySem.W.fnOf "_law_instruction" "_law_instruction" (defArgs s_law_instruction) (defBody s_law_instruction) (defScope s_law_instruction) .none kV32 dc32 pm32 an32 cd32 ct32), sl32⟩) (c32 : PySem.W.codeIn K cd32 "_law_instruction" = true) (k32 : PySem.W.keepIn K (.ref f32) = true)
    (a33 : PySem.W.nsIn K mainGlobals "_law_refusal" = some (some (.ref f33))) (l33 : K.lookup f33 = some ⟨oc33, od33, .func (PySem.W.fnOf "_law_refusal" "_law_refusal" (defArgs s_law_refusal) (defBody s_law_refusal) (defScope s_law_refusal) .none kV33 dc33 pm33 an33 cd33 ct33), sl33⟩) (c33 : PySem.W.codeIn K cd33 "_law_refusal" = true) (k33 : PySem.W.keepIn K (.ref f33) = true)
    (a34 : PySem.W.nsIn K mainGlobals "_law_holds" = some (some (.ref f34))) (l34 : K.lookup f34 = some ⟨oc34, od34, .func (PySem.W.fnOf "_law_holds" "_law_holds" (defArgs s_law_holds) (defBody s_law_holds) (defScope s_law_holds) .none kV34 dc34 pm34 an34 cd34 ct34), sl34⟩) (c34 : PySem.W.codeIn K cd34 "_law_holds" = true) (k34 : PySem.W.keepIn K (.ref f34) = true)
    (a35 : PySem.W.nsIn K mainGlobals "_law_goes" = some (some (.ref f35))) (l35 : K.lookup f35 = some ⟨oc35, od35, .func (PySem.W.fnOf "_law_goes" "_law_goes" (defArgs s_law_goes) (defBody s_law_goes) (defScope s_law_goes) .none kV35 dc35 pm35 an35 cd35 ct35), sl35⟩) (c35 : PySem.W.codeIn K cd35 "_law_goes" = true) (k35 : PySem.W.keepIn K (.ref f35) = true)
    (a36 : PySem.W.nsIn K mainGlobals "_law_refused" = some (some (.ref f36))) (l36 : K.lookup f36 = some ⟨oc36, od36, .func (PySem.W.fnOf "_law_refused" "_law_refused" (defArgs s_law_refused) (defBody s_law_refused) (defScope s_law_refused) .none kV36 dc36 pm36 an36 cd36 ct36), sl36⟩) (c36 : PySem.W.codeIn K cd36 "_law_refused" = true) (k36 : PySem.W.keepIn K (.ref f36) = true)
    (a37 : PySem.W.nsIn K mainGlobals "_law_one_holds" = some (some (.ref f37))) (l37 : K.lookup f37 = some ⟨oc37, od37, .func (PySem.W.fnOf "_law_one_holds" "_law_one_holds" (defArgs s_law_one_holds) (defBody s_law_one_holds) (defScope s_law_one_holds) .none kV37 dc37 pm37 an37 cd37 ct37), sl37⟩) (c37 : PySem.W.codeIn K cd37 "_law_one_holds" = true) (k37 : PySem.W.keepIn K (.ref f37) = true)
    (a38 : PySem.W.nsIn K mainGlobals "law" = some (some (.ref f38))) (l38 : K.lookup f38 = some ⟨oc38, od38, .func (PySem.W.fnOf "law" "law" (defArgs s_law) (defBody s_law) (defScope s_law) .none kV38 dc38 pm38 an38 cd38 ct38), sl38⟩) (c38 : PySem.W.codeIn K cd38 "law" = true) (k38 : PySem.W.keepIn K (.ref f38) = true)
    (g_CYCLES : PySem.W.nsIn K mainGlobals "CYCLES" = some (some (.ref c_CYCLES)))
    (lk_CYCLES : K.lookup c_CYCLES = some ⟨.type "dict", none, .dict es_CYCLES n_CYCLES, #[]⟩) (kl_CYCLES : PySem.W.KeysLit w.params es_CYCLES.toList) (lo_CYCLES : (c_CYCLES == sysModules) = false)
    (g_LINES : PySem.W.nsIn K mainGlobals "LINES" = some (some (.int (8) t_LINES)))
    (g_BLOCK_SIZE : PySem.W.nsIn K mainGlobals "BLOCK_SIZE" = some (some (.int (4) t_BLOCK_SIZE)))
    (g_HIT : PySem.W.nsIn K mainGlobals "HIT" = some (some (.int (1) t_HIT)))
    (g_MISS : PySem.W.nsIn K mainGlobals "MISS" = some (some (.int (6) t_MISS)))
    (g_COUNTERS : PySem.W.nsIn K mainGlobals "COUNTERS" = some (some (.int (16) t_COUNTERS)))
    (g_STRONGEST : PySem.W.nsIn K mainGlobals "STRONGEST" = some (some (.int (3) t_STRONGEST)))
    (g_GREATEST_WORD : PySem.W.nsIn K mainGlobals "GREATEST_WORD" = some (some (.int (65535) t_GREATEST_WORD)))
    (g_WORD : PySem.W.nsIn K mainGlobals "WORD" = some (some (.int (65536) t_WORD)))
    (g_SHIFTS : PySem.W.nsIn K mainGlobals "SHIFTS" = some (some (.ref c_SHIFTS)))
    (g_REGISTERS : PySem.W.nsIn K mainGlobals "REGISTERS" = some (some (.int (16) t_REGISTERS)))
    (g_DEEPEST_STACK : PySem.W.nsIn K mainGlobals "DEEPEST_STACK" = some (some (.int (16) t_DEEPEST_STACK)))
    (g_NO_ADDRESS : PySem.W.nsIn K mainGlobals "NO_ADDRESS" = some (some (.int (-1) t_NO_ADDRESS)))
    (g_WRONG_GUESS : PySem.W.nsIn K mainGlobals "WRONG_GUESS" = some (some (.int (3) t_WRONG_GUESS)))
    (g_LEAVES : PySem.W.nsIn K mainGlobals "LEAVES" = some (some (.ref c_LEAVES)))
    (z_ValueError : PySem.W.nsIn K mainGlobals "ValueError" = some none)
    (z_abs : PySem.W.nsIn K mainGlobals "abs" = some none)
    (z_all : PySem.W.nsIn K mainGlobals "all" = some none)
    (z_bool : PySem.W.nsIn K mainGlobals "bool" = some none)
    (z_int : PySem.W.nsIn K mainGlobals "int" = some none)
    (z_isinstance : PySem.W.nsIn K mainGlobals "isinstance" = some none)
    (z_len : PySem.W.nsIn K mainGlobals "len" = some none)
    (z_list : PySem.W.nsIn K mainGlobals "list" = some none)
    (z_max : PySem.W.nsIn K mainGlobals "max" = some none)
    (z_min : PySem.W.nsIn K mainGlobals "min" = some none)
    (z_range : PySem.W.nsIn K mainGlobals "range" = some none)
    (z_tuple : PySem.W.nsIn K mainGlobals "tuple" = some none)
    (g_QuietError : PySem.W.nsIn K mainGlobals "QuietError" = some (some (.ref cQ)))
    (egBadInput : PySem.W.nsIn K mainGlobals "BadInput" = some (some (.ref CBadInput))) (eiBadInput : PySem.W.findIn K (.ref CBadInput) "__init__" = some (some (.ref fBadInput))) (eLBadInput : K.lookup CBadInput = some (excClassObj nmBadInput qqBadInput CBadInput NBadInput bsBadInput [.ref cQ, .type "ValueError", .type "Exception", .type "BaseException", .type "object"] true snBadInput subBadInput abBadInput colBadInput ddBadInput m0BadInput m1BadInput m2BadInput m3BadInput m5BadInput "ValueError.__new__"))
    (eFBadInput : K.lookup fBadInput = some ⟨ocBadInput, odBadInput, .func (PySem.W.ksFn "__init__" "BadInput.__init__" (defArgs i_BadInput) (defBody i_BadInput) (defScope i_BadInput) .none kVBadInput dcBadInput pmBadInput anBadInput (.ref cdBadInput) ctBadInput ccBadInput), slBadInput⟩) (eCBadInput : PySem.W.codeIn K (.ref cdBadInput) "BadInput.__init__" = true) (eDBadInput : K.lookup cdBadInput = some ⟨clBadInput, cddBadInput, .fields vsBadInput, ccsBadInput⟩) (eVBadInput : vsBadInput[2]? = some (.str fileBadInput tfBadInput)) (eMBadInput : (PySem.Challenge.rw_quietsmith_k32_control_steps.prog.main.file == fileBadInput) = true) (eEBadInput : K.lookup ccBadInput = some ⟨cmBadInput, cldBadInput, .cell (some (.ref CBadInput)), cslBadInput⟩)
    (eBBadInput : errB K CBadInput fBadInput [] = true)
    (egBadRun : PySem.W.nsIn K mainGlobals "BadRun" = some (some (.ref CBadRun))) (eiBadRun : PySem.W.findIn K (.ref CBadRun) "__init__" = some (some (.ref fBadRun))) (eLBadRun : K.lookup CBadRun = some (excClassObj nmBadRun qqBadRun CBadRun NBadRun bsBadRun [.ref cQ, .type "ValueError", .type "Exception", .type "BaseException", .type "object"] true snBadRun subBadRun abBadRun colBadRun ddBadRun m0BadRun m1BadRun m2BadRun m3BadRun m5BadRun "ValueError.__new__"))
    (eFBadRun : K.lookup fBadRun = some ⟨ocBadRun, odBadRun, .func (PySem.W.ksFn "__init__" "BadRun.__init__" (defArgs i_BadRun) (defBody i_BadRun) (defScope i_BadRun) .none kVBadRun dcBadRun pmBadRun anBadRun (.ref cdBadRun) ctBadRun ccBadRun), slBadRun⟩) (eCBadRun : PySem.W.codeIn K (.ref cdBadRun) "BadRun.__init__" = true) (eDBadRun : K.lookup cdBadRun = some ⟨clBadRun, cddBadRun, .fields vsBadRun, ccsBadRun⟩) (eVBadRun : vsBadRun[2]? = some (.str fileBadRun tfBadRun)) (eMBadRun : (PySem.Challenge.rw_quietsmith_k32_control_steps.prog.main.file == fileBadRun) = true) (eEBadRun : K.lookup ccBadRun = some ⟨cmBadRun, cldBadRun, .cell (some (.ref CBadRun)), cslBadRun⟩)
    (eBBadRun : errB K CBadRun fBadRun ["reason"] = true)
    (kitx_BadInput : PySem.W.exmOne K (.ref CBadInput) (.ref cQ) = some true)
    (kitx_BadRun : PySem.W.exmOne K (.ref CBadRun) (.ref cQ) = some true)
    (kitcy : KDx.getB K c_CYCLES 1 KDx.cycles25 = true)
    (kitlv : KDx.tupB K c_LEAVES ["jump", "below", "call", "ret", "halt"] = true)
    (kit : isB K cQ [CBadInput, CBadRun] = true)
    (z_super : PySem.W.nsIn K mainGlobals "super" = some none)
    (rc11 : ((recsOf q).find? fun e => e.name == ("is_memory" : Str)).isSome = true)
    (ndT : [P11].Nodup)
    : LamX.LawAtS PySem.Challenge.rw_quietsmith_k32_control_steps w K CX0 9 63 "script" mg fa h := by
  have e := hfa.symm.trans (PySem.W.mg_of X G a38)
  cases e
  have F1 := fun_mk (st := s_wall) l1 c1 k1
  have b1 := F1.binds (ps := ["k"]) fun _ _ _ _ _ _ us hl => match us, hl with | [_], _ => rfl
  have F2 := fun_mk (st := s_base_cycles) l2 c2 k2
  have b2 := F2.binds (ps := ["name"]) fun _ _ _ _ _ _ us hl => match us, hl with | [_], _ => rfl
  have F3 := fun_mk (st := s_Cache_init) l3 c3 k3
  have b3 := F3.binds (ps := ["self"]) fun _ _ _ _ _ _ us hl => match us, hl with | [_], _ => rfl
  have F4 := fun_mk (st := s_Cache_lines) l4 c4 k4
  have b4 := F4.binds (ps := ["self"]) fun _ _ _ _ _ _ us hl => match us, hl with | [_], _ => rfl
  have F5 := fun_mk (st := s_Predictor_init) l5 c5 k5
  have b5 := F5.binds (ps := ["self"]) fun _ _ _ _ _ _ us hl => match us, hl with | [_], _ => rfl
  have F6 := fun_mk (st := s_Predictor_branch) l6 c6 k6
  have b6 := F6.binds (ps := ["self", "place", "jumps"]) fun _ _ _ _ _ _ us hl => match us, hl with | [_, _, _], _ => rfl
  have F7 := fun_mk (st := s_Predictor_counters) l7 c7 k7
  have b7 := F7.binds (ps := ["self"]) fun _ _ _ _ _ _ us hl => match us, hl with | [_], _ => rfl
  have F8 := fun_mk (st := s_is_integer) l8 c8 k8
  have b8 := F8.binds (ps := ["value", "least", "greatest"]) fun _ _ _ _ _ _ us hl => match us, hl with | [_, _, _], _ => rfl
  have F9 := fun_mk (st := s_region_end) l9 c9 k9
  have b9 := F9.binds (ps := ["region"]) fun _ _ _ _ _ _ us hl => match us, hl with | [_], _ => rfl
  have F10 := fun_mk (st := s_layout_end) l10 c10 k10
  have b10 := F10.binds (ps := ["layout"]) fun _ _ _ _ _ _ us hl => match us, hl with | [_], _ => rfl
  have F11 := GA.func_mk (st := s_is_memory) l11 c11 k11
  have b11 := F11.binds (ps := ["layout", "value"]) fun _ _ _ _ _ _ us hl => match us, hl with | [_, _], _ => rfl
  have F12 := fun_mk (st := s_outcome) l12 c12 k12
  have b12 := F12.binds (ps := ["instruction", "words", "carry"]) fun _ _ _ _ _ _ us hl => match us, hl with | [_, _, _], _ => rfl
  have F13 := fun_mk (st := s_mosts_of) l13 c13 k13
  have b13 := F13.binds (ps := ["layout"]) fun _ _ _ _ _ _ us hl => match us, hl with | [_], _ => rfl
  have F14 := fun_mk (st := s_Machine_init) l14 c14 k14
  have b14 := F14.binds (ps := ["self", "code_file", "memory"]) fun _ _ _ _ _ _ us hl => match us, hl with | [_, _, _], _ => rfl
  have F15 := fun_mk (st := s_Machine_step) l15 c15 k15
  have b15 := F15.binds (ps := ["self"]) fun _ _ _ _ _ _ us hl => match us, hl with | [_], _ => rfl
  have F16 := fun_mk (st := s_Machine_run) l16 c16 k16
  have b16 := F16.binds (ps := ["self", "limit"]) fun _ _ _ _ _ _ us hl => match us, hl with | [_, _], _ => rfl
  have F17 := fun_mk (st := s_Machine_show) l17 c17 k17
  have b17 := F17.binds (ps := ["self", "address", "cycles", "following"]) fun _ _ _ _ _ _ us hl => match us, hl with | [_, _, _, _], _ => rfl
  have F18 := fun_mk (st := s_Machine_compute) l18 c18 k18
  have b18 := F18.binds (ps := ["self", "instruction"]) fun _ _ _ _ _ _ us hl => match us, hl with | [_, _], _ => rfl
  have F19 := fun_mk (st := s_Machine_leave) l19 c19 k19
  have b19 := F19.binds (ps := ["self", "instruction"]) fun _ _ _ _ _ _ us hl => match us, hl with | [_, _], _ => rfl
  have F20 := fun_mk (st := s_Machine_place_behind) l20 c20 k20
  have b20 := F20.binds (ps := ["self", "instruction"]) fun _ _ _ _ _ _ us hl => match us, hl with | [_, _], _ => rfl
  have F21 := fun_mk (st := s_Machine_ended) l21 c21 k21
  have b21 := F21.binds (ps := ["self"]) fun _ _ _ _ _ _ us hl => match us, hl with | [_], _ => rfl
  have F22 := fun_mk (st := s_Machine_place) l22 c22 k22
  have b22 := F22.binds (ps := ["self"]) fun _ _ _ _ _ _ us hl => match us, hl with | [_], _ => rfl
  have F23 := fun_mk (st := s_Machine_cycles) l23 c23 k23
  have b23 := F23.binds (ps := ["self"]) fun _ _ _ _ _ _ us hl => match us, hl with | [_], _ => rfl
  have F24 := fun_mk (st := s_Machine_carry) l24 c24 k24
  have b24 := F24.binds (ps := ["self"]) fun _ _ _ _ _ _ us hl => match us, hl with | [_], _ => rfl
  have F25 := fun_mk (st := s_Machine_registers) l25 c25 k25
  have b25 := F25.binds (ps := ["self"]) fun _ _ _ _ _ _ us hl => match us, hl with | [_], _ => rfl
  have F26 := fun_mk (st := s_Machine_memory) l26 c26 k26
  have b26 := F26.binds (ps := ["self"]) fun _ _ _ _ _ _ us hl => match us, hl with | [_], _ => rfl
  have F27 := fun_mk (st := s_Machine_stack) l27 c27 k27
  have b27 := F27.binds (ps := ["self"]) fun _ _ _ _ _ _ us hl => match us, hl with | [_], _ => rfl
  have F28 := fun_mk (st := s_Machine_shown) l28 c28 k28
  have b28 := F28.binds (ps := ["self"]) fun _ _ _ _ _ _ us hl => match us, hl with | [_], _ => rfl
  have F29 := fun_mk (st := s_law_source) l29 c29 k29
  have b29 := F29.binds (ps := ["script", "k"]) fun _ _ _ _ _ _ us hl => match us, hl with | [_, _], _ => rfl
  have F30 := fun_mk (st := s_law_draw) l30 c30 k30
  have b30 := F30.binds (ps := ["source", "many"]) fun _ _ _ _ _ _ us hl => match us, hl with | [_, _], _ => rfl
  have F31 := fun_mk (st := s_law_same_words) l31 c31 k31
  have b31 := F31.binds (ps := ["actual", "due"]) fun _ _ _ _ _ _ us hl => match us, hl with | [_, _], _ => rfl
  have F32 := fun_mk (st := s_law_instruction) l32 c32 k32
  have b32 := F32.binds (ps := ["source", "size", "deep"]) fun _ _ _ _ _ _ us hl => match us, hl with | [_, _, _], _ => rfl
  have F33 := fun_mk (st := s_law_refusal) l33 c33 k33
  have b33 := F33.binds (ps := ["machine", "turns"]) fun _ _ _ _ _ _ us hl => match us, hl with | [_, _], _ => rfl
  have F34 := fun_mk (st := s_law_holds) l34 c34 k34
  have b34 := F34.binds (ps := ["machine", "place", "stack", "registers", "ended", "count"]) fun _ _ _ _ _ _ us hl => match us, hl with | [_, _, _, _, _, _], _ => rfl
  have F35 := fun_mk (st := s_law_goes) l35 c35 k35
  have b35 := F35.binds (ps := ["row", "place", "stack", "registers"]) fun _ _ _ _ _ _ us hl => match us, hl with | [_, _, _, _], _ => rfl
  have F36 := fun_mk (st := s_law_refused) l36 c36 k36
  have b36 := F36.binds (ps := ["machine", "reason"]) fun _ _ _ _ _ _ us hl => match us, hl with | [_, _], _ => rfl
  have F37 := fun_mk (st := s_law_one_holds) l37 c37 k37
  have b37 := F37.binds (ps := ["script", "at"]) fun _ _ _ _ _ _ us hl => match us, hl with | [_, _], _ => rfl
  have F38 := fun_mk (st := s_law) l38 c38 k38
  have b38 := F38.binds (ps := ["script"]) fun _ _ _ _ _ _ us hl => match us, hl with | [_], _ => rfl
  have FSBadInput : FunS PySem.Challenge.rw_quietsmith_k32_control_steps.prog K "__init__" "BadInput.__init__" i_BadInput CBadInput fBadInput _ := ⟨_, _, _, _, _, _, _, _, _, _, _, _, _, _, _, _, _, _, _, rfl, eFBadInput, eCBadInput, eDBadInput, eVBadInput, eMBadInput, eEBadInput⟩
  have bSBadInput := FSBadInput.binds (ps := ["self"]) fun _ _ _ _ _ _ _ us hl => match us, hl with | [_], _ => rfl
  obtain ⟨⟨EBadInput, hEBadInput⟩⟩ := err_of (x := "BadInput") FSBadInput bSBadInput (PySem.W.mg_of X G egBadInput) ⟨_, _, _, _, _, _, _, _, _, _, _, _, _, _, _, eLBadInput, by rfl⟩ eiBadInput eBBadInput
  have FSBadRun : FunS PySem.Challenge.rw_quietsmith_k32_control_steps.prog K "__init__" "BadRun.__init__" i_BadRun CBadRun fBadRun _ := ⟨_, _, _, _, _, _, _, _, _, _, _, _, _, _, _, _, _, _, _, rfl, eFBadRun, eCBadRun, eDBadRun, eVBadRun, eMBadRun, eEBadRun⟩
  have bSBadRun := FSBadRun.binds (ps := ["self", "reason"]) fun _ _ _ _ _ _ _ us hl => match us, hl with | [_, _], _ => rfl
  obtain ⟨⟨EBadRun, hEBadRun⟩⟩ := err_of (x := "BadRun") FSBadRun bSBadRun (PySem.W.mg_of X G egBadRun) ⟨_, _, _, _, _, _, _, _, _, _, _, _, _, _, _, eLBadRun, by rfl⟩ eiBadRun eBBadRun
  let T : Tx PySem.Challenge.rw_quietsmith_k32_control_steps.prog w K mg := ⟨EBadInput, EBadRun, _, PySem.W.mg_of X G g_QuietError, (by rw [hEBadInput]; exact kitx_BadInput), (by rw [hEBadRun]; exact kitx_BadRun), _, PySem.W.mg_of X G gCache, ⟨pgCache, hdCache, poCache, saCache⟩, nf_Cache_blocks, _, PySem.W.mg_of X G gPredictor, ⟨pgPredictor, hdPredictor, poPredictor, saPredictor⟩, nf_Predictor_marks, _, PySem.W.mg_of X G gMachine, ⟨pgMachine, hdMachine, poMachine, saMachine⟩, nf_Machine_code, nf_Machine_mosts, nf_Machine_cells, nf_Machine_words, nf_Machine_flag, nf_Machine_waiting, nf_Machine_at, nf_Machine_clock, nf_Machine_over, nf_Machine_trace, nf_Machine_cache, nf_Machine_predictor, _, _, F1, b1, PySem.W.mg_of X G a1, _, _, F2, b2, PySem.W.mg_of X G a2, _, _, F3, b3, ⟨mkCache, a3, i3, kcCache⟩, _, _, F4, b4, ⟨a4, i4, k4⟩, _, _, F5, b5, ⟨mkPredictor, a5, i5, kcPredictor⟩, _, _, F6, b6, ⟨a6, i6, k6⟩, _, _, F7, b7, ⟨a7, i7, k7⟩, _, _, F8, b8, PySem.W.mg_of X G a8, _, _, F9, b9, PySem.W.mg_of X G a9, _, _, F10, b10, PySem.W.mg_of X G a10, _, _, cc11, P11, F11, b11, PySem.W.mg_of X G a11, _, _, F12, b12, PySem.W.mg_of X G a12, _, _, F13, b13, PySem.W.mg_of X G a13, _, _, F14, b14, ⟨mkMachine, a14, i14, kcMachine⟩, _, _, F15, b15, ⟨a15, i15, k15⟩, _, _, F16, b16, ⟨a16, i16, k16⟩, _, _, F17, b17, ⟨a17, i17, k17⟩, _, _, F18, b18, ⟨a18, i18, k18⟩, _, _, F19, b19, ⟨a19, i19, k19⟩, _, _, F20, b20, ⟨a20, i20, k20⟩, _, _, F21, b21, ⟨a21, i21, k21⟩, _, _, F22, b22, ⟨a22, i22, k22⟩, _, _, F23, b23, ⟨a23, i23, k23⟩, _, _, F24, b24, ⟨a24, i24, k24⟩, _, _, F25, b25, ⟨a25, i25, k25⟩, _, _, F26, b26, ⟨a26, i26, k26⟩, _, _, F27, b27, ⟨a27, i27, k27⟩, _, _, F28, b28, ⟨a28, i28, k28⟩, _, _, F29, b29, PySem.W.mg_of X G a29, _, _, F30, b30, PySem.W.mg_of X G a30, _, _, F31, b31, PySem.W.mg_of X G a31, _, _, F32, b32, PySem.W.mg_of X G a32, _, _, F33, b33, PySem.W.mg_of X G a33, _, _, F34, b34, PySem.W.mg_of X G a34, _, _, F35, b35, PySem.W.mg_of X G a35, _, _, F36, b36, PySem.W.mg_of X G a36, _, _, F37, b37, PySem.W.mg_of X G a37, _, _, F38, b38, PySem.W.mg_of X G a38, _, PySem.W.mg_of X G g_CYCLES, rfl, _, _, ⟨lk_CYCLES, kl_CYCLES, lo_CYCLES⟩, _, PySem.W.mg_of X G g_LINES, ⟨_, rfl⟩, _, PySem.W.mg_of X G g_BLOCK_SIZE, ⟨_, rfl⟩, _, PySem.W.mg_of X G g_HIT, ⟨_, rfl⟩, _, PySem.W.mg_of X G g_MISS, ⟨_, rfl⟩, _, PySem.W.mg_of X G g_COUNTERS, ⟨_, rfl⟩, _, PySem.W.mg_of X G g_STRONGEST, ⟨_, rfl⟩, _, PySem.W.mg_of X G g_GREATEST_WORD, ⟨_, rfl⟩, _, PySem.W.mg_of X G g_WORD, ⟨_, rfl⟩, _, PySem.W.mg_of X G g_SHIFTS, rfl, _, PySem.W.mg_of X G g_REGISTERS, ⟨_, rfl⟩, _, PySem.W.mg_of X G g_DEEPEST_STACK, ⟨_, rfl⟩, _, PySem.W.mg_of X G g_NO_ADDRESS, ⟨_, rfl⟩, _, PySem.W.mg_of X G g_WRONG_GUESS, ⟨_, rfl⟩, _, PySem.W.mg_of X G g_LEAVES, rfl, PySem.W.mg_none_of X G z_ValueError, PySem.W.mg_none_of X G z_abs, PySem.W.mg_none_of X G z_all, PySem.W.mg_none_of X G z_bool, PySem.W.mg_none_of X G z_int, PySem.W.mg_none_of X G z_isinstance, PySem.W.mg_none_of X G z_len, PySem.W.mg_none_of X G z_list, PySem.W.mg_none_of X G z_max, PySem.W.mg_none_of X G z_min, PySem.W.mg_none_of X G z_range, PySem.W.mg_none_of X G z_tuple, kitcy, kitlv, (by rw [hEBadInput, hEBadRun]; exact kit), PySem.W.mg_none_of X G z_super⟩
  obtain ⟨hd11, ht11⟩ := gt _ _ _ rc11 (GA.tab_by a11 l11 rfl qk11 vk11)
  refine ⟨PySem.W.fnOf "law" "law" (defArgs s_law) (defBody s_law) (defScope s_law) .none kV38 dc38 pm38 an38 cd38 ct38, [(cc11, P11)], spLaw K [P11], fun q hq => ?_, fun q hq => ?_, fun q hq => ?_, fun s v => .of_eq rfl, fun H a ns hl _ hT hS => ⟨a, ns, rfl, hS, hl, ndT, fun r hr => ?_, fun _ => rfl⟩, fun base _ _ hB => ok_law' T (hB (cc11, P11) (by simp)) F38⟩
  · simp only [List.mem_cons, List.not_mem_nil, or_false] at hq
    rcases hq with rfl
    · exact ht11
  · simp only [List.mem_cons, List.not_mem_nil, or_false] at hq
    rcases hq with rfl
    · exact np11
  · simp only [List.mem_cons, List.not_mem_nil, or_false] at hq
    rcases hq with rfl
    · exact hd11
  · simp only [List.mem_cons, List.not_mem_nil, or_false] at hr
    rcases hr with hr
    · rw [hr]; exact hT (cc11, P11) (by simp)
end K32
open PySem PySem.W PyProof.Rows
set_option maxHeartbeats 0 in
theorem PySem.Challenge.cw_quietsmith_k32_control_steps_holds : PySem.Challenge.rw_quietsmith_k32_control_steps.Holds := by
  w_on; o_law; k_head; (case hw => w_witness2)
  k_fill
  refine GA.walk_ofG (l := PySem.Challenge.rw_quietsmith_k32_control_steps) (n := 63) (k := 9) (x := "script") (CX := fun _ => L2.CX0) rfl (by decide) rfl ⟨rfl, by decide, by decide⟩ (fun w h Y => PySem.W.kIn_of Y) ?F (fun _ _ _ _ _ h => h)
  case F =>
    intro w mg fa h Y KX G hmg gt
    refine' K32.all_mk KX G hmg gt ?gCache ?pgCache ?hdCache ?poCache ?saCache ?mkCache ?kcCache ?nf_Cache_blocks ?gPredictor ?pgPredictor ?hdPredictor ?poPredictor ?saPredictor ?mkPredictor ?kcPredictor ?nf_Predictor_marks ?gMachine ?pgMachine ?hdMachine ?poMachine ?saMachine ?mkMachine ?kcMachine ?nf_Machine_code ?nf_Machine_mosts ?nf_Machine_cells ?nf_Machine_words ?nf_Machine_flag ?nf_Machine_waiting ?nf_Machine_at ?nf_Machine_clock ?nf_Machine_over ?nf_Machine_trace ?nf_Machine_cache ?nf_Machine_predictor ?a1 ?l1 ?c1 ?k1 ?a2 ?l2 ?c2 ?k2 ?a3 ?l3 ?c3 ?k3 ?i3 ?a4 ?l4 ?c4 ?k4 ?i4 ?a5 ?l5 ?c5 ?k5 ?i5 ?a6 ?l6 ?c6 ?k6 ?i6 ?a7 ?l7 ?c7 ?k7 ?i7 ?a8 ?l8 ?c8 ?k8 ?a9 ?l9 ?c9 ?k9 ?a10 ?l10 ?c10 ?k10 ?a11 ?l11 ?c11 ?k11 ?qk11 ?vk11 ?np11 ?a12 ?l12 ?c12 ?k12 ?a13 ?l13 ?c13 ?k13 ?a14 ?l14 ?c14 ?k14 ?i14 ?a15 ?l15 ?c15 ?k15 ?i15 ?a16 ?l16 ?c16 ?k16 ?i16 ?a17 ?l17 ?c17 ?k17 ?i17 ?a18 ?l18 ?c18 ?k18 ?i18 ?a19 ?l19 ?c19 ?k19 ?i19 ?a20 ?l20 ?c20 ?k20 ?i20 ?a21 ?l21 ?c21 ?k21 ?i21 ?a22 ?l22 ?c22 ?k22 ?i22 ?a23 ?l23 ?c23 ?k23 ?i23 ?a24 ?l24 ?c24 ?k24 ?i24 ?a25 ?l25 ?c25 ?k25 ?i25 ?a26 ?l26 ?c26 ?k26 ?i26 ?a27 ?l27 ?c27 ?k27 ?i27 ?a28 ?l28 ?c28 ?k28 ?i28 ?a29 ?l29 ?c29 ?k29 ?a30 ?l30 ?c30 ?k30 ?a31 ?l31 ?c31 ?k31 ?a32 ?l32 ?c32 ?k32 ?a33 ?l33 ?c33 ?k33 ?a34 ?l34 ?c34 ?k34 ?a35 ?l35 ?c35 ?k35 ?a36 ?l36 ?c36 ?k36 ?a37 ?l37 ?c37 ?k37 ?a38 ?l38 ?c38 ?k38 ?g_CYCLES ?lk_CYCLES ?kl_CYCLES ?lo_CYCLES ?g_LINES ?g_BLOCK_SIZE ?g_HIT ?g_MISS ?g_COUNTERS ?g_STRONGEST ?g_GREATEST_WORD ?g_WORD ?g_SHIFTS ?g_REGISTERS ?g_DEEPEST_STACK ?g_NO_ADDRESS ?g_WRONG_GUESS ?g_LEAVES ?z_ValueError ?z_abs ?z_all ?z_bool ?z_int ?z_isinstance ?z_len ?z_list ?z_max ?z_min ?z_range ?z_tuple ?g_QuietError ?egBadInput ?eiBadInput ?eLBadInput ?eFBadInput ?eCBadInput ?eDBadInput ?eVBadInput ?eMBadInput ?eEBadInput ?eBBadInput ?egBadRun ?eiBadRun ?eLBadRun ?eFBadRun ?eCBadRun ?eDBadRun ?eVBadRun ?eMBadRun ?eEBadRun ?eBBadRun ?kitx_BadInput ?kitx_BadRun ?kitcy ?kitlv ?kit ?z_super ?rc11 ?ndT
    (case gCache => k_is)
    (case pgCache => k_is)
    (case hdCache => k_is)
    (case poCache => k_is)
    (case saCache => k_is)
    (case mkCache => k_is)
    (case kcCache => k_is)
    (case nf_Cache_blocks => k_is)
    (case gPredictor => k_is)
    (case pgPredictor => k_is)
    (case hdPredictor => k_is)
    (case poPredictor => k_is)
    (case saPredictor => k_is)
    (case mkPredictor => k_is)
    (case kcPredictor => k_is)
    (case nf_Predictor_marks => k_is)
    (case gMachine => k_is)
    (case pgMachine => k_is)
    (case hdMachine => k_is)
    (case poMachine => k_is)
    (case saMachine => k_is)
    (case mkMachine => k_is)
    (case kcMachine => k_is)
    (case nf_Machine_code => k_is)
    (case nf_Machine_mosts => k_is)
    (case nf_Machine_cells => k_is)
    (case nf_Machine_words => k_is)
    (case nf_Machine_flag => k_is)
    (case nf_Machine_waiting => k_is)
    (case nf_Machine_at => k_is)
    (case nf_Machine_clock => k_is)
    (case nf_Machine_over => k_is)
    (case nf_Machine_trace => k_is)
    (case nf_Machine_cache => k_is)
    (case nf_Machine_predictor => k_is)
    (case a1 => k_is)
    (case l1 => k_is)
    (case c1 => k_is)
    (case k1 => k_is)
    (case a2 => k_is)
    (case l2 => k_is)
    (case c2 => k_is)
    (case k2 => k_is)
    (case a3 => k_is)
    (case l3 => k_is)
    (case c3 => k_is)
    (case k3 => k_is)
    (case i3 => k_is)
    (case a4 => k_is)
    (case l4 => k_is)
    (case c4 => k_is)
    (case k4 => k_is)
    (case i4 => k_is)
    (case a5 => k_is)
    (case l5 => k_is)
    (case c5 => k_is)
    (case k5 => k_is)
    (case i5 => k_is)
    (case a6 => k_is)
    (case l6 => k_is)
    (case c6 => k_is)
    (case k6 => k_is)
    (case i6 => k_is)
    (case a7 => k_is)
    (case l7 => k_is)
    (case c7 => k_is)
    (case k7 => k_is)
    (case i7 => k_is)
    (case a8 => k_is)
    (case l8 => k_is)
    (case c8 => k_is)
    (case k8 => k_is)
    (case a9 => k_is)
    (case l9 => k_is)
    (case c9 => k_is)
    (case k9 => k_is)
    (case a10 => k_is)
    (case l10 => k_is)
    (case c10 => k_is)
    (case k10 => k_is)
    (case a11 => k_is)
    (case l11 => k_is)
    (case c11 => k_is)
    (case k11 => k_is)
    (case qk11 => k_is)
    (case vk11 => rfl)
    (case np11 => kernel_rfl)
    (case a12 => k_is)
    (case l12 => k_is)
    (case c12 => k_is)
    (case k12 => k_is)
    (case a13 => k_is)
    (case l13 => k_is)
    (case c13 => k_is)
    (case k13 => k_is)
    (case a14 => k_is)
    (case l14 => k_is)
    (case c14 => k_is)
    (case k14 => k_is)
    (case i14 => k_is)
    (case a15 => k_is)
    (case l15 => k_is)
    (case c15 => k_is)
    (case k15 => k_is)
    (case i15 => k_is)
    (case a16 => k_is)
    (case l16 => k_is)
    (case c16 => k_is)
    (case k16 => k_is)
    (case i16 => k_is)
    (case a17 => k_is)
    (case l17 => k_is)
    (case c17 => k_is)
    (case k17 => k_is)
    (case i17 => k_is)
    (case a18 => k_is)
    (case l18 => k_is)
    (case c18 => k_is)
    (case k18 => k_is)
    (case i18 => k_is)
    (case a19 => k_is)
    (case l19 => k_is)
    (case c19 => k_is)
    (case k19 => k_is)
    (case i19 => k_is)
    (case a20 => k_is)
    (case l20 => k_is)
    (case c20 => k_is)
    (case k20 => k_is)
    (case i20 => k_is)
    (case a21 => k_is)
    (case l21 => k_is)
    (case c21 => k_is)
    (case k21 => k_is)
    (case i21 => k_is)
    (case a22 => k_is)
    (case l22 => k_is)
    (case c22 => k_is)
    (case k22 => k_is)
    (case i22 => k_is)
    (case a23 => k_is)
    (case l23 => k_is)
    (case c23 => k_is)
    (case k23 => k_is)
    (case i23 => k_is)
    (case a24 => k_is)
    (case l24 => k_is)
    (case c24 => k_is)
    (case k24 => k_is)
    (case i24 => k_is)
    (case a25 => k_is)
    (case l25 => k_is)
    (case c25 => k_is)
    (case k25 => k_is)
    (case i25 => k_is)
    (case a26 => k_is)
    (case l26 => k_is)
    (case c26 => k_is)
    (case k26 => k_is)
    (case i26 => k_is)
    (case a27 => k_is)
    (case l27 => k_is)
    (case c27 => k_is)
    (case k27 => k_is)
    (case i27 => k_is)
    (case a28 => k_is)
    (case l28 => k_is)
    (case c28 => k_is)
    (case k28 => k_is)
    (case i28 => k_is)
    (case a29 => k_is)
    (case l29 => k_is)
    (case c29 => k_is)
    (case k29 => k_is)
    (case a30 => k_is)
    (case l30 => k_is)
    (case c30 => k_is)
    (case k30 => k_is)
    (case a31 => k_is)
    (case l31 => k_is)
    (case c31 => k_is)
    (case k31 => k_is)
    (case a32 => k_is)
    (case l32 => k_is)
    (case c32 => k_is)
    (case k32 => k_is)
    (case a33 => k_is)
    (case l33 => k_is)
    (case c33 => k_is)
    (case k33 => k_is)
    (case a34 => k_is)
    (case l34 => k_is)
    (case c34 => k_is)
    (case k34 => k_is)
    (case a35 => k_is)
    (case l35 => k_is)
    (case c35 => k_is)
    (case k35 => k_is)
    (case a36 => k_is)
    (case l36 => k_is)
    (case c36 => k_is)
    (case k36 => k_is)
    (case a37 => k_is)
    (case l37 => k_is)
    (case c37 => k_is)
    (case k37 => k_is)
    (case a38 => k_is)
    (case l38 => k_is)
    (case c38 => k_is)
    (case k38 => k_is)
    (case g_CYCLES => k_is)
    (case lk_CYCLES => k_is)
    (case kl_CYCLES => repeat first | exact True.intro | refine ⟨⟨_, _, rfl, rfl⟩, ?_⟩)
    (case lo_CYCLES => first | rfl | decide)
    (case g_LINES => k_is)
    (case g_BLOCK_SIZE => k_is)
    (case g_HIT => k_is)
    (case g_MISS => k_is)
    (case g_COUNTERS => k_is)
    (case g_STRONGEST => k_is)
    (case g_GREATEST_WORD => k_is)
    (case g_WORD => k_is)
    (case g_SHIFTS => k_is)
    (case g_REGISTERS => k_is)
    (case g_DEEPEST_STACK => k_is)
    (case g_NO_ADDRESS => k_is)
    (case g_WRONG_GUESS => k_is)
    (case g_LEAVES => k_is)
    (case z_ValueError => k_is)
    (case z_abs => k_is)
    (case z_all => k_is)
    (case z_bool => k_is)
    (case z_int => k_is)
    (case z_isinstance => k_is)
    (case z_len => k_is)
    (case z_list => k_is)
    (case z_max => k_is)
    (case z_min => k_is)
    (case z_range => k_is)
    (case z_tuple => k_is)
    (case g_QuietError => k_is)
    (case egBadInput => k_is)
    (case eiBadInput => k_is)
    (case eLBadInput => k_is)
    (case eFBadInput => k_is)
    (case eCBadInput => k_is)
    (case eDBadInput => k_is)
    (case eVBadInput => rfl)
    (case eMBadInput => first | rfl | kernel_rfl)
    (case eEBadInput => k_is)
    (case eBBadInput => kernel_rfl)
    (case egBadRun => k_is)
    (case eiBadRun => k_is)
    (case eLBadRun => k_is)
    (case eFBadRun => k_is)
    (case eCBadRun => k_is)
    (case eDBadRun => k_is)
    (case eVBadRun => rfl)
    (case eMBadRun => first | rfl | kernel_rfl)
    (case eEBadRun => k_is)
    (case eBBadRun => kernel_rfl)
    (case kitx_BadInput => kernel_rfl)
    (case kitx_BadRun => kernel_rfl)
    (case kitcy => kernel_rfl)
    (case kitlv => kernel_rfl)
    (case kit => kernel_rfl)
    (case z_super => k_is)
    (case rc11 => first | rfl | kernel_rfl)
    (case ndT => decide)

