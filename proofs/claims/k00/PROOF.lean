import PyProof.Rows.All
import Wide.All
import OpenK.AllK
import Wide.FinOn
import HandS.ForExc
import HandS.ExcInit
import HandS.FStr
import KE.KExcSuper
import HandS.IsInst
import HandS.ExcField
import KE.KExcIs
import KE.KIsAll
import HandS.ForMost
import HandS.TryOnly
import PySem.Challenge.RW_quietsmith_k00_errors
set_option Elab.async false
set_option linter.all false
set_option maxRecDepth 100000
set_option maxHeartbeats 4000000
/-! An own error whose __init__ begins with super().__init__(text): its def, kept as a promise. -/
namespace QX
open PySem PySem.Spec PyProof.Rows L2
/-- the last of a row of names that differ -/
theorem last_of {ps : List Str} {us : List Value} (nd : ps.Nodup) : ∀ {i : Nat} {x : Str} {u : Value}, ps[i]? = some x → us[i]? = some u → ((ps.zip us).reverse).lookup x = some u := by
  induction ps generalizing us with
  | nil =>
    intro i x u h _
    cases i <;> cases h
  | cons p r ih =>
    intro i x u h g
    cases us with
    | nil => cases i <;> cases g
    | cons v t =>
      have n1 : p ∉ r := (List.nodup_cons.mp nd).1
      have n2 := (List.nodup_cons.mp nd).2
      rw [List.zip_cons_cons, List.reverse_cons, List.lookup_append]
      cases i with
      | zero =>
        obtain rfl : p = x := Option.some.inj h
        obtain rfl : v = u := Option.some.inj g
        have e : ((r.zip t).reverse).lookup p = none := by
          rw [List.lookup_eq_none_iff]
          intro q hq
          have h1 : q.1 ∈ r := (List.of_mem_zip (List.mem_reverse.mp hq)).1
          exact bne_iff_ne.mpr fun (z : p = q.1) => n1 (by rw [z]; exact h1)
        rw [e]
        simp [List.lookup]
      | succ i =>
        rw [ih n2 h g]
        rfl
/-- a def of a class's body that closes over __class__ -/
structure FunS (P : Program) (K : PySem.W.Frag) (x qual : Str) (st : Stmt) (D f : Addr) (fd : FuncData) : Prop where
  ex : ∃ (oc : Value) (od : Option Addr) (kV doc pm : Value) (an : Option Addr) (cda cc : Addr) (ct : Value) (osl : Array (Option Value)) (ccl : Value) (cdd : Option Addr) (vs : Array Value) (ccs : Array (Option Value)) (file : Str) (tf : Tok) (cl : Value) (cld : Option Addr) (csl : Array (Option Value)),
    fd = PySem.W.ksFn x qual (defArgs st) (defBody st) (defScope st) .none kV doc pm an (.ref cda) ct cc ∧ K.lookup f = some ⟨oc, od, .func fd, osl⟩ ∧ PySem.W.codeIn K (.ref cda) qual = true ∧
    K.lookup cda = some ⟨ccl, cdd, .fields vs, ccs⟩ ∧ vs[2]? = some (.str file tf) ∧ ((P.main.file : Str) == file) = true ∧ K.lookup cc = some ⟨cl, cld, .cell (some (.ref D)), csl⟩
/-- its scope: the parameters alone, and the two names of super() -/
structure ScS (ps : List Str) (sc : Scope) : Prop where
  kind : sc.kind = .function
  co : sc.isCoroutine = false
  gen : sc.isGenerator = false
  par : ∀ n ∈ ps, sc.names.lookup n = some .local
  nd : ps.Nodup
  cell : ∀ y ∈ sc.names, y.2 ≠ .cell
  free : ∀ y ∈ sc.names, y.2 = .free → y.1 = ("__class__" : Str)
  sup : sc.names.lookup ("super" : Str) = some .globalImplicit
  cls : sc.names.lookup ("__class__" : Str) = some .free
abbrev envS (qual : Str) (sc : Scope) (L f : Addr) (cd : Value) (cc : Addr) : Env := PySem.W.ksEnv qual sc L f cd cc
def cxS (CX : CXT) (P : Program) (w : World) (K : PySem.W.Frag) (mg : Str → Option Value) (base : Heap) (N : List Str) (qual : Str) (sc : Scope) (f : Addr) (cd : Value) (cc : Addr) (A : Around) (outer : List Env) (s : Shared) (H : Hp) (E : XK) : Cx where
  prog := P
  w := w
  K := K
  mg := mg
  base := base
  A := A.deeper (envS qual sc s.heap.objs.size f cd cc)
  N := N
  s_0 := s
  H_0 := H
  env := envS qual sc s.heap.objs.size f cd cc
  outer := outer
  stack := envS qual sc s.heap.objs.size f cd cc :: outer
  ex := []
  calm := true
  fn := fun _ => false
  pn := []
  xe := fun e s' => wpAny (model P w) (A.deeper (envS qual sc s.heap.objs.size f cd cc)) (leaving (envS qual sc s.heap.objs.size f cd cc) e) (fun _ s'' => CX outer H s E e s'') (fun e' s'' => CX outer H s E e' s'') s'
theorem kind_of {ps : List Str} {sc : Scope} (S : ScS ps sc) {y : Str} (h : sc.names.lookup y = some .free) : y = ("__class__" : Str) := S.free (y, .free) (PySem.mem_of_lookup h) rfl
theorem begin_S {CX : CXT} {P : Program} {w : World} {K : PySem.W.Frag} {mg : Str → Option Value} {base : Heap} {ps : List Str} {qual : Str} {sc : Scope} {f cc D : Addr} {cd : Value} {A : Around} {outer : List Env} {s : Shared} {h₀ : Heap} {tk : Nat} {H : Hp} {E : XK} {us : List Value} {vs : List V}
    {cl : Value} {cld : Option Addr} {csl : Array (Option Value)} (S : ScS ps sc) (hd : A.handled = none) (e0 : Env0 P w K mg base A outer s H) (hl : vs.length = ps.length) (r : Vals vs us) (lc : K.lookup cc = some ⟨cl, cld, .cell (some (.ref D)), csl⟩)
    (hns : h₀.Ns s.heap.objs.size (fun x => ((ps.zip us).reverse).lookup x)) (hk : ∀ b o, s.heap.get? b = some o → h₀.get? b = some o) :
    Inv (cxS CX P w K mg base ps qual sc f cd cc A outer s H E) [] (L2.start ps vs) H { s with heap := h₀, toks := tk } := by
  have noA : ∀ b : Addr, b ∉ (cxS CX P w K mg base ps qual sc f cd cc A outer s H E).ex := fun b z => absurd (show b ∈ ([] : List Addr) from z) (by simp)
  have one : ∀ {x : Str} {c : Addr}, (cxS CX P w K mg base ps qual sc f cd cc A outer s H E).env.cells.lookup x = some c → x = ("__class__" : Str) ∧ c = cc := by
    intro x c h
    have h2 : ([(("__class__" : Str), cc)] : List (Str × Addr)).lookup x = some c := h
    by_cases e : x = ("__class__" : Str)
    · subst e
      have h3 : some cc = some c := by simpa [List.lookup] using h2
      exact ⟨rfl, (Option.some.inj h3).symm⟩
    · have e2 : (x == ("__class__" : Str)) = false := by simpa using e
      have h3 : (none : Option Addr) = some c := by simpa [List.lookup, e2] using h2
      cases h3
  have b1 := e0.bs cc _ (e0.mod.kin _ _ lc)
  refine ⟨⟨e0.mod, S.kind, rfl, rfl, Nat.le_refl _, fun x y c h1 h2 => (one h1).1.trans (one h2).1.symm, fun y hy => ?_, (fun y c z _ => nomatch z), fun _ => hd, Around.frames_deeper e0.frames, .inr ⟨rfl, rfl⟩, fun b z => absurd z (noA b), e0.bs, e0.bsz, fun b _ _ => noA b, fun b z => absurd z (noA b), e0.funs, e0.frf⟩,
    rfl, e0.bare, Un.kept hk, ⟨_, hns, fun i y v h1 h2 h3 => ?_⟩, fun y c h => ?_, e0.hok.fresh (Nat.le_refl _), fun y c h => ?_, fun p hp => absurd (show p ∈ ([] : List (Addr × Obj)) from hp) (by simp), e0.hok.kept hk, ?_⟩
  · have hy : sc.names.lookup y = some .cell ∨ sc.names.lookup y = some .free := hy
    rcases hy with hy | hy
    · exact absurd rfl (S.cell _ (PySem.mem_of_lookup hy))
    · rw [kind_of S hy]
      exact ⟨cc, rfl⟩
  · have hi : i < vs.length := by
      have := (List.getElem?_eq_some_iff.mp h1).1
      rw [hl]
      exact this
    have ha : vs[i]? = some v := by
      unfold L2.start at h2
      rw [List.getElem?_append_left (by simpa using hi), List.getElem?_map] at h2
      cases e : vs[i]? with
      | none =>
        rw [e] at h2
        cases h2
      | some a =>
        rw [e] at h2
        cases h2
        rfl
    obtain ⟨u, hu, rv⟩ := r.get ha
    exact ⟨u, rv, .inl ⟨S.par y (List.mem_of_getElem? h1), last_of S.nd h1 hu⟩⟩
  · obtain ⟨_, rfl⟩ := one h
    exact ⟨_, ⟨_, hk _ _ b1.1, rfl⟩⟩
  · obtain ⟨_, rfl⟩ := one h
    exact b1.2
  · unfold L2.start
    show _ = ps.length
    rw [List.length_append, List.length_map, List.length_replicate]
    omega

/-- what super().__init__ wants of the class C of the error, whose __init__ stands in D -/
structure SupC (K : PySem.W.Frag) (C D : Addr) : Prop where
  ox : OexC K C
  dcl : ∃ cd, PySem.W.clsIn K D = some cd
  sub : PySem.W.mroIn K C (.ref D) = some true
  ini : PySem.W.ks_superIn K C D "__init__" = some (some (.builtin "ValueError.__init__"))
  ve : PySem.W.subIn K (.ref C) (.type "ValueError") = some true
  tp : PySem.W.nsIn K cStatics "thirdparty.any" = some none
section
variable {X : Cx} {pins : List (Addr × Obj)} {σ : L2.St} {H : Hp} {s : Shared} {a C D u : Addr} {E : Value → Shared → Prop} {A : Around}
/-- the bound __init__ called: nothing of it is told -/
theorem bound_ok {us : List Value} {Q : Value → Shared → Prop} (T : OexC X.K C) (I : Inv X pins σ H s) (e : H a = some (exo a C none)) (hu : s.heap.get? u = some (PySem.W.kxs_mw "ValueError.__init__" a)) (hl : us.length ≤ sizeLine) (h : ∀ s', Inv X pins σ H s' → Q .none s') :
    wpAny (model X.prog X.w) A (call (.ref u) us) Q E s := by
  obtain ⟨nm, q, N, bs, bm, sn, sub, ab, col, dd, k0, k1, k2, k3, k5, hC, hbm⟩ := T.cls
  obtain ⟨t1, ho⟩ := exo_at I.hok e
  have fin : ∀ h', (∀ b o, b ≠ a → s.heap.get? b = some o → h'.get? b = some o) → (∃ t2 : Addr, h'.get? a = some ({ cls := .ref C, dict := none, data := .fields #[.ref t2, .none, .none, .none, .bool false, .none] } : Obj)) → Q .none { s with heap := h' } := fun h' k hx => by
    obtain ⟨t2, hx⟩ := hx
    have J := I.write (t' := s.toks) (x := a) (e := a) (o := exo a C none) (by rw [e]; exact True.intro) (.inl rfl) k ⟨_, hx⟩ (exo_ok hx)
    have eu : upd H a (exo a C none) = H := by
      funext b
      by_cases hb : b = a
      · rw [hb, upd_same, e]
      · rw [upd_ne hb]
    rw [eu] at J
    exact h _ J
  obtain ⟨hh, g, d, tk, os⟩ := s
  refine wpAny_call (codeAny_of_tree ?_)
  show wpAny _ A.in1 (callAny (.ref u) ⟨us, []⟩) _ _ _
  simp only [callAny]
  refine wpAny_bind (wpAny_load hu ?_)
  dsimp only [PySem.W.kxs_mw]
  refine PySem.W.KFB.if_so (by decide) ?_
  refine wpAny_bind (PySem.W.check_bound_init F.excBase_ValueError.toExcCallFacts (I.kIn _ _ hC) ho rfl ?_)
  refine wpAny_bind (wpAny_pure (wpAny_pure ?_))
  refine ⟨plainId_quiet F.excBase_ValueError.init.plain _, codeAny_builtin F.excBase_ValueError.initEntry ?_⟩
  exact PySem.W.exc_init_tree ho hl fun h' k hx _ => fin h' k ⟨_, hx⟩
end

section
variable {CX : CXT} {P : Program} {w : World} {K : PySem.W.Frag} {mg : Str → Option Value} {base : Heap} {ps : List Str} {qual : Str} {sc : Scope} {f cda cc D C a : Addr} {A : Around} {outer : List Env} {s0 s : Shared} {H0 H : Hp} {E : XK} {σ : L2.St}
  {oc : Value} {od : Option Addr} {osl : Array (Option Value)} {fd : FuncData} {ccl : Value} {cdd : Option Addr} {vs : Array Value} {ccs : Array (Option Value)} {file : Str} {tf : Tok} {cl : Value} {cld : Option Addr} {csl : Array (Option Value)}
theorem sup_first {body : List Stmt} {p0 p1 p2 p3 p4 : Pos} {e : Expr} {es : List Expr} {ta : TA} {ar : Arg} {Qn : Hp → Prop} (S : ScS ps sc) (T : SupC K C D) (I : Inv (cxS CX P w K mg base ps qual sc f (.ref cda) cc A outer s0 H0 E) [] σ H s)
    (lf : K.lookup f = some ⟨oc, od, .func fd, osl⟩) (hp : (fd.params.posonlyargs ++ fd.params.args).head? = some ar) (h0 : ps[0]? = some ar.arg) (ha : σ[0]? = some (some (.ref a))) (hx : H a = some (exo a C none))
    (lcd : K.lookup cda = some ⟨ccl, cdd, .fields vs, ccs⟩) (hvs : vs[2]? = some (.str file tf)) (hfile : ((P.main.file : Str) == file) = true) (lc : K.lookup cc = some ⟨cl, cld, .cell (some (.ref D)), csl⟩)
    (hms : mg "super" = none) (htop : (P.main.scope.names.lookup ("super" : Str)).isSome = false)
    {pl : Sem Bool} (hc : eval (.Call (.Attribute (.Call (.Name "super" p0) [] [] p1) "__init__" p2) (e :: es) [] p3) (envS qual sc s0.heap.objs.size f (.ref cda) cc) = (do
      let ov ← attributeBase (.Call (.Name "super" p0) [] [] p1) "__init__" (envS qual sc s0.heap.objs.size f (.ref cda) cc) (eval (.Call (.Name "super" p0) [] [] p1) (envS qual sc s0.heap.objs.size f (.ref cda) cc))
      standAt p2.atName
      let (g, first) ← holding [ov] (getMethod ov "__init__" pl)
      callWith p3 g first (backTo p3 (starEach (e :: es) (envS qual sc s0.heap.objs.size f (.ref cda) cc))) []))
    (hA : PA (cxS CX P w K mg base ps qual sc f (.ref cda) cc A outer s0 H0 E) (e :: es) ta) (q : ta σ H fun ws H1 => ws.length ≤ 1000 ∧ H1 a = some (exo a C none) ∧ Qn H1)
    (he : starEach (e :: es) (envS qual sc s0.heap.objs.size f (.ref cda) cc) = (false, eval e (envS qual sc s0.heap.objs.size f (.ref cda) cc)) :: starEach es (envS qual sc s0.heap.objs.size f (.ref cda) cc))
    (hpl : (backTo p3 (starEach es (envS qual sc s0.heap.objs.size f (.ref cda) cc))).any (·.1) = false)
    (hsw : swapsWith (.Call (.Attribute (.Call (.Name "super" p0) [] [] p1) "__init__" p2) (e :: es) [] p3) none p4.line (envS qual sc s0.heap.objs.size f (.ref cda) cc) = pure false) :
    _root_.PySem.wpAt (model P w) (A.deeper (envS qual sc s0.heap.objs.size f (.ref cda) cc)) (.func body (envS qual sc s0.heap.objs.size f (.ref cda) cc))
      (exec (.Expr (.Call (.Attribute (.Call (.Name "super" p0) [] [] p1) "__init__" p2) (e :: es) [] p3) p4) (envS qual sc s0.heap.objs.size f (.ref cda) cc))
      (fun fl s' => match fl with
        | .next => ∃ H', Inv (cxS CX P w K mg base ps qual sc f (.ref cda) cc A outer s0 H0 E) [] σ H' s' ∧ Qn H'
        | _ => False) (cxS CX P w K mg base ps qual sc f (.ref cda) cc A outer s0 H0 E).xe s := by
  have hi : interactive (envS qual sc s0.heap.objs.size f (.ref cda) cc) = false := by
    unfold interactive
    show (sc.kind == .module && _) = false
    rw [S.kind]
    rfl
  have hkS : (envS qual sc s0.heap.objs.size f (.ref cda) cc).kindOf "super" = some .globalImplicit := S.sup
  have hkC : (envS qual sc s0.heap.objs.size f (.ref cda) cc).kindOf "__class__" = some .free := S.cls
  obtain ⟨m, hns, hm⟩ := I.loc
  obtain ⟨u0, ru, lk⟩ := hm 0 ar.arg (.ref a) h0 ha (.inl (S.par _ (List.mem_of_getElem? h0)))
  obtain rfl : u0 = Value.ref a := ru
  have ma : m ar.arg = some (.ref a) := by
    rcases lk with ⟨_, h⟩ | ⟨h, _⟩
    · exact h
    · have h2 : sc.names.lookup ar.arg = some .cell ∨ sc.names.lookup ar.arg = some .free := h
      rw [S.par _ (List.mem_of_getElem? h0)] at h2
      rcases h2 with h2 | h2 <;> cases h2
  obtain ⟨cd, hcd⟩ := T.dcl
  obtain ⟨oD, hD1, hD2⟩ : ∃ oD, s.heap.get? D = some oD ∧ oD.data = .cls cd := by
    unfold PySem.W.clsIn at hcd
    split at hcd
    · rename_i c d cd' sl ho
      cases hcd
      exact ⟨_, I.kIn _ _ ho, rfl⟩
    · cases hcd
  obtain ⟨t1, hox⟩ := exo_at I.hok hx
  obtain ⟨mb, b1, b2⟩ := I.mod.blt
  refine PySem.ks_wpAt_Expr_any ?_ hi hsw
  refine PySem.ks_wpAt_MethodCall (pl := pl) ?_ hc
  refine PySem.ks_wpAt_super_base hkS hkC (by decide) rfl (I.kIn _ _ lf) rfl hp rfl (I.kIn _ _ lcd) rfl hvs hfile htop ?_
  refine PySem.W.ks_loadName_global S.kind hkS (Calls.loadGlobal_builtin (I.mod.glob.keeps I.bk) hms (b1.keeps I.bk) ((b2 "super" (by decide)).trans (by decide +kernel)) ⟨rfl, ?_⟩)
  refine wpAny_loadName_free S.kind hkC rfl ⟨_, I.kIn _ _ lc, rfl⟩ ?_
  refine wpAny_loadName_local S.kind (S.par _ (List.mem_of_getElem? h0)) hns ma ?_
  refine PySem.ks_wpAny_isType_cls hD1 hD2 ⟨rfl, ?_⟩
  have nc : ∀ c, ({ cls := .ref C, dict := none, data := .fields #[.ref t1, .none, .none, .none, .bool false, .none] } : Obj).data ≠ .cls c := fun c z => by cases z
  obtain ⟨hh, g, d, tk, os⟩ := s
  refine PySem.ks_wpAny_call_super hD1 hD2 hox rfl nc (PySem.W.looks_mroIn I.kIn T.sub) fun h' hso k => ?_
  have I1 := I.kept (t' := tk) k
  obtain ⟨nm, qn, N, bs, bm, sn, sub, ab, col, dd, k0, k1, k2, k3, k5, hC, hbm⟩ := T.ox.cls
  have hcl : PySem.W.clsIn K C = some { name := nm, bases := bs, mro := .ref C :: bm, ns := N, qualname := qn, hasDict := true, slotNames := sn, subclasses := sub, abstract := ab, collection := col, hasDel := false } := by
    unfold PySem.W.clsIn
    rw [hC] <;> rfl
  have hini := T.ini
  unfold PySem.W.ks_superIn at hini
  rw [hcl] at hini
  have hox1 := k _ _ hox
  have J : PySem.W.InstAt h' a { cls := .ref C, dict := none, data := .fields #[.ref t1, .none, .none, .none, .bool false, .none] } C none := ⟨hox1, rfl, rfl, trivial⟩
  refine PySem.W.kxs_getMethod PySem.W.kxs_ValueError hso (PySem.W.looks_opaque I1.kIn T.tp) (l₀ := .ref C :: bm) (fun A Q E s k q => wpAny_bind ((PySem.W.looks_clsIn I1.kIn hcl) A _ E s k (wpAny_pure q))) rfl I1.kIn hini (J.type.andThen (PySem.W.looks_subIn I1.kIn T.ve)) (PySem.W.ks_ne I1.kIn J hcl) (by decide) ?_
  have kp : ∀ b o, h'.get? b = some o → (h'.push (PySem.W.kxs_mw "ValueError.__init__" a)).get? b = some o := fun b o z => Heap.get?_push_of_some _ z
  have I2 := I1.kept (t' := tk + 1) kp
  have hu : (h'.push (PySem.W.kxs_mw "ValueError.__init__" a)).get? h'.objs.size = some (PySem.W.kxs_mw "ValueError.__init__" a) := Heap.get?_push_at rfl rfl
  have I3 : Inv (cxS CX P w K mg base ps qual sc f (.ref cda) cc A outer s0 H0 E) [(h'.objs.size, PySem.W.kxs_mw "ValueError.__init__" a)] σ H ⟨h'.push (PySem.W.kxs_mw "ValueError.__init__" a), g, d, tk + 1, os⟩ :=
    ⟨I2.ok, I2.os, I2.bare, I2.base, I2.loc, I2.cell, I2.free, I2.freeC, fun p hp => by
      have hp2 : p = (h'.objs.size, PySem.W.kxs_mw "ValueError.__init__" a) := List.mem_singleton.mp hp
      subst hp2
      exact ⟨hu, I1.hok.fresh (Nat.le_refl _), Nat.ne_of_gt I1.lt, I1.nofs (Nat.le_refl _), fun v z => by cases z⟩, I2.hok, I2.len⟩
  have qa : wpAny (model P w) (A.deeper (envS qual sc s0.heap.objs.size f (.ref cda) cc)) (spliced (backTo p3 (starEach (e :: es) (envS qual sc s0.heap.objs.size f (.ref cda) cc)))) (AP (cxS CX P w K mg base ps qual sc f (.ref cda) cc A outer s0 H0 E) [(h'.objs.size, PySem.W.kxs_mw "ValueError.__init__" a)] σ fun ws H1 => ws.length ≤ 1000 ∧ H1 a = some (exo a C none) ∧ Qn H1) (cxS CX P w K mg base ps qual sc f (.ref cda) cc A outer s0 H0 E).xe ⟨h'.push (PySem.W.kxs_mw "ValueError.__init__" a), g, d, tk + 1, os⟩ := hA.run p3 _ _ σ H _ I3 q
  show wpAny _ _ (callWith p3 (.ref h'.objs.size) [] (backTo p3 (starEach (e :: es) (envS qual sc s0.heap.objs.size f (.ref cda) cc))) []) _ _ _
  rw [he] at qa ⊢
  refine PySem.W.kxs_callWith (i := "ValueError.__init__") (x := a) (by show (false || (backTo p3 (starEach es (envS qual sc s0.heap.objs.size f (.ref cda) cc))).any (·.1)) = false; rw [hpl]; rfl) ?_
  refine PySem.Calls.evalArgs_plain (thn qa fun us s1 ⟨ws, H1, J1, r1, hz, e1, q1⟩ => ?_)
  have pu := J1.pin (h'.objs.size, PySem.W.kxs_mw "ValueError.__init__" a) (List.mem_append_right _ (List.mem_singleton.mpr rfl))
  refine ⟨pu.1, ?_⟩
  have J2 : Inv (cxS CX P w K mg base ps qual sc f (.ref cda) cc A outer s0 H0 E) [] σ H1 s1 :=
    ⟨J1.ok, J1.os, J1.bare, J1.base, J1.loc, J1.cell, J1.free, J1.freeC, fun p hp => J1.pin p (List.mem_append_left _ (by rw [List.append_nil] at hp; exact hp)), J1.hok, J1.len⟩
  have hlen : us.length ≤ sizeLine := by
    rw [← Paired.length r1, sizeLine_eq]
    omega
  exact bound_ok (X := cxS CX P w K mg base ps qual sc f (.ref cda) cc A outer s0 H0 E) T.ox J2 e1 pu.1 hlen fun s' J' => ⟨H1, J', q1⟩
end
/-- how its arguments bind -/
theorem FunS.binds {P : Program} {K : PySem.W.Frag} {x qual : Str} {st : Stmt} {D f : Addr} {fd : FuncData} {ps : List Str} (F : FunS P K x qual st D f fd)
    (h : ∀ (kV doc pm : Value) (an : Option Addr) (cda cc : Addr) (ct : Value) (us : List Value), us.length = ps.length → bindArgs (PySem.W.ksFn x qual (defArgs st) (defBody st) (defScope st) .none kV doc pm an (.ref cda) ct cc) ⟨us, []⟩ = pure (ps.zip us)) : Binds K fd ps [] := by
  obtain ⟨oc, od, kV, doc, pm, an, cda, cc, ct, osl, ccl, cdd, vs, ccs, file, tf, cl, cld, csl, rfl, _⟩ := F.ex
  exact .all (h kV doc pm an cda cc ct)
/-- THE RULE: super().__init__(e), then the rest -/
theorem FunS.ok {P : Program} {w : World} {K : PySem.W.Frag} {mg : Str → Option Value} {base : Heap} {x qual : Str} {st : Stmt} {D C f : Addr} {fd : FuncData} {ps : List Str} {k : Nat} {sp : Sp} {ar : Arg} {p0 p1 p2 p3 p4 : Pos} {e : Expr} {es : List Expr} {rest : List Stmt}
    (F : FunS P K x qual st D f fd) (S : ScS ps (defScope st)) (T : SupC K C D) (hms : mg "super" = none) (htop : (P.main.scope.names.lookup ("super" : Str)).isSome = false)
    (hb : defBody st = .Expr (.Call (.Attribute (.Call (.Name "super" p0) [] [] p1) "__init__" p2) (e :: es) [] p3) p4 :: rest)
    (hp : ((defArgs st).posonlyargs ++ (defArgs st).args).head? = some ar) (h0 : ps[0]? = some ar.arg)
    (len : ∀ vs H Q E, sp vs H Q E → vs.length = ps.length) (self : ∀ vs H Q E, sp vs H Q E → ∃ a r, vs = .ref a :: r ∧ H a = some (exo a C none))
    {pl : Env → Sem Bool} (hc : ∀ env : Env, eval (.Call (.Attribute (.Call (.Name "super" p0) [] [] p1) "__init__" p2) (e :: es) [] p3) env = (do
      let ov ← attributeBase (.Call (.Name "super" p0) [] [] p1) "__init__" env (eval (.Call (.Name "super" p0) [] [] p1) env)
      standAt p2.atName
      let (g, first) ← holding [ov] (getMethod ov "__init__" (pl env))
      callWith p3 g first (backTo p3 (starEach (e :: es) env)) []))
    (he : ∀ env : Env, starEach (e :: es) env = (false, eval e env) :: starEach es env) (hpl : ∀ env : Env, (backTo p3 (starEach es env)).any (·.1) = false)
    (hsw : ∀ env : Env, swapsWith (.Call (.Attribute (.Call (.Name "super" p0) [] [] p1) "__init__" p2) (e :: es) [] p3) none p4.line env = pure false)
    (hbody : ∀ (cda cc : Addr) (A : Around) (outer : List Env) (s : Shared) (H : Hp) (a : Addr) (vr : List V) (Q : VK) (E : XK), Room k (A.deeper (envS qual (defScope st) s.heap.objs.size f (.ref cda) cc)) → sp (.ref a :: vr) H Q E →
      ∃ ta t, PA (cxS CX0 P w K mg base ps qual (defScope st) f (.ref cda) cc A outer s H E) (e :: es) ta ∧ PSs (cxS CX0 P w K mg base ps qual (defScope st) f (.ref cda) cc A outer s H E) rest t ∧
        ta (L2.start ps (.ref a :: vr)) H fun ws H1 => ws.length ≤ 1000 ∧ H1 a = some (exo a C none) ∧ t { nx := fun _ H' => Q .non H', rt := Q } (L2.start ps (.ref a :: vr)) H1) :
    FnOk P w K mg base CX0 (k + 1) f fd ps sp := by
  obtain ⟨oc, od, kV, doc, pm, an, cda, cc, ct, osl, ccl, cdd, cvs, ccs, file, tf, cl, cld, csl, rfl, lk, hcd, lcd, hvs, hfile, lc⟩ := F.ex
  refine ⟨len, fun A outer s H args us vs Q E hr e0 hbind r hsp => ?_⟩
  have hl := len _ _ _ _ hsp
  have KX : K.In s.heap := e0.mod.kin.keeps fun b o z => (e0.bs b o z).1
  have lim : s.heap.NoLimit := e0.mod.nolimit.keeps fun b o z => (e0.bs b o z).1
  obtain ⟨a, vr, rfl, hx⟩ := self _ _ _ _ hsp
  obtain ⟨ta, t, hA, hS, hq⟩ := hbody cda cc A outer s H a vr Q E (hr.deeper _) hsp
  refine PySem.ks_codeAny_call_defAt (fd := PySem.W.ksFn x qual (defArgs st) (defBody st) (defScope st) .none kV doc pm an (.ref cda) ct cc) (body := defBody st) (binds := ps.zip us) hr.depth (KX _ _ lk) rfl lim (PySem.W.codeRec_of KX hcd) rfl hbind S.cell
    (fun y hy => S.par _ (List.of_mem_zip hy).1) (fun h₀ hns hk => ?_) S.co S.gen S.kind
  have I := begin_S (CX := CX0) (A := A) (outer := outer) (E := E) (f := f) (cd := .ref cda) (tk := s.toks + (ps.zip us).length) (qual := qual) S hr.hd e0 hl r lc hns hk
  have s0 : (L2.start ps (V.ref a :: vr))[0]? = some (some (.ref a)) := rfl
  have first := sup_first (body := defBody st) S T I lk hp h0 s0 hx lcd hvs hfile lc hms htop (hc _) hA hq (he _) (hpl _) (hsw _)
  have eb : execs (defBody st) (envS qual (defScope st) s.heap.objs.size f (.ref cda) cc) = execs (.Expr (.Call (.Attribute (.Call (.Name "super" p0) [] [] p1) "__init__" p2) (e :: es) [] p3) p4 :: rest) (envS qual (defScope st) s.heap.objs.size f (.ref cda) cc) := by rw [hb]
  show _root_.PySem.wpAt _ _ _ (execs (defBody st) (envS qual (defScope st) s.heap.objs.size f (.ref cda) cc)) _ _ _
  rw [eb]
  refine PySem.ks_wpAt_execs_cons (PySem.ks_wpAt_mono first (fun fl s' h => ?_) fun _ _ h => h)
  cases fl with
  | next =>
    obtain ⟨H', J, q'⟩ := h
    refine PySem.wpAt_of_wpAny (wpAny_mono (hS.run [] s' _ H' _ J q') (fun fl2 s2 hs => ?_) fun _ _ h => h)
    have fin : ∀ {σ' : L2.St} {H2 : Hp} {v : V} {u : Value}, Inv (cxS CX0 P w K mg base ps qual (defScope st) f (.ref cda) cc A outer s H E) [] σ' H2 s2 → RelV v u → Q v H2 → CE outer P w H s Q u s2 :=
      fun {σ' H2 v u} J rv q => ⟨v, H2, J.os, J.bare, J.base, J.hok, rv, q⟩
    cases fl2 with
    | ret u =>
      obtain ⟨v, σ', H2, J2, rv, q2⟩ := hs
      exact fin J2 rv q2
    | next =>
      obtain ⟨σ', H2, J2, q2⟩ := hs
      exact fin (v := V.non) (u := Value.none) J2 rfl q2
    | brk =>
      obtain ⟨_, _, _, q2⟩ := hs
      exact q2.elim
    | cont =>
      obtain ⟨_, _, _, q2⟩ := hs
      exact q2.elim
  | ret u => exact h.elim
  | brk => exact h.elim
  | cont => exact h.elim
end QX

set_option Elab.async false
set_option linter.all false
set_option maxRecDepth 100000
set_option maxHeartbeats 4000000
namespace QX
open PySem PySem.Spec PyProof.Rows L2
/-! ### such an error as a value: made, asked for its class, read -/
section
variable {X : Cx} {pins : List (Addr × Obj)} {σ : L2.St} {H : Hp} {s : Shared} {a C D u : Addr} {Q : VK}
/-- an error that is held -/
def Held (H : Hp) (a C : Addr) : Prop := H a = some (exo a C none) ∨ ∃ dx fs, H a = some (exo a C (some dx)) ∧ H dx = some (exd dx fs)
theorem held_at (I : Inv X pins σ H s) (h : Held H a C) : ∃ ox od, PySem.W.InstAt s.heap a ox C od := by
  rcases h with h | ⟨dx, fs, h, hd⟩
  · obtain ⟨t1, e⟩ := exo_at I.hok h
    exact ⟨_, none, e, rfl, rfl, trivial⟩
  · obtain ⟨t1, e⟩ := exo_at I.hok h
    obtain ⟨mA, hns, _⟩ := exd_at I.hok hd
    obtain ⟨od, es, ep, ho, _⟩ := hns
    exact ⟨_, some od, e, rfl, rfl, ho⟩
theorem run_exo {CX : CXT} {fI : Addr} {k : Nat} {fd : FuncData} {ps : List Str} {sp : Sp} {vs : List V} {us : List Value} (T : OexC X.K C) (iC : PySem.W.findIn X.K (.ref C) "__init__" = some (some (.ref fI))) (tI : PySem.W.typeIn X.K (.ref fI) = some (.type "function"))
    (F1 : FnOk X.prog X.w X.K X.mg X.base CX k fI fd ps sp) (hr : Room (k + 1) X.A) (hb : Binds X.K fd ps []) (hx : Passes CX X (fun _ _ _ => False)) (I1 : Inv X pins σ H s) (r1 : Vals vs us) (hz : vs.length ≤ 1000)
    (q1 : ∀ a, H a = none → sp (.ref a :: vs) (upd H a (exo a C none)) (fun v H2 => v = .non ∧ Q (.ref a) H2) fun _ _ _ => False) :
    wpAny (model X.prog X.w) X.A (call (.ref C) us) (fun u s' => ∃ v H', Inv X pins σ H' s' ∧ RelV v u ∧ Q v H') X.xe s := by
  obtain ⟨nm, q, N, bs, bm, sn, sub, ab, col, dd, k0, k1, k2, k3, k5, hC, hbm⟩ := T.cls
  obtain ⟨hp, g, dr, tk, os⟩ := s
  have hn : H (hp.objs.size + 1) = none := I1.hok.fresh (Nat.le_succ _)
  have hq := q1 (hp.objs.size + 1) hn
  have kk : ∀ b o, hp.get? b = some o → ((hp.push (PySem.W.kdv_tup us)).push (PySem.HandSPX.excO C hp.objs.size)).get? b = some o := fun b o e => Heap.get?_push_of_some _ (Heap.get?_push_of_some _ e)
  have hget : ((hp.push (PySem.W.kdv_tup us)).push (PySem.HandSPX.excO C hp.objs.size)).get? (hp.objs.size + 1) = some (PySem.HandSPX.excO C hp.objs.size) := by heap_get
  have I2 : Inv X pins σ (upd H (hp.objs.size + 1) (exo (hp.objs.size + 1) C none)) ⟨(hp.push (PySem.W.kdv_tup us)).push (PySem.HandSPX.excO C hp.objs.size), g, dr, tk, os⟩ :=
    I1.laid (t' := tk) kk (Nat.le_succ _) (exo_ok hget)
  have r2 : Vals (V.ref (hp.objs.size + 1) :: vs) (Value.ref (hp.objs.size + 1) :: us) := .cons rfl r1
  have hl : (Value.ref (hp.objs.size + 1) :: us ++ []).length = ps.length := by
    have e := r2.length
    rw [F1.len _ _ _ _ hq] at e
    rw [List.append_nil]
    exact e.symm
  have hus : us.length ≤ sizeLine := by
    rw [← Paired.length r1, sizeLine_eq]
    omega
  have hbb := hb _ (Value.ref (hp.objs.size + 1) :: us) I2.kIn hl
  rw [List.append_nil] at hbb
  refine wpAny_call (PySem.HandSPX.call_own F.excBase_ValueError (fun Y => PySem.HandSPX.refsVE_contains Y bm hbm) (I1.kIn _ _ hC) (PySem.W.looks_findIn I1.kIn iC) (fun self => PySem.W.bind_fn I1.kIn self tI) hus
    (codeAny_mono (F1.run _ X.stack _ _ ⟨Value.ref (hp.objs.size + 1) :: us, []⟩ _ _ _ (fun _ _ _ => False) (hr.make C us []) (I2.env0.make C us []) hbb r2 hq) fun r s' hq' => ?_))
  cases r with
  | error er => exact hx pins σ _ _ er s' I2 hq'
  | ok fl =>
    cases fl with
    | ret u =>
      obtain ⟨v, H2, os2, bare2, un2, hok2, rv, ev, q2⟩ := hq'
      subst ev
      exact ⟨rv, .ref (hp.objs.size + 1), H2, I2.call' (ch := []) os2 un2 hok2 bare2 (fun b z => absurd z (by simp)), rfl, q2⟩
    | next => exact False.elim hq'
    | brk => exact False.elim hq'
    | cont => exact False.elim hq'
end
/-- C(e, ..) as a value -/
def tMkV (C : Addr) (sp : Sp) (ta : TA) : TE := fun σ H Q => ta σ H fun vs H1 => vs.length ≤ 1000 ∧ ∀ a, H1 a = none → sp (.ref a :: vs) (upd H1 a (exo a C none)) (fun v H2 => v = .non ∧ Q (.ref a) H2) fun _ _ _ => False
section
variable {X : Cx} {CX : CXT} {x : Str} {C fI : Addr} {k : Nat} {fd : FuncData} {ps : List Str} {sp : Sp} {e : Expr} {es : List Expr} {ta : TA} {p pos : Pos}
theorem pe_exo (T : OexC X.K C) (iC : PySem.W.findIn X.K (.ref C) "__init__" = some (some (.ref fI))) (tI : PySem.W.typeIn X.K (.ref fI) = some (.type "function"))
    (F1 : FnOk X.prog X.w X.K X.mg X.base CX k fI fd ps sp) (hr : Room (k + 1) X.A) (hb : Binds X.K fd ps []) (hx : Passes CX X (fun _ _ _ => False)) (hg : Gl X x) (hm : X.mg x = some (.ref C)) (ha : PA X (e :: es) ta)
    (hdb : (x == ("__debug__" : Str)) = false := by decide) (he : starEach (e :: es) X.env = (false, eval e X.env) :: starEach es X.env := by rfl) (hpl : (backTo pos (starEach es X.env)).any (·.1) = false := by rfl) :
    PE X (.Call (.Name x p) (e :: es) [] pos) (tMkV C sp ta) := by
  refine ⟨fun pins s σ H Q I h => ?_⟩
  refine wpAny_Call_Name_kw (ld_glob I hg hm ?_ hdb)
  refine PySem.W.callWith_K (h₀ := X.base) I.ok.mod.kin T.kC (thn (ha.run pos pins s σ H _ I h) fun us s1 ⟨vs, H1, I1, r1, hz, q1⟩ => ⟨I1.kIn, ?_⟩) he hpl
  exact run_exo T iC tI F1 hr hb hx I1 r1 hz q1
theorem pe_exo0 (T : OexC X.K C) (iC : PySem.W.findIn X.K (.ref C) "__init__" = some (some (.ref fI))) (tI : PySem.W.typeIn X.K (.ref fI) = some (.type "function"))
    (F1 : FnOk X.prog X.w X.K X.mg X.base CX k fI fd ps sp) (hr : Room (k + 1) X.A) (hb : Binds X.K fd ps []) (hx : Passes CX X (fun _ _ _ => False)) (hg : Gl X x) (hm : X.mg x = some (.ref C))
    (hdb : (x == ("__debug__" : Str)) = false := by decide) : PE X (.Call (.Name x p) [] [] pos) (tMkV C sp tNil) := by
  refine ⟨fun pins s σ H Q I h => ?_⟩
  refine wpAny_Call_Name_kw (ld_glob I hg hm ?_ hdb)
  obtain ⟨hz, q1⟩ := h
  exact PySem.W.callWith_K0 I.kIn T.kC (run_exo T iC tI F1 hr hb hx I .nil hz q1)
/-- what isinstance asks of the class -/
structure IsC (K : PySem.W.Frag) (C : Addr) : Prop where
  cl : (PySem.W.clsIn K C).isSome = true
  ga : PySem.W.findIn K (.ref C) "__getattribute__" = some (some (.builtin "BaseException.__getattribute__"))
  gg : PySem.W.findIn K (.ref C) "__getattr__" = some none
  sb : PySem.W.subIn K (.ref C) (.type "BaseException") = some true
  ca : PySem.W.findIn K (.ref C) "__class__" = some (some (.builtin "object.__class__"))
  cn : PySem.W.specialIn K (.builtin "object.__class__") "__get__" = some (some (.builtin "getset_descriptor.__get__"))
  ct : PySem.W.takesIn K (.builtin "object.__class__") = some true
  mo : PySem.W.mroIn K C (.type "object") = some true
  hd : PySem.W.hasDictIn K C = true
def rIsX (K : PySem.W.Frag) : List V → Hp → VK → Prop := fun xs H Q => ∃ (a C : Addr) (c : V) (t : Value) (b : Bool), xs = [.ref a, c] ∧ Held H a C ∧ IsC K C ∧ ClsV c t ∧ PySem.W.kitOne K (.ref C) t = some b ∧ Q (.bl b) H
theorem call_isX : CallR X (.builtin "isinstance") (rIsX X.K) := by
  intro pins s σ H xs us Q I r h
  obtain ⟨a, C, c, t, b, rfl, hh, T, hc, e, q⟩ := h
  cases r with
  | cons rx rr =>
    cases rr with
    | cons rt rr =>
      cases rr
      cases rx
      have ec := hc.eq rt
      subst ec
      obtain ⟨ox, od, J⟩ := held_at I hh
      exact PySem.W.kia_one (PySem.W.kitx_exc T.cl T.ga T.gg T.sb T.ca T.cn T.ct T.mo) I.kIn J e (fun z => nomatch z) fun tk => ⟨.bl b, H, I.kept (t' := tk) fun _ _ z => z, rfl, q⟩
/-- e.f of such an error -/
def tFx (K : PySem.W.Frag) (f : Str) (te : TE) : TE := fun σ H Q => te σ H fun x H1 => ∃ (a C dx : Addr) (fs : List (Str × V)) (v : V), x = .ref a ∧ IsC K C ∧ PySem.W.findIn K (.ref C) f = some none ∧ H1 a = some (exo a C (some dx)) ∧ H1 dx = some (exd dx fs) ∧ fs.lookup f = some v ∧ Q v H1
theorem pe_fx {o : Expr} {te : TE} {f : Str} (he : PE X o te) (hb : attributeBase o f X.env (eval o X.env) = eval o X.env := by rfl) : PE X (.Attribute o f pos) (tFx X.K f te) := by
  refine ⟨fun pins s σ H Q I h => ?_⟩
  refine attr_of hb (thn (he.run pins s σ H _ I h) fun u s1 hh => ?_)
  obtain ⟨y, H1, I1, ry, a, C, dx, fs, v, ey, T, hno, ha, hd, hl, q⟩ := hh
  subst ey
  obtain rfl : u = Value.ref a := ry
  obtain ⟨t1, ho⟩ := exo_at I1.hok ha
  obtain ⟨mA, hns, rel⟩ := exd_at I1.hok hd
  obtain ⟨od, hod, hlk⟩ := lookIn_ns hns
  obtain ⟨u, hu, ru⟩ := RelO.some_of (v := v) (o := mA f) (by rw [← hl]; exact rel f)
  have J : PySem.W.InstAt s1.heap a _ C (some od) := ⟨ho, rfl, rfl, hod⟩
  exact HandSPX.exc_get I1.kIn J T.ga T.gg T.sb (PySem.W.findObj_own T.hd hno rfl (by rw [hlk, hu])) (handed_of ru) ⟨v, H1, I1.tok _, ru, q⟩
end
/-- an error class of the text, as the top has made it -/
structure Err (P : Program) (K : PySem.W.Frag) (mg : Str → Option Value) (x qual : Str) (st : Stmt) (ps attrs : List Str) where
  C : Addr
  f : Addr
  fd : FuncData
  F : FunS P K "__init__" qual st C f fd
  b : Binds K fd ps []
  S : SupC K C C
  T : IsC K C
  g : mg x = some (.ref C)
  ini : PySem.W.findIn K (.ref C) "__init__" = some (some (.ref f))
  tI : PySem.W.typeIn K (.ref f) = some (.type "function")
  no : ∀ y ∈ attrs, PySem.W.findIn K (.ref C) y = some none
/-- what may be written into its text -/
def Say : V → Prop
  | .str y => y.length ≤ 1000
  | .int i => 0 ≤ i ∧ i < 10 ^ 10
  | _ => False
def spI0 (C : Addr) : Sp := fun vs H Q _ => ∃ a, vs = [.ref a] ∧ H a = some (exo a C none) ∧ Q .non H
def spI1 (C : Addr) (n : Str) : Sp := fun vs H Q _ => ∃ a v, vs = [.ref a, v] ∧ H a = some (exo a C none) ∧ Say v ∧
  ∀ dx H', H dx = none → (∀ b o, b ≠ a → H b = some o → H' b = some o) → H' a = some (exo a C (some dx)) → H' dx = some (exd dx [(n, v)]) → Q .non H'
def spI2 (C : Addr) (n m : Str) : Sp := fun vs H Q _ => ∃ a v u, vs = [.ref a, v, u] ∧ H a = some (exo a C none) ∧ Say v ∧ Say u ∧
  ∀ dx H', H dx = none → (∀ b o, b ≠ a → H b = some o → H' b = some o) → H' a = some (exo a C (some dx)) → H' dx = some (exd dx [(m, u), (n, v)]) → Q .non H'
theorem fin1 {H : Hp} {a dx C : Addr} {fs : List (Str × V)} (nd : H dx = none) (ne : dx ≠ a) {R : Hp → Prop}
    (q : ∀ H', H dx = none → (∀ b o, b ≠ a → H b = some o → H' b = some o) → H' a = some (exo a C (some dx)) → H' dx = some (exd dx fs) → R H') : R (upd (upd H dx (exd dx fs)) a (exo a C (some dx))) :=
  q _ nd (fun b o nb e => by rw [upd_ne nb, upd_ne (ne_of_none e nd)]; exact e) upd_same (by rw [upd_ne ne, upd_same])
theorem fin2 {H : Hp} {a dx C : Addr} {fs gs : List (Str × V)} (nd : H dx = none) (ne : dx ≠ a) {R : Hp → Prop}
    (q : ∀ H', H dx = none → (∀ b o, b ≠ a → H b = some o → H' b = some o) → H' a = some (exo a C (some dx)) → H' dx = some (exd dx gs) → R H') : R (upd (upd (upd H dx (exd dx fs)) a (exo a C (some dx))) dx (exd dx gs)) :=
  q _ nd (fun b o nb e => by rw [upd_ne (ne_of_none e nd), upd_ne nb, upd_ne (ne_of_none e nd)]; exact e) (by rw [upd_ne ne.symm, upd_same]) upd_same
theorem digits {i : Int} (h0 : 0 ≤ i) (h : i < 10 ^ 10) : (PySem.Str.ofString (toString i)).length ≤ 10 := toString_length_le h0 (by decide) h
theorem log_of {i : Int} (h0 : 0 ≤ i) (h : i < 10 ^ 10) : i.natAbs.log2 < 1920 := by
  have h1 : i.natAbs < 2 ^ 40 := by omega
  have := PySem.Flt.log2_lt_of (by decide : 0 < 40) h1
  omega
theorem app_len (x y : Str) : (x ++ y).length = x.length + y.length := by
  show (x.cps ++ y.cps).size = x.cps.size + y.cps.size
  exact Array.size_append
theorem Say.two {v : V} (h : Say v) : (∃ y : Str, v = .str y ∧ y.length ≤ 1000) ∨ ∃ i : Int, v = .int i ∧ i.natAbs.log2 < 1920 ∧ (toString i : Str).length ≤ 10 := by
  cases v with
  | str y => exact .inl ⟨y, rfl, h⟩
  | int i =>
    obtain ⟨h0, h1⟩ : 0 ≤ i ∧ i < 10 ^ 10 := h
    exact .inr ⟨i, rfl, log_of h0 h1, digits h0 h1⟩
  | non => exact h.elim
  | bl _ => exact h.elim
  | byt _ => exact h.elim
  | flt _ => exact h.elim
  | ref _ => exact h.elim
  | ty _ => exact h.elim
theorem big {n : Nat} (h : n ≤ 5000) : n ≤ sizeLine := Nat.le_trans h (by decide)
theorem len_app {x y : Str} {a b : Nat} (hx : x.length ≤ a) (hy : y.length ≤ b) : (x ++ y).length ≤ a + b := by
  rw [app_len]
  omega
/-- what is asked of an error's class, as one test -/
def errB (K : PySem.W.Frag) (C f : Addr) (attrs : List Str) : Bool :=
  decide (PySem.W.findIn K (.ref C) "__setattr__" = some (some (.builtin "object.__setattr__"))) && (decide (PySem.W.subIn K (.ref C) (.type "BaseException") = some true) &&
  (decide (PySem.W.typeIn K (.ref C) = some (.type "type")) && (PySem.W.keepIn K (.ref C) && ((PySem.W.clsIn K C).isSome && (decide (PySem.W.mroIn K C (.ref C) = some true) &&
  (decide (PySem.W.ks_superIn K C C "__init__" = some (some (.builtin "ValueError.__init__"))) && (decide (PySem.W.subIn K (.ref C) (.type "ValueError") = some true) && (decide (PySem.W.nsIn K cStatics "thirdparty.any" = some none) &&
  (decide (PySem.W.findIn K (.ref C) "__getattribute__" = some (some (.builtin "BaseException.__getattribute__"))) && (decide (PySem.W.findIn K (.ref C) "__getattr__" = some none) &&
  (decide (PySem.W.findIn K (.ref C) "__class__" = some (some (.builtin "object.__class__"))) && (decide (PySem.W.specialIn K (.builtin "object.__class__") "__get__" = some (some (.builtin "getset_descriptor.__get__"))) &&
  (decide (PySem.W.takesIn K (.builtin "object.__class__") = some true) && (decide (PySem.W.mroIn K C (.type "object") = some true) && (PySem.W.hasDictIn K C &&
  (decide (PySem.W.typeIn K (.ref f) = some (.type "function")) && attrs.all fun y => decide (PySem.W.findIn K (.ref C) y = some none)))))))))))))))))
theorem err_of {P : Program} {K : PySem.W.Frag} {mg : Str → Option Value} {x qual : Str} {st : Stmt} {ps attrs : List Str} {C f : Addr} {fd : FuncData} (F : FunS P K "__init__" qual st C f fd) (b : Binds K fd ps []) (g : mg x = some (.ref C))
    (cls : ∃ nm q N bs bm sn sub ab col dd k0 k1 k2 k3 k5, K.lookup C = some (excClassObj nm q C N bs bm true sn sub ab col dd k0 k1 k2 k3 k5 "ValueError.__new__") ∧ PySem.HandSPX.refsVE bm = true)
    (ini : PySem.W.findIn K (.ref C) "__init__" = some (some (.ref f))) (h : errB K C f attrs = true) : Nonempty { E : Err P K mg x qual st ps attrs // E.C = C } := by
  unfold errB at h
  simp only [Bool.and_eq_true, decide_eq_true_eq, List.all_eq_true] at h
  obtain ⟨h1, h2, h3, h4, h5, h6, h7, h8, h9, h10, h11, h12, h13, h14, h15, h16, h17, h18⟩ := h
  exact ⟨⟨⟨C, f, fd, F, b, ⟨⟨cls, h1, h2, h3, h4⟩, Option.isSome_iff_exists.mp h5, h6, h7, h8, h9⟩, ⟨h5, h10, h11, h2, h12, h13, h14, h15, h16⟩, g, ini, h17, h18⟩, rfl⟩⟩
/-- isinstance between errors of the text: each is of its own class alone, of the class q and a ValueError -/
def isB (K : PySem.W.Frag) (q : Addr) (cs : List Addr) : Bool := (List.range cs.length).all fun i => decide (PySem.W.kitOne K (.ref (cs.getD i 0)) (.type "ValueError") = some true) && (decide (PySem.W.kitOne K (.ref (cs.getD i 0)) (.ref q) = some true) &&
  (List.range cs.length).all fun j => decide (PySem.W.kitOne K (.ref (cs.getD i 0)) (.ref (cs.getD j 0)) = some (decide (i = j))))
theorem isB_of {K : PySem.W.Frag} {q : Addr} {cs : List Addr} (h : isB K q cs = true) {i : Nat} (hi : i < cs.length) : PySem.W.kitOne K (.ref (cs.getD i 0)) (.type "ValueError") = some true ∧ PySem.W.kitOne K (.ref (cs.getD i 0)) (.ref q) = some true ∧
    ∀ j, j < cs.length → PySem.W.kitOne K (.ref (cs.getD i 0)) (.ref (cs.getD j 0)) = some (decide (i = j)) := by
  unfold isB at h
  rw [List.all_eq_true] at h
  have h1 := h i (List.mem_range.mpr hi)
  simp only [Bool.and_eq_true, decide_eq_true_eq, List.all_eq_true] at h1
  exact ⟨h1.1, h1.2.1, fun j hj => h1.2.2 j (List.mem_range.mpr hj)⟩
end QX

set_option Elab.async false
set_option linter.all false
set_option maxRecDepth 100000
namespace K00
open PySem PySem.Spec PyProof.Rows L2 QX
def topS (i : Nat) : Stmt := PySem.Challenge.pw_quietsmith_k00_errors.main.body.getD i (.Pass ⟨0, 0, 0, 0⟩)
abbrev s_law_draws : Stmt := topS 9
abbrev n_law_draws : List Str := ["script", "start", "most", "draws", "cell", "number", "mixed", "k"]
theorem sc_law_draws : FnScope ["script", "start", "most", "draws", "cell", "number", "mixed", "k"] ["script", "start", "most"] (defScope s_law_draws) := ⟨rfl, rfl, rfl, by decide +kernel, rfl, by decide +kernel, by decide +kernel⟩
abbrev s_law_next : Stmt := topS 10
abbrev n_law_next : List Str := ["draws"]
theorem sc_law_next : FnScope ["draws"] ["draws"] (defScope s_law_next) := ⟨rfl, rfl, rfl, by decide +kernel, rfl, by decide +kernel, by decide +kernel⟩
abbrev s_law : Stmt := topS 11
abbrev n_law : List Str := ["script", "draws", "reason", "index", "line", "errors", "k", "e", "rows", "at"]
theorem sc_law : FnScope ["script", "draws", "reason", "index", "line", "errors", "k", "e", "rows", "at"] ["script"] (defScope s_law) := ⟨rfl, rfl, rfl, by decide +kernel, rfl, by decide +kernel, by decide +kernel⟩
abbrev i_BadProgram : Stmt := inClass (topS 2) 0
theorem sc_BadProgram : ScS ["self", "reason"] (defScope i_BadProgram) := ⟨rfl, rfl, rfl, by decide +kernel, by decide +kernel, by decide +kernel, by decide +kernel, rfl, rfl⟩
abbrev i_BadText : Stmt := inClass (topS 3) 0
theorem sc_BadText : ScS ["self", "index"] (defScope i_BadText) := ⟨rfl, rfl, rfl, by decide +kernel, by decide +kernel, by decide +kernel, by decide +kernel, rfl, rfl⟩
abbrev i_BadInput : Stmt := inClass (topS 4) 0
theorem sc_BadInput : ScS ["self"] (defScope i_BadInput) := ⟨rfl, rfl, rfl, by decide +kernel, by decide +kernel, by decide +kernel, by decide +kernel, rfl, rfl⟩
abbrev i_BadCode : Stmt := inClass (topS 5) 0
theorem sc_BadCode : ScS ["self", "index", "reason"] (defScope i_BadCode) := ⟨rfl, rfl, rfl, by decide +kernel, by decide +kernel, by decide +kernel, by decide +kernel, rfl, rfl⟩
abbrev i_BadRun : Stmt := inClass (topS 6) 0
theorem sc_BadRun : ScS ["self", "reason"] (defScope i_BadRun) := ⟨rfl, rfl, rfl, by decide +kernel, by decide +kernel, by decide +kernel, by decide +kernel, rfl, rfl⟩
abbrev i_BadScript : Stmt := inClass (topS 7) 0
theorem sc_BadScript : ScS ["self", "line", "reason"] (defScope i_BadScript) := ⟨rfl, rfl, rfl, by decide +kernel, by decide +kernel, by decide +kernel, by decide +kernel, rfl, rfl⟩
structure Tx (P : Program) (K : PySem.W.Frag) (mg : Str → Option Value) where
  E_BadProgram : Err P K mg "BadProgram" "BadProgram.__init__" i_BadProgram ["self", "reason"] ["reason"]
  E_BadText : Err P K mg "BadText" "BadText.__init__" i_BadText ["self", "index"] ["index"]
  E_BadInput : Err P K mg "BadInput" "BadInput.__init__" i_BadInput ["self"] []
  E_BadCode : Err P K mg "BadCode" "BadCode.__init__" i_BadCode ["self", "index", "reason"] ["index", "reason"]
  E_BadRun : Err P K mg "BadRun" "BadRun.__init__" i_BadRun ["self", "reason"] ["reason"]
  E_BadScript : Err P K mg "BadScript" "BadScript.__init__" i_BadScript ["self", "line", "reason"] ["line", "reason"]
  c_QuietError : Addr
  g_QuietError : mg "QuietError" = some (.ref c_QuietError)
  a_law_draws : Addr
  d_law_draws : FuncData
  F_law_draws : Fun K "_law_draws" "_law_draws" s_law_draws a_law_draws d_law_draws
  b_law_draws : Binds K d_law_draws ["script", "start", "most"] []
  g_law_draws : mg "_law_draws" = some (.ref a_law_draws)
  a_law_next : Addr
  d_law_next : FuncData
  F_law_next : Fun K "_law_next" "_law_next" s_law_next a_law_next d_law_next
  b_law_next : Binds K d_law_next ["draws"] []
  g_law_next : mg "_law_next" = some (.ref a_law_next)
  a_law : Addr
  d_law : FuncData
  F_law : Fun K "law" "law" s_law a_law d_law
  b_law : Binds K d_law ["script"] []
  g_law : mg "law" = some (.ref a_law)
  z_ValueError : mg "ValueError" = none
  z_abs : mg "abs" = none
  z_int : mg "int" = none
  z_isinstance : mg "isinstance" = none
  z_len : mg "len" = none
  z_range : mg "range" = none
  kit : isB K c_QuietError [E_BadProgram.C, E_BadText.C, E_BadInput.C, E_BadCode.C, E_BadRun.C, E_BadScript.C] = true
  z_super : mg "super" = none

/-! ### the promises -/
theorem same_upd {H : Hp} {p : Addr} {o : HO} (h : H p = none) : Same H (upd H p o) := fun b x e => by
  rw [upd_ne (ne_of_none e h)]
  exact e
def Keep (H H' : Hp) (p : Addr) : Prop := ∀ b o, b ≠ p → H b = some o → H' b = some o
theorem Keep.trans {H H1 H2 : Hp} {p : Addr} (a : Keep H H1 p) (b : Keep H1 H2 p) : Keep H H2 p := fun c o n e => b c o n (a c o n e)
theorem keep_upd (H : Hp) (p : Addr) (o : HO) : Keep H (upd H p o) p := fun b u n e => by
  rw [upd_ne n]
  exact e
theorem Same.keep {H H' : Hp} {p : Addr} (s : Same H H') : Keep H H' p := fun b o _ e => s b o e
theorem Keep.new {H H1 H2 : Hp} {p : Addr} (n : H p = none) (s : Same H H1) (k : Keep H1 H2 p) : Same H H2 := fun b o e => k b o (ne_of_none e n) (s b o e)
theorem cut_map (ns : List Int) (lo hi : Option Int) : ∃ ms : List Int, cutV (ns.map V.int) lo hi = ms.map V.int ∧ ms.length ≤ ns.length := by
  refine ⟨(ns.drop (HT.sIx (ns.map V.int).length 0 lo)).take (HT.sIx (ns.map V.int).length (ns.map V.int).length hi - HT.sIx (ns.map V.int).length 0 lo), ?_, ?_⟩
  · unfold cutV
    rw [List.map_take, List.map_drop]
  · rw [List.length_take, List.length_drop]
    omega
theorem line5 {n : Nat} (h : n ≤ 5000) : n ≤ sizeLine := Nat.le_trans h (by decide)
theorem line5' {n : Nat} (h : n ≤ 5000) : n < sizeLine := Nat.lt_of_le_of_lt h (by decide)
def spDraws (K : PySem.W.Frag) : Sp := fun vs H Q _ => ∃ (a : Addr) (ns : List Int) (st mo : Int), vs = [.ref a, .int st, .int mo] ∧ SqL K H a (ns.map V.int) ∧ ns.length ≤ 63 ∧
  ∀ (p : Addr) (ds : List Int) (H' : Hp), Same H H' → H p = none → H' p = some (.lst (ds.map V.int)) → ds.length ≤ 2000 → Q (.ref p) H'
def spNext : Sp := fun vs H Q _ => ∃ (p : Addr) (ds : List Int), vs = [.ref p] ∧ H p = some (.lst (ds.map V.int)) ∧ ds.length ≤ 2000 ∧
  ∀ (v : Int) (es : List Int) (H' : Hp), Keep H H' p → H' p = some (.lst (es.map V.int)) → es.length ≤ ds.length → Q (.int v) H'
section
variable {P : Program} {w : World} {K : PySem.W.Frag} {mg : Str → Option Value} {base : Heap}
theorem ok_draws (T : Tx P K mg) : FnOk P w K mg base CX0 1 T.a_law_draws T.d_law_draws ["script", "start", "most"] (spDraws K) := by
  refine T.F_law_draws.ok sc_law_draws (fun vs H Q E h => ?_) (fun cdv A outer s H vs Q E hr h => ?_)
  · obtain ⟨a, ns, st, mo, rfl, _⟩ := h
    rfl
  · obtain ⟨a, ns, st, mo, rfl, hS, hl, q⟩ := h
    refine ⟨_, (pss_cons (ps_set (i := 3) sc_law_draws.nd rfl (.inl rfl) (pe_lst pa_nil))
        (pss_cons (ps_for PassesOwn.never rfl (pi_list (pe_slice sl_list (pv 0) (po_some (pv 1)) po_none)) (pg_name (i := 4) sc_law_draws.nd rfl (.inl rfl))
        (pss_cons (ps_set (i := 5) sc_law_draws.nd rfl (.inl rfl) (pe_callB call_abs (by rfl) T.z_abs (by decide +kernel) (pa_cons (pe_callTy call_int1 (by rfl) T.z_int (by decide +kernel) (pa_cons (pv 4) pa_nil)) pa_nil)))
        (pss_one (ps_if (pt_cmpR op_lt (pv 5) (pe_op op_pow pe_int pe_int) (nomark _))
        (pss_cons (ps_set (i := 6) sc_law_draws.nd rfl (.inl rfl) (pe_op op_mod (pe_callTy call_int1 (by rfl) T.z_int (by decide +kernel) (pa_cons (pe_op op_add (pe_op op_mul (pv 5) pe_int) pe_int) pa_nil)) pe_int))
        (pss_cons (ps_expr (pe_bm PySem.F.plainAttrs_list PySem.F.slot_list_append PySem.F.type_list_append mt_append (pv 3) (pa_cons (pv 5) pa_nil)))
        (pss_cons (ps_expr (pe_bm PySem.F.plainAttrs_list PySem.F.slot_list_append PySem.F.type_list_append mt_append (pv 3) (pa_cons (pe_op op_fdiv (pe_op op_mod (pe_callTy call_int1 (by rfl) T.z_int (by decide +kernel) (pa_cons (pe_op op_add (pe_op op_add (pe_op op_mul (pv 6) pe_int) (pe_op op_fdiv (pv 5) pe_int)) pe_int) pa_nil)) pe_int) pe_int) pa_nil)))
        (pss_one (ps_expr (pe_bm PySem.F.plainAttrs_list PySem.F.slot_list_append PySem.F.type_list_append mt_append (pv 3) (pa_cons (pe_op op_fdiv (pe_op op_mod (pe_callTy call_int1 (by rfl) T.z_int (by decide +kernel) (pa_cons (pe_op op_add (pe_op op_add (pe_op op_mul (pv 6) pe_int) (pe_op op_fdiv (pv 5) pe_int)) pe_int) pa_nil)) pe_int) pe_int) pa_nil)))))))
        (pss_one (ps_for PassesOwn.never rfl (pi_range1 rfl T.z_range (pa_cons pe_int pa_nil)) (pg_name (i := 7) sc_law_draws.nd rfl (.inl rfl))
        (pss_cons (ps_if (pt_cmpR op_gt (pv 5) pe_int (nomark _))
        (pss_one (ps_expr (pe_bm PySem.F.plainAttrs_list PySem.F.slot_list_append PySem.F.type_list_append mt_append (pv 3) (pa_cons (pe_op op_mod (pe_callTy call_int1 (by rfl) T.z_int (by decide +kernel) (pa_cons (pv 5) pa_nil)) pe_int) pa_nil))))
        pss_nil)
        (pss_one (ps_set (i := 5) sc_law_draws.nd rfl (.inl rfl) (pe_op op_fdiv (pv 5) pe_int))))))))))
        (pss_one (ps_ret (pe_slice sl_list (pv 3) po_none (po_some (pv 2))))))), ?_⟩
    refine ⟨Nat.zero_le _, fun d hd => ?_⟩
    have s1 : Same H (upd H d (.lst [])) := same_upd hd
    refine ⟨_, rfl, _, rfl, _, rfl, a, _, rfl, s1.seq hS, fun c hc => ?_⟩
    obtain ⟨ms, hm, hml⟩ := cut_map ns (some st) none
    rw [hm]
    have s2 : Same (upd H d (.lst [])) (upd (upd H d (.lst [])) c (.lst (ms.map V.int))) := same_upd hc
    have ndc : d ≠ c := ne_of_none upd_same hc
    refine ⟨c, rfl, ⟨_, SqL.of upd_same⟩, for_list (K := K) (a := c) (xs := ms.map V.int) (fun i σ H2 => ∃ (v4 v5 v6 v7 : Option V) (ds : List Int), σ = [some (.ref a), some (.int st), some (.int mo), some (.ref d), v4, v5, v6, v7] ∧ Same H H2 ∧
        H2 c = some (.lst (ms.map V.int)) ∧ H2 d = some (.lst (ds.map V.int)) ∧ ds.length ≤ 20 * i)
      ⟨none, none, none, none, [], rfl, s1.trans s2, upd_same, by rw [upd_ne ndc, upd_same]; rfl, Nat.le_refl _⟩ (fun i σ H2 _ ⟨_, _, _, _, _, _, _, h2, _⟩ => SqL.of h2) ?_ ?_⟩
    · rintro i y σ H2 hi ⟨v4, v5, v6, v7, ds, rfl, sH, h2, g2, el⟩
      have hil : i < ms.length := by
        have := (List.getElem?_eq_some_iff.mp hi).1
        rw [List.length_map] at this
        exact this
      obtain ⟨z, rfl⟩ : ∃ z, y = V.int z := by
        rw [List.getElem?_map, List.getElem?_eq_getElem hil] at hi
        exact ⟨_, (Option.some.inj hi).symm⟩
      (repeat (first | refine ⟨_, rfl, ?_⟩ | refine ⟨_, _, rfl, rfl, ?_⟩ | refine ⟨rfl, ?_⟩ | refine .inl ⟨_, rfl, ?_⟩ | refine .inr ⟨_, rfl, ?_⟩ | refine ⟨.inr ⟨by decide, by decide⟩, ?_⟩ | refine ⟨⟨by decide, by decide⟩, ?_⟩ | refine ⟨⟨by decide, by decide, by decide⟩, ?_⟩ | refine ⟨.inr ⟨by omega, by omega⟩, ?_⟩ | refine ⟨(by show (0 : Int) < _; first | decide | omega), ?_⟩ | refine ⟨Nat.le_trans (Nat.le_of_ble_eq_true rfl : _ ≤ 50) (by decide), ?_⟩ | refine ⟨_, _, _, _, rfl, rfl, upd_same, rfl, ?_⟩ | refine ⟨_, _, _, _, rfl, rfl, SqL.of upd_same, rfl, ?_⟩ | refine ⟨_, _, _, _, rfl, rfl, SqT.of upd_same, rfl, ?_⟩ | refine ⟨_, _, rfl, .inl (SqL.of upd_same), ?_⟩ | refine ⟨_, _, rfl, .inr (SqT.of upd_same), ?_⟩ | (refine' ⟨_, _, _, _, rfl, rfl, _, _, _⟩; rotate_left 2; (focus (first | assumption | exact SqL.of (by assumption) | exact SqT.of (by assumption) | exact Same.seq (by assumption) (by assumption))); (focus (exact rfl))) | (refine' ⟨_, _, rfl, _, _⟩; rotate_left 1; (focus (first | exact .inl (by assumption) | exact .inl (SqL.of (by assumption)) | exact .inr (by assumption) | exact .inr (SqT.of (by assumption)))))))
      generalize (if z < 0 then -z else z) = m
      refine ite2 (fun _ => ?_) (fun _ => ?_)
      · (repeat (first | refine ⟨_, rfl, ?_⟩ | refine ⟨_, _, rfl, rfl, ?_⟩ | refine ⟨rfl, ?_⟩ | refine .inl ⟨_, rfl, ?_⟩ | refine .inr ⟨_, rfl, ?_⟩ | refine ⟨.inr ⟨by decide, by decide⟩, ?_⟩ | refine ⟨⟨by decide, by decide⟩, ?_⟩ | refine ⟨⟨by decide, by decide, by decide⟩, ?_⟩ | refine ⟨.inr ⟨by omega, by omega⟩, ?_⟩ | refine ⟨(by show (0 : Int) < _; first | decide | omega), ?_⟩ | refine ⟨Nat.le_trans (Nat.le_of_ble_eq_true rfl : _ ≤ 50) (by decide), ?_⟩ | refine ⟨_, _, _, _, rfl, rfl, upd_same, rfl, ?_⟩ | refine ⟨_, _, _, _, rfl, rfl, SqL.of upd_same, rfl, ?_⟩ | refine ⟨_, _, _, _, rfl, rfl, SqT.of upd_same, rfl, ?_⟩ | refine ⟨_, _, rfl, .inl (SqL.of upd_same), ?_⟩ | refine ⟨_, _, rfl, .inr (SqT.of upd_same), ?_⟩ | (refine' ⟨_, _, _, _, rfl, rfl, _, _, _⟩; rotate_left 2; (focus (first | assumption | exact SqL.of (by assumption) | exact SqT.of (by assumption) | exact Same.seq (by assumption) (by assumption))); (focus (exact rfl))) | (refine' ⟨_, _, rfl, _, _⟩; rotate_left 1; (focus (first | exact .inl (by assumption) | exact .inl (SqL.of (by assumption)) | exact .inr (by assumption) | exact .inr (SqT.of (by assumption)))))))
        refine ⟨.inl ⟨rfl, _, SqL.of g2⟩, ?_⟩
        (repeat (first | refine ⟨_, rfl, ?_⟩ | refine ⟨_, _, rfl, rfl, ?_⟩ | refine ⟨rfl, ?_⟩ | refine .inl ⟨_, rfl, ?_⟩ | refine .inr ⟨_, rfl, ?_⟩ | refine ⟨.inr ⟨by decide, by decide⟩, ?_⟩ | refine ⟨⟨by decide, by decide⟩, ?_⟩ | refine ⟨⟨by decide, by decide, by decide⟩, ?_⟩ | refine ⟨.inr ⟨by omega, by omega⟩, ?_⟩ | refine ⟨(by show (0 : Int) < _; first | decide | omega), ?_⟩ | refine ⟨Nat.le_trans (Nat.le_of_ble_eq_true rfl : _ ≤ 50) (by decide), ?_⟩ | refine ⟨_, _, _, _, rfl, rfl, upd_same, rfl, ?_⟩ | refine ⟨_, _, _, _, rfl, rfl, SqL.of upd_same, rfl, ?_⟩ | refine ⟨_, _, _, _, rfl, rfl, SqT.of upd_same, rfl, ?_⟩ | refine ⟨_, _, rfl, .inl (SqL.of upd_same), ?_⟩ | refine ⟨_, _, rfl, .inr (SqT.of upd_same), ?_⟩ | (refine' ⟨_, _, _, _, rfl, rfl, _, _, _⟩; rotate_left 2; (focus (first | assumption | exact SqL.of (by assumption) | exact SqT.of (by assumption) | exact Same.seq (by assumption) (by assumption))); (focus (exact rfl))) | (refine' ⟨_, _, rfl, _, _⟩; rotate_left 1; (focus (first | exact .inl (by assumption) | exact .inl (SqL.of (by assumption)) | exact .inr (by assumption) | exact .inr (SqT.of (by assumption)))))))
        refine ⟨d, _, _, rfl, rfl, g2, line5' (by rw [List.length_map]; omega), ?_⟩
        refine ⟨_, rfl, .inl ⟨rfl, _, SqL.of upd_same⟩, ?_⟩
        (repeat (first | refine ⟨_, rfl, ?_⟩ | refine ⟨_, _, rfl, rfl, ?_⟩ | refine ⟨rfl, ?_⟩ | refine .inl ⟨_, rfl, ?_⟩ | refine .inr ⟨_, rfl, ?_⟩ | refine ⟨.inr ⟨by decide, by decide⟩, ?_⟩ | refine ⟨⟨by decide, by decide⟩, ?_⟩ | refine ⟨⟨by decide, by decide, by decide⟩, ?_⟩ | refine ⟨.inr ⟨by omega, by omega⟩, ?_⟩ | refine ⟨(by show (0 : Int) < _; first | decide | omega), ?_⟩ | refine ⟨Nat.le_trans (Nat.le_of_ble_eq_true rfl : _ ≤ 50) (by decide), ?_⟩ | refine ⟨_, _, _, _, rfl, rfl, upd_same, rfl, ?_⟩ | refine ⟨_, _, _, _, rfl, rfl, SqL.of upd_same, rfl, ?_⟩ | refine ⟨_, _, _, _, rfl, rfl, SqT.of upd_same, rfl, ?_⟩ | refine ⟨_, _, rfl, .inl (SqL.of upd_same), ?_⟩ | refine ⟨_, _, rfl, .inr (SqT.of upd_same), ?_⟩ | (refine' ⟨_, _, _, _, rfl, rfl, _, _, _⟩; rotate_left 2; (focus (first | assumption | exact SqL.of (by assumption) | exact SqT.of (by assumption) | exact Same.seq (by assumption) (by assumption))); (focus (exact rfl))) | (refine' ⟨_, _, rfl, _, _⟩; rotate_left 1; (focus (first | exact .inl (by assumption) | exact .inl (SqL.of (by assumption)) | exact .inr (by assumption) | exact .inr (SqT.of (by assumption)))))))
        refine ⟨d, _, _, rfl, rfl, upd_same, line5' (by rw [List.length_append, List.length_map]; show _ + 1 ≤ _; omega), ?_⟩
        refine ⟨_, rfl, .inl ⟨rfl, _, SqL.of upd_same⟩, ?_⟩
        (repeat (first | refine ⟨_, rfl, ?_⟩ | refine ⟨_, _, rfl, rfl, ?_⟩ | refine ⟨rfl, ?_⟩ | refine .inl ⟨_, rfl, ?_⟩ | refine .inr ⟨_, rfl, ?_⟩ | refine ⟨.inr ⟨by decide, by decide⟩, ?_⟩ | refine ⟨⟨by decide, by decide⟩, ?_⟩ | refine ⟨⟨by decide, by decide, by decide⟩, ?_⟩ | refine ⟨.inr ⟨by omega, by omega⟩, ?_⟩ | refine ⟨(by show (0 : Int) < _; first | decide | omega), ?_⟩ | refine ⟨Nat.le_trans (Nat.le_of_ble_eq_true rfl : _ ≤ 50) (by decide), ?_⟩ | refine ⟨_, _, _, _, rfl, rfl, upd_same, rfl, ?_⟩ | refine ⟨_, _, _, _, rfl, rfl, SqL.of upd_same, rfl, ?_⟩ | refine ⟨_, _, _, _, rfl, rfl, SqT.of upd_same, rfl, ?_⟩ | refine ⟨_, _, rfl, .inl (SqL.of upd_same), ?_⟩ | refine ⟨_, _, rfl, .inr (SqT.of upd_same), ?_⟩ | (refine' ⟨_, _, _, _, rfl, rfl, _, _, _⟩; rotate_left 2; (focus (first | assumption | exact SqL.of (by assumption) | exact SqT.of (by assumption) | exact Same.seq (by assumption) (by assumption))); (focus (exact rfl))) | (refine' ⟨_, _, rfl, _, _⟩; rotate_left 1; (focus (first | exact .inl (by assumption) | exact .inl (SqL.of (by assumption)) | exact .inr (by assumption) | exact .inr (SqT.of (by assumption)))))))
        refine ⟨d, _, _, rfl, rfl, upd_same, line5' (by rw [List.length_append, List.length_append, List.length_map]; show _ + 1 + 1 ≤ _; omega), ?_⟩
        refine ⟨_, _, _, _, ds ++ [m] ++ [((m * 48271 + 11) % 2147483647 * 16807 + m / 9 + 3) % 2147483647 / 7] ++ [((m * 48271 + 11) % 2147483647 * 69621 + m / 5 + 7) % 2147483647 / 11], rfl, fun b o hb => ?_, ?_, ?_, by simp only [List.length_append, List.length_singleton]; omega⟩
        · rw [upd_ne (ne_of_none hb hd), upd_ne (ne_of_none hb hd), upd_ne (ne_of_none hb hd)]
          exact sH _ _ hb
        · rw [upd_ne ndc.symm, upd_ne ndc.symm, upd_ne ndc.symm]
          exact h2
        · rw [upd_same, List.map_append, List.map_append, List.map_append]
          rfl
      · refine ⟨20, rfl, by decide, by decide, for_range (lo := 0) (n := 20) (fun j σ H3 => ∃ (v6 v7 : Option V) (m : Int) (es : List Int), σ = [some (.ref a), some (.int st), some (.int mo), some (.ref d), some (.int z), some (.int m), v6, v7] ∧ Same H H3 ∧
            H3 c = some (.lst (ms.map V.int)) ∧ H3 d = some (.lst (es.map V.int)) ∧ es.length ≤ ds.length + j)
          ⟨_, _, m, ds, rfl, sH, h2, g2, Nat.le_refl _⟩ ?_ ?_⟩
        · rintro j σ H3 hj ⟨w6, w7, m, es, rfl, sH3, h3, g3, el3⟩
          (repeat (first | refine ⟨_, rfl, ?_⟩ | refine ⟨_, _, rfl, rfl, ?_⟩ | refine ⟨rfl, ?_⟩ | refine .inl ⟨_, rfl, ?_⟩ | refine .inr ⟨_, rfl, ?_⟩ | refine ⟨.inr ⟨by decide, by decide⟩, ?_⟩ | refine ⟨⟨by decide, by decide⟩, ?_⟩ | refine ⟨⟨by decide, by decide, by decide⟩, ?_⟩ | refine ⟨.inr ⟨by omega, by omega⟩, ?_⟩ | refine ⟨(by show (0 : Int) < _; first | decide | omega), ?_⟩ | refine ⟨Nat.le_trans (Nat.le_of_ble_eq_true rfl : _ ≤ 50) (by decide), ?_⟩ | refine ⟨_, _, _, _, rfl, rfl, upd_same, rfl, ?_⟩ | refine ⟨_, _, _, _, rfl, rfl, SqL.of upd_same, rfl, ?_⟩ | refine ⟨_, _, _, _, rfl, rfl, SqT.of upd_same, rfl, ?_⟩ | refine ⟨_, _, rfl, .inl (SqL.of upd_same), ?_⟩ | refine ⟨_, _, rfl, .inr (SqT.of upd_same), ?_⟩ | (refine' ⟨_, _, _, _, rfl, rfl, _, _, _⟩; rotate_left 2; (focus (first | assumption | exact SqL.of (by assumption) | exact SqT.of (by assumption) | exact Same.seq (by assumption) (by assumption))); (focus (exact rfl))) | (refine' ⟨_, _, rfl, _, _⟩; rotate_left 1; (focus (first | exact .inl (by assumption) | exact .inl (SqL.of (by assumption)) | exact .inr (by assumption) | exact .inr (SqT.of (by assumption)))))))
          refine ite2 (fun _ => ?_) (fun _ => ?_)
          · refine ⟨_, rfl, .inl ⟨rfl, _, SqL.of g3⟩, ?_⟩
            (repeat (first | refine ⟨_, rfl, ?_⟩ | refine ⟨_, _, rfl, rfl, ?_⟩ | refine ⟨rfl, ?_⟩ | refine .inl ⟨_, rfl, ?_⟩ | refine .inr ⟨_, rfl, ?_⟩ | refine ⟨.inr ⟨by decide, by decide⟩, ?_⟩ | refine ⟨⟨by decide, by decide⟩, ?_⟩ | refine ⟨⟨by decide, by decide, by decide⟩, ?_⟩ | refine ⟨.inr ⟨by omega, by omega⟩, ?_⟩ | refine ⟨(by show (0 : Int) < _; first | decide | omega), ?_⟩ | refine ⟨Nat.le_trans (Nat.le_of_ble_eq_true rfl : _ ≤ 50) (by decide), ?_⟩ | refine ⟨_, _, _, _, rfl, rfl, upd_same, rfl, ?_⟩ | refine ⟨_, _, _, _, rfl, rfl, SqL.of upd_same, rfl, ?_⟩ | refine ⟨_, _, _, _, rfl, rfl, SqT.of upd_same, rfl, ?_⟩ | refine ⟨_, _, rfl, .inl (SqL.of upd_same), ?_⟩ | refine ⟨_, _, rfl, .inr (SqT.of upd_same), ?_⟩ | (refine' ⟨_, _, _, _, rfl, rfl, _, _, _⟩; rotate_left 2; (focus (first | assumption | exact SqL.of (by assumption) | exact SqT.of (by assumption) | exact Same.seq (by assumption) (by assumption))); (focus (exact rfl))) | (refine' ⟨_, _, rfl, _, _⟩; rotate_left 1; (focus (first | exact .inl (by assumption) | exact .inl (SqL.of (by assumption)) | exact .inr (by assumption) | exact .inr (SqT.of (by assumption)))))))
            refine ⟨d, _, _, rfl, rfl, g3, line5' (by rw [List.length_map]; omega), ?_⟩
            refine ⟨_, rfl, _, _, rfl, rfl, ⟨by decide, by decide⟩, ?_⟩
            refine ⟨_, _, _, es ++ [m % 10000], rfl, fun b o hb => ?_, ?_, ?_, by simp only [List.length_append, List.length_singleton]; omega⟩
            · rw [upd_ne (ne_of_none hb hd)]
              exact sH3 _ _ hb
            · rw [upd_ne ndc.symm]
              exact h3
            · rw [upd_same, List.map_append]
              rfl
          · refine ⟨_, rfl, _, _, rfl, rfl, ⟨by decide, by decide⟩, ?_⟩
            exact ⟨_, _, _, es, rfl, sH3, h3, g3, by omega⟩
        · rintro σ H3 ⟨w6, w7, m, es, rfl, sH3, h3, g3, el3⟩
          exact ⟨_, _, _, _, es, rfl, sH3, h3, g3, by omega⟩
    · rintro σ H2 ⟨v4, v5, v6, v7, ds, rfl, sH, h2, g2, el⟩
      rw [List.length_map] at el
      refine ⟨_, rfl, _, rfl, _, rfl, d, _, rfl, SqL.of g2, fun r hr2 => ?_⟩
      obtain ⟨es, he, hel⟩ := cut_map ds none (some mo)
      rw [he]
      exact q r es _ (sH.trans (same_upd hr2)) (sH.free hr2) upd_same (by omega)
theorem ok_next (T : Tx P K mg) : FnOk P w K mg base CX0 1 T.a_law_next T.d_law_next ["draws"] spNext := by
  refine T.F_law_next.ok sc_law_next (fun vs H Q E h => ?_) (fun cdv A outer s H vs Q E hr h => ?_)
  · obtain ⟨p, ds, rfl, _⟩ := h
    rfl
  · obtain ⟨p, ds, rfl, hp, hl, q⟩ := h
    refine ⟨_, (pss_cons (ps_if (pt_cmpR op_eq (pe_callB call_len_seq (by rfl) T.z_len (by decide +kernel) (pa_cons (pv 0) pa_nil)) pe_int (nomark _))
        (pss_one (ps_ret pe_int))
        pss_nil)
        (pss_one (ps_ret (pe_bm PySem.F.plainAttrs_list PySem.F.slot_list_pop PySem.F.type_list_pop mt_popAt (pv 0) (pa_cons pe_int pa_nil))))), ?_⟩
    refine ⟨_, rfl, p, _, rfl, .inl (SqL.of hp), ?_⟩
    cases ds with
    | nil =>
      (repeat (first | refine ⟨_, rfl, ?_⟩ | refine ⟨_, _, rfl, rfl, ?_⟩ | refine ⟨rfl, ?_⟩ | refine .inl ⟨_, rfl, ?_⟩ | refine .inr ⟨_, rfl, ?_⟩ | refine ⟨.inr ⟨by decide, by decide⟩, ?_⟩ | refine ⟨⟨by decide, by decide⟩, ?_⟩ | refine ⟨⟨by decide, by decide, by decide⟩, ?_⟩ | refine ⟨.inr ⟨by omega, by omega⟩, ?_⟩ | refine ⟨(by show (0 : Int) < _; first | decide | omega), ?_⟩ | refine ⟨Nat.le_trans (Nat.le_of_ble_eq_true rfl : _ ≤ 50) (by decide), ?_⟩ | refine ⟨_, _, _, _, rfl, rfl, upd_same, rfl, ?_⟩ | refine ⟨_, _, _, _, rfl, rfl, SqL.of upd_same, rfl, ?_⟩ | refine ⟨_, _, _, _, rfl, rfl, SqT.of upd_same, rfl, ?_⟩ | refine ⟨_, _, rfl, .inl (SqL.of upd_same), ?_⟩ | refine ⟨_, _, rfl, .inr (SqT.of upd_same), ?_⟩ | (refine' ⟨_, _, _, _, rfl, rfl, _, _, _⟩; rotate_left 2; (focus (first | assumption | exact SqL.of (by assumption) | exact SqT.of (by assumption) | exact Same.seq (by assumption) (by assumption))); (focus (exact rfl))) | (refine' ⟨_, _, rfl, _, _⟩; rotate_left 1; (focus (first | exact .inl (by assumption) | exact .inl (SqL.of (by assumption)) | exact .inr (by assumption) | exact .inr (SqT.of (by assumption)))))))
      exact q 0 [] H (fun b o _ e => e) hp (Nat.le_refl _)
    | cons x r =>
      (repeat (first | refine ⟨_, rfl, ?_⟩ | refine ⟨_, _, rfl, rfl, ?_⟩ | refine ⟨rfl, ?_⟩ | refine .inl ⟨_, rfl, ?_⟩ | refine .inr ⟨_, rfl, ?_⟩ | refine ⟨.inr ⟨by decide, by decide⟩, ?_⟩ | refine ⟨⟨by decide, by decide⟩, ?_⟩ | refine ⟨⟨by decide, by decide, by decide⟩, ?_⟩ | refine ⟨.inr ⟨by omega, by omega⟩, ?_⟩ | refine ⟨(by show (0 : Int) < _; first | decide | omega), ?_⟩ | refine ⟨Nat.le_trans (Nat.le_of_ble_eq_true rfl : _ ≤ 50) (by decide), ?_⟩ | refine ⟨_, _, _, _, rfl, rfl, upd_same, rfl, ?_⟩ | refine ⟨_, _, _, _, rfl, rfl, SqL.of upd_same, rfl, ?_⟩ | refine ⟨_, _, _, _, rfl, rfl, SqT.of upd_same, rfl, ?_⟩ | refine ⟨_, _, rfl, .inl (SqL.of upd_same), ?_⟩ | refine ⟨_, _, rfl, .inr (SqT.of upd_same), ?_⟩ | (refine' ⟨_, _, _, _, rfl, rfl, _, _, _⟩; rotate_left 2; (focus (first | assumption | exact SqL.of (by assumption) | exact SqT.of (by assumption) | exact Same.seq (by assumption) (by assumption))); (focus (exact rfl))) | (refine' ⟨_, _, rfl, _, _⟩; rotate_left 1; (focus (first | exact .inl (by assumption) | exact .inl (SqL.of (by assumption)) | exact .inr (by assumption) | exact .inr (SqT.of (by assumption)))))))
      refine ⟨.inl ⟨rfl, _, SqL.of hp⟩, p, _, 0, 0, .int x, rfl, rfl, hp, by decide, by decide, ?_, rfl, ?_⟩
      · rw [List.length_map, List.length_cons]
        unfold seqIndex?
        simp
        try omega
      · exact q x r _ (keep_upd H p _) upd_same (Nat.le_succ _)
theorem ok_BadProgram {P : Program} (htop : (P.main.scope.names.lookup ("super" : Str)).isSome = false) (hms : mg "super" = none) (R : Err P K mg "BadProgram" "BadProgram.__init__" i_BadProgram ["self", "reason"] ["reason"]) : FnOk P w K mg base CX0 1 R.f R.fd ["self", "reason"] (spI1 R.C "reason") := by
  refine R.F.ok (C := R.C) sc_BadProgram R.S hms htop rfl rfl rfl (fun vs H Q E h => ?_) (fun vs H Q E h => ?_) (fun env => rfl) (fun env => rfl) (fun env => rfl) (fun env => rfl) (fun cda cc A outer s H a vr Q E hr h => ?_)
  · obtain ⟨a, v, rfl, _⟩ := h
    rfl
  · obtain ⟨a, v, rfl, hx, _⟩ := h
    exact ⟨a, _, rfl, hx⟩
  · obtain ⟨a', v, e, hx, hv, q⟩ := h
    cases e
    refine ⟨_, _, pa_cons (pe_joined (.cons pe_str (.cons (pe_fmt (pv 1)) .nil))) pa_nil, pss_one (ps_ost (pv 0) (pv 1)), ?_⟩
    rcases hv.two with ⟨y, rfl, hy⟩ | ⟨i, rfl, hi, hd⟩
    · refine ⟨_, rfl, by decide +kernel, _, rfl, .inl ⟨y, rfl, big (by omega), y, rfl, big (Nat.le_trans (len_app (a := 100) (by decide +kernel) hy) (by decide)), (by show 1 ≤ 1000; decide), hx, ?_⟩⟩
      exact ⟨_, rfl, _, rfl, a, R.C, rfl, R.S.ox, R.no _ (by decide +kernel), .inl ⟨hx, fun dx nd ne => fin1 nd ne (q dx)⟩⟩
    · refine ⟨_, rfl, by decide +kernel, _, rfl, .inr ⟨i, rfl, hi, _, rfl, big (Nat.le_trans (len_app (a := 100) (by decide +kernel) hd) (by decide)), (by show 1 ≤ 1000; decide), hx, ?_⟩⟩
      exact ⟨_, rfl, _, rfl, a, R.C, rfl, R.S.ox, R.no _ (by decide +kernel), .inl ⟨hx, fun dx nd ne => fin1 nd ne (q dx)⟩⟩
theorem ok_BadText {P : Program} (htop : (P.main.scope.names.lookup ("super" : Str)).isSome = false) (hms : mg "super" = none) (R : Err P K mg "BadText" "BadText.__init__" i_BadText ["self", "index"] ["index"]) : FnOk P w K mg base CX0 1 R.f R.fd ["self", "index"] (spI1 R.C "index") := by
  refine R.F.ok (C := R.C) sc_BadText R.S hms htop rfl rfl rfl (fun vs H Q E h => ?_) (fun vs H Q E h => ?_) (fun env => rfl) (fun env => rfl) (fun env => rfl) (fun env => rfl) (fun cda cc A outer s H a vr Q E hr h => ?_)
  · obtain ⟨a, v, rfl, _⟩ := h
    rfl
  · obtain ⟨a, v, rfl, hx, _⟩ := h
    exact ⟨a, _, rfl, hx⟩
  · obtain ⟨a', v, e, hx, hv, q⟩ := h
    cases e
    refine ⟨_, _, pa_cons (pe_joined (.cons pe_str (.cons (pe_fmt (pv 1)) .nil))) pa_nil, pss_one (ps_ost (pv 0) (pv 1)), ?_⟩
    rcases hv.two with ⟨y, rfl, hy⟩ | ⟨i, rfl, hi, hd⟩
    · refine ⟨_, rfl, by decide +kernel, _, rfl, .inl ⟨y, rfl, big (by omega), y, rfl, big (Nat.le_trans (len_app (a := 100) (by decide +kernel) hy) (by decide)), (by show 1 ≤ 1000; decide), hx, ?_⟩⟩
      exact ⟨_, rfl, _, rfl, a, R.C, rfl, R.S.ox, R.no _ (by decide +kernel), .inl ⟨hx, fun dx nd ne => fin1 nd ne (q dx)⟩⟩
    · refine ⟨_, rfl, by decide +kernel, _, rfl, .inr ⟨i, rfl, hi, _, rfl, big (Nat.le_trans (len_app (a := 100) (by decide +kernel) hd) (by decide)), (by show 1 ≤ 1000; decide), hx, ?_⟩⟩
      exact ⟨_, rfl, _, rfl, a, R.C, rfl, R.S.ox, R.no _ (by decide +kernel), .inl ⟨hx, fun dx nd ne => fin1 nd ne (q dx)⟩⟩
theorem ok_BadInput {P : Program} (htop : (P.main.scope.names.lookup ("super" : Str)).isSome = false) (hms : mg "super" = none) (R : Err P K mg "BadInput" "BadInput.__init__" i_BadInput ["self"] []) : FnOk P w K mg base CX0 1 R.f R.fd ["self"] (spI0 R.C) := by
  refine R.F.ok (C := R.C) sc_BadInput R.S hms htop rfl rfl rfl (fun vs H Q E h => ?_) (fun vs H Q E h => ?_) (fun env => rfl) (fun env => rfl) (fun env => rfl) (fun env => rfl) (fun cda cc A outer s H a vr Q E hr h => ?_)
  · obtain ⟨a, rfl, _⟩ := h
    rfl
  · obtain ⟨a, rfl, hx, _⟩ := h
    exact ⟨a, _, rfl, hx⟩
  · obtain ⟨a', e, hx, q⟩ := h
    cases e
    refine ⟨_, _, pa_cons pe_str pa_nil, pss_nil, ?_⟩
    exact ⟨(by show 1 ≤ 1000; decide), hx, q⟩
theorem ok_BadCode {P : Program} (htop : (P.main.scope.names.lookup ("super" : Str)).isSome = false) (hms : mg "super" = none) (R : Err P K mg "BadCode" "BadCode.__init__" i_BadCode ["self", "index", "reason"] ["index", "reason"]) : FnOk P w K mg base CX0 1 R.f R.fd ["self", "index", "reason"] (spI2 R.C "index" "reason") := by
  refine R.F.ok (C := R.C) sc_BadCode R.S hms htop rfl rfl rfl (fun vs H Q E h => ?_) (fun vs H Q E h => ?_) (fun env => rfl) (fun env => rfl) (fun env => rfl) (fun env => rfl) (fun cda cc A outer s H a vr Q E hr h => ?_)
  · obtain ⟨a, v, u, rfl, _⟩ := h
    rfl
  · obtain ⟨a, v, u, rfl, hx, _⟩ := h
    exact ⟨a, _, rfl, hx⟩
  · obtain ⟨a', v, u, e, hx, hv, hu, q⟩ := h
    cases e
    refine ⟨_, _, pa_cons (pe_joined (.cons pe_str (.cons (pe_fmt (pv 1)) (.cons pe_str (.cons (pe_fmt (pv 2)) .nil))))) pa_nil, pss_cons (ps_ost (pv 0) (pv 1)) (pss_one (ps_ost (pv 0) (pv 2))), ?_⟩
    rcases hv.two with ⟨y, rfl, hy⟩ | ⟨i, rfl, hi, hd⟩ <;> rcases hu.two with ⟨z, rfl, hz⟩ | ⟨j, rfl, hj, hf⟩
    · refine ⟨_, rfl, by decide +kernel, _, rfl, .inl ⟨y, rfl, big (by omega), y, rfl, big (Nat.le_trans (len_app (a := 100) (by decide +kernel) hy) (by decide)), _, rfl, big (Nat.le_trans (len_app (len_app (a := 100) (b := 1000) (by decide +kernel) hy) (b := 100) (by decide +kernel)) (by decide)), _, rfl, .inl ⟨z, rfl, big (by omega), z, rfl, big (Nat.le_trans (len_app (len_app (len_app (a := 100) (b := 1000) (by decide +kernel) hy) (b := 100) (by decide +kernel)) hz) (by decide)), ?_⟩⟩⟩
      refine ⟨(by show 1 ≤ 1000; decide), hx, ?_⟩
      refine ⟨_, rfl, _, rfl, a, R.C, rfl, R.S.ox, R.no _ (by decide +kernel), .inl ⟨hx, fun dx nd ne => ?_⟩⟩
      refine ⟨_, rfl, _, rfl, a, R.C, rfl, R.S.ox, R.no _ (by decide +kernel), .inr ⟨dx, _, upd_same, by rw [upd_ne ne, upd_same], by show 1 ≤ 900; decide, ?_⟩⟩
      exact fin2 nd ne (q dx)
    · refine ⟨_, rfl, by decide +kernel, _, rfl, .inl ⟨y, rfl, big (by omega), y, rfl, big (Nat.le_trans (len_app (a := 100) (by decide +kernel) hy) (by decide)), _, rfl, big (Nat.le_trans (len_app (len_app (a := 100) (b := 1000) (by decide +kernel) hy) (b := 100) (by decide +kernel)) (by decide)), _, rfl, .inr ⟨j, rfl, hj, _, rfl, big (Nat.le_trans (len_app (len_app (len_app (a := 100) (b := 1000) (by decide +kernel) hy) (b := 100) (by decide +kernel)) hf) (by decide)), ?_⟩⟩⟩
      refine ⟨(by show 1 ≤ 1000; decide), hx, ?_⟩
      refine ⟨_, rfl, _, rfl, a, R.C, rfl, R.S.ox, R.no _ (by decide +kernel), .inl ⟨hx, fun dx nd ne => ?_⟩⟩
      refine ⟨_, rfl, _, rfl, a, R.C, rfl, R.S.ox, R.no _ (by decide +kernel), .inr ⟨dx, _, upd_same, by rw [upd_ne ne, upd_same], by show 1 ≤ 900; decide, ?_⟩⟩
      exact fin2 nd ne (q dx)
    · refine ⟨_, rfl, by decide +kernel, _, rfl, .inr ⟨i, rfl, hi, _, rfl, big (Nat.le_trans (len_app (a := 100) (by decide +kernel) hd) (by decide)), _, rfl, big (Nat.le_trans (len_app (len_app (a := 100) (b := 1000) (by decide +kernel) (Nat.le_trans hd (by decide : 10 ≤ 1000))) (b := 100) (by decide +kernel)) (by decide)), _, rfl, .inl ⟨z, rfl, big (by omega), z, rfl, big (Nat.le_trans (len_app (len_app (len_app (a := 100) (b := 1000) (by decide +kernel) (Nat.le_trans hd (by decide : 10 ≤ 1000))) (b := 100) (by decide +kernel)) hz) (by decide)), ?_⟩⟩⟩
      refine ⟨(by show 1 ≤ 1000; decide), hx, ?_⟩
      refine ⟨_, rfl, _, rfl, a, R.C, rfl, R.S.ox, R.no _ (by decide +kernel), .inl ⟨hx, fun dx nd ne => ?_⟩⟩
      refine ⟨_, rfl, _, rfl, a, R.C, rfl, R.S.ox, R.no _ (by decide +kernel), .inr ⟨dx, _, upd_same, by rw [upd_ne ne, upd_same], by show 1 ≤ 900; decide, ?_⟩⟩
      exact fin2 nd ne (q dx)
    · refine ⟨_, rfl, by decide +kernel, _, rfl, .inr ⟨i, rfl, hi, _, rfl, big (Nat.le_trans (len_app (a := 100) (by decide +kernel) hd) (by decide)), _, rfl, big (Nat.le_trans (len_app (len_app (a := 100) (b := 1000) (by decide +kernel) (Nat.le_trans hd (by decide : 10 ≤ 1000))) (b := 100) (by decide +kernel)) (by decide)), _, rfl, .inr ⟨j, rfl, hj, _, rfl, big (Nat.le_trans (len_app (len_app (len_app (a := 100) (b := 1000) (by decide +kernel) (Nat.le_trans hd (by decide : 10 ≤ 1000))) (b := 100) (by decide +kernel)) hf) (by decide)), ?_⟩⟩⟩
      refine ⟨(by show 1 ≤ 1000; decide), hx, ?_⟩
      refine ⟨_, rfl, _, rfl, a, R.C, rfl, R.S.ox, R.no _ (by decide +kernel), .inl ⟨hx, fun dx nd ne => ?_⟩⟩
      refine ⟨_, rfl, _, rfl, a, R.C, rfl, R.S.ox, R.no _ (by decide +kernel), .inr ⟨dx, _, upd_same, by rw [upd_ne ne, upd_same], by show 1 ≤ 900; decide, ?_⟩⟩
      exact fin2 nd ne (q dx)
theorem ok_BadRun {P : Program} (htop : (P.main.scope.names.lookup ("super" : Str)).isSome = false) (hms : mg "super" = none) (R : Err P K mg "BadRun" "BadRun.__init__" i_BadRun ["self", "reason"] ["reason"]) : FnOk P w K mg base CX0 1 R.f R.fd ["self", "reason"] (spI1 R.C "reason") := by
  refine R.F.ok (C := R.C) sc_BadRun R.S hms htop rfl rfl rfl (fun vs H Q E h => ?_) (fun vs H Q E h => ?_) (fun env => rfl) (fun env => rfl) (fun env => rfl) (fun env => rfl) (fun cda cc A outer s H a vr Q E hr h => ?_)
  · obtain ⟨a, v, rfl, _⟩ := h
    rfl
  · obtain ⟨a, v, rfl, hx, _⟩ := h
    exact ⟨a, _, rfl, hx⟩
  · obtain ⟨a', v, e, hx, hv, q⟩ := h
    cases e
    refine ⟨_, _, pa_cons (pe_joined (.cons pe_str (.cons (pe_fmt (pv 1)) .nil))) pa_nil, pss_one (ps_ost (pv 0) (pv 1)), ?_⟩
    rcases hv.two with ⟨y, rfl, hy⟩ | ⟨i, rfl, hi, hd⟩
    · refine ⟨_, rfl, by decide +kernel, _, rfl, .inl ⟨y, rfl, big (by omega), y, rfl, big (Nat.le_trans (len_app (a := 100) (by decide +kernel) hy) (by decide)), (by show 1 ≤ 1000; decide), hx, ?_⟩⟩
      exact ⟨_, rfl, _, rfl, a, R.C, rfl, R.S.ox, R.no _ (by decide +kernel), .inl ⟨hx, fun dx nd ne => fin1 nd ne (q dx)⟩⟩
    · refine ⟨_, rfl, by decide +kernel, _, rfl, .inr ⟨i, rfl, hi, _, rfl, big (Nat.le_trans (len_app (a := 100) (by decide +kernel) hd) (by decide)), (by show 1 ≤ 1000; decide), hx, ?_⟩⟩
      exact ⟨_, rfl, _, rfl, a, R.C, rfl, R.S.ox, R.no _ (by decide +kernel), .inl ⟨hx, fun dx nd ne => fin1 nd ne (q dx)⟩⟩
theorem ok_BadScript {P : Program} (htop : (P.main.scope.names.lookup ("super" : Str)).isSome = false) (hms : mg "super" = none) (R : Err P K mg "BadScript" "BadScript.__init__" i_BadScript ["self", "line", "reason"] ["line", "reason"]) : FnOk P w K mg base CX0 1 R.f R.fd ["self", "line", "reason"] (spI2 R.C "line" "reason") := by
  refine R.F.ok (C := R.C) sc_BadScript R.S hms htop rfl rfl rfl (fun vs H Q E h => ?_) (fun vs H Q E h => ?_) (fun env => rfl) (fun env => rfl) (fun env => rfl) (fun env => rfl) (fun cda cc A outer s H a vr Q E hr h => ?_)
  · obtain ⟨a, v, u, rfl, _⟩ := h
    rfl
  · obtain ⟨a, v, u, rfl, hx, _⟩ := h
    exact ⟨a, _, rfl, hx⟩
  · obtain ⟨a', v, u, e, hx, hv, hu, q⟩ := h
    cases e
    refine ⟨_, _, pa_cons (pe_joined (.cons pe_str (.cons (pe_fmt (pv 1)) (.cons pe_str (.cons (pe_fmt (pv 2)) .nil))))) pa_nil, pss_cons (ps_ost (pv 0) (pv 1)) (pss_one (ps_ost (pv 0) (pv 2))), ?_⟩
    rcases hv.two with ⟨y, rfl, hy⟩ | ⟨i, rfl, hi, hd⟩ <;> rcases hu.two with ⟨z, rfl, hz⟩ | ⟨j, rfl, hj, hf⟩
    · refine ⟨_, rfl, by decide +kernel, _, rfl, .inl ⟨y, rfl, big (by omega), y, rfl, big (Nat.le_trans (len_app (a := 100) (by decide +kernel) hy) (by decide)), _, rfl, big (Nat.le_trans (len_app (len_app (a := 100) (b := 1000) (by decide +kernel) hy) (b := 100) (by decide +kernel)) (by decide)), _, rfl, .inl ⟨z, rfl, big (by omega), z, rfl, big (Nat.le_trans (len_app (len_app (len_app (a := 100) (b := 1000) (by decide +kernel) hy) (b := 100) (by decide +kernel)) hz) (by decide)), ?_⟩⟩⟩
      refine ⟨(by show 1 ≤ 1000; decide), hx, ?_⟩
      refine ⟨_, rfl, _, rfl, a, R.C, rfl, R.S.ox, R.no _ (by decide +kernel), .inl ⟨hx, fun dx nd ne => ?_⟩⟩
      refine ⟨_, rfl, _, rfl, a, R.C, rfl, R.S.ox, R.no _ (by decide +kernel), .inr ⟨dx, _, upd_same, by rw [upd_ne ne, upd_same], by show 1 ≤ 900; decide, ?_⟩⟩
      exact fin2 nd ne (q dx)
    · refine ⟨_, rfl, by decide +kernel, _, rfl, .inl ⟨y, rfl, big (by omega), y, rfl, big (Nat.le_trans (len_app (a := 100) (by decide +kernel) hy) (by decide)), _, rfl, big (Nat.le_trans (len_app (len_app (a := 100) (b := 1000) (by decide +kernel) hy) (b := 100) (by decide +kernel)) (by decide)), _, rfl, .inr ⟨j, rfl, hj, _, rfl, big (Nat.le_trans (len_app (len_app (len_app (a := 100) (b := 1000) (by decide +kernel) hy) (b := 100) (by decide +kernel)) hf) (by decide)), ?_⟩⟩⟩
      refine ⟨(by show 1 ≤ 1000; decide), hx, ?_⟩
      refine ⟨_, rfl, _, rfl, a, R.C, rfl, R.S.ox, R.no _ (by decide +kernel), .inl ⟨hx, fun dx nd ne => ?_⟩⟩
      refine ⟨_, rfl, _, rfl, a, R.C, rfl, R.S.ox, R.no _ (by decide +kernel), .inr ⟨dx, _, upd_same, by rw [upd_ne ne, upd_same], by show 1 ≤ 900; decide, ?_⟩⟩
      exact fin2 nd ne (q dx)
    · refine ⟨_, rfl, by decide +kernel, _, rfl, .inr ⟨i, rfl, hi, _, rfl, big (Nat.le_trans (len_app (a := 100) (by decide +kernel) hd) (by decide)), _, rfl, big (Nat.le_trans (len_app (len_app (a := 100) (b := 1000) (by decide +kernel) (Nat.le_trans hd (by decide : 10 ≤ 1000))) (b := 100) (by decide +kernel)) (by decide)), _, rfl, .inl ⟨z, rfl, big (by omega), z, rfl, big (Nat.le_trans (len_app (len_app (len_app (a := 100) (b := 1000) (by decide +kernel) (Nat.le_trans hd (by decide : 10 ≤ 1000))) (b := 100) (by decide +kernel)) hz) (by decide)), ?_⟩⟩⟩
      refine ⟨(by show 1 ≤ 1000; decide), hx, ?_⟩
      refine ⟨_, rfl, _, rfl, a, R.C, rfl, R.S.ox, R.no _ (by decide +kernel), .inl ⟨hx, fun dx nd ne => ?_⟩⟩
      refine ⟨_, rfl, _, rfl, a, R.C, rfl, R.S.ox, R.no _ (by decide +kernel), .inr ⟨dx, _, upd_same, by rw [upd_ne ne, upd_same], by show 1 ≤ 900; decide, ?_⟩⟩
      exact fin2 nd ne (q dx)
    · refine ⟨_, rfl, by decide +kernel, _, rfl, .inr ⟨i, rfl, hi, _, rfl, big (Nat.le_trans (len_app (a := 100) (by decide +kernel) hd) (by decide)), _, rfl, big (Nat.le_trans (len_app (len_app (a := 100) (b := 1000) (by decide +kernel) (Nat.le_trans hd (by decide : 10 ≤ 1000))) (b := 100) (by decide +kernel)) (by decide)), _, rfl, .inr ⟨j, rfl, hj, _, rfl, big (Nat.le_trans (len_app (len_app (len_app (a := 100) (b := 1000) (by decide +kernel) (Nat.le_trans hd (by decide : 10 ≤ 1000))) (b := 100) (by decide +kernel)) hf) (by decide)), ?_⟩⟩⟩
      refine ⟨(by show 1 ≤ 1000; decide), hx, ?_⟩
      refine ⟨_, rfl, _, rfl, a, R.C, rfl, R.S.ox, R.no _ (by decide +kernel), .inl ⟨hx, fun dx nd ne => ?_⟩⟩
      refine ⟨_, rfl, _, rfl, a, R.C, rfl, R.S.ox, R.no _ (by decide +kernel), .inr ⟨dx, _, upd_same, by rw [upd_ne ne, upd_same], by show 1 ≤ 900; decide, ?_⟩⟩
      exact fin2 nd ne (q dx)

theorem same_mk {H H' : Hp} {a : Addr} {o : HO} (n : H a = none) (k : ∀ b u, b ≠ a → upd H a o b = some u → H' b = some u) : Same H H' := fun b u e => k b u (ne_of_none e n) (by rw [upd_ne (ne_of_none e n)]; exact e)
theorem iteF' {b : Bool} {A B : Prop} (e : b = false) (h : B) : if b = true then A else B := by
  rw [e]
  exact h
theorem iteT' {b : Bool} {A B : Prop} (e : b = true) (h : A) : if b = true then A else B := by
  rw [e]
  exact h
def spLaw (K : PySem.W.Frag) : Sp := fun vs H Q _ => ∃ (a : Addr) (ns : List Int), vs = [.ref a] ∧ SqL K H a (ns.map V.int) ∧ ns.length ≤ 63 ∧ ∀ H', Q (.bl true) H'
theorem six (v : Int) : ∃ r : Str, atI [V.str "shape", .str "name", .str "type", .str "flow", .str "range", .str "work"] (v % 6) = some (.str r) ∧ r.length ≤ 1000 := by
  obtain h | h | h | h | h | h : v % 6 = 0 ∨ v % 6 = 1 ∨ v % 6 = 2 ∨ v % 6 = 3 ∨ v % 6 = 4 ∨ v % 6 = 5 := by omega
  all_goals
    rw [h]
    exact ⟨_, rfl, by decide +kernel⟩
theorem say_mod (v : Int) (m : Int) (h : 0 < m) (h2 : m ≤ 10 ^ 10) : Say (.int (v % m)) := by
  show 0 ≤ v % m ∧ v % m < 10 ^ 10
  exact ⟨Int.emod_nonneg _ (by omega), Int.lt_of_lt_of_le (Int.emod_lt_of_pos _ h) h2⟩
end
section
variable {w : World} {K : PySem.W.Frag} {mg : Str → Option Value} {base : Heap}
theorem ok_law' (T : Tx PySem.Challenge.rw_quietsmith_k00_errors.prog K mg) {f : Addr} {fd : FuncData} (F : Fun K "law" "law" s_law f fd) : FnOk PySem.Challenge.rw_quietsmith_k00_errors.prog w K mg base CX0 3 f fd ["script"] (spLaw K) := by
  have htop : (PySem.Challenge.rw_quietsmith_k00_errors.prog.main.scope.names.lookup ("super" : Str)).isSome = false := by decide +kernel
  have G_law_draws : FnOk PySem.Challenge.rw_quietsmith_k00_errors.prog w K mg base CX0 1 T.a_law_draws T.d_law_draws ["script", "start", "most"] (spDraws K) := ok_draws T
  have G_law_next : FnOk PySem.Challenge.rw_quietsmith_k00_errors.prog w K mg base CX0 1 T.a_law_next T.d_law_next ["draws"] spNext := ok_next T
  have G_BadProgram := ok_BadProgram (w := w) (base := base) htop T.z_super T.E_BadProgram
  have G_BadText := ok_BadText (w := w) (base := base) htop T.z_super T.E_BadText
  have G_BadInput := ok_BadInput (w := w) (base := base) htop T.z_super T.E_BadInput
  have G_BadCode := ok_BadCode (w := w) (base := base) htop T.z_super T.E_BadCode
  have G_BadRun := ok_BadRun (w := w) (base := base) htop T.z_super T.E_BadRun
  have G_BadScript := ok_BadScript (w := w) (base := base) htop T.z_super T.E_BadScript
  refine F.ok sc_law (fun vs H Q E h => ?_) (fun cdv A outer s H vs Q E hr h => ?_)
  · obtain ⟨a, ns, rfl, _⟩ := h
    rfl
  · obtain ⟨a, ns, rfl, hS, hlen, q⟩ := h
    have hr_law_draws : Room 1 _ := hr.mono (by decide)
    have hr_law_next : Room 1 _ := hr.mono (by decide)
    have hr_BadProgram : Room 2 _ := hr
    have hr_BadText : Room 2 _ := hr
    have hr_BadInput : Room 2 _ := hr
    have hr_BadCode : Room 2 _ := hr
    have hr_BadRun : Room 2 _ := hr
    have hr_BadScript : Room 2 _ := hr
    refine ⟨_, (pss_cons (ps_set (i := 1) sc_law.nd rfl (.inl rfl) (pe_call G_law_draws hr_law_draws (by rfl) T.g_law_draws T.F_law_draws.kp T.b_law_draws .nil pass0 (pa_cons (pv 0) (pa_cons pe_int (pa_cons pe_int pa_nil)))))
        (pss_cons (ps_set (i := 2) sc_law.nd rfl (.inl rfl) (pe_ix ix_list (pe_lst (pa_cons pe_str (pa_cons pe_str (pa_cons pe_str (pa_cons pe_str (pa_cons pe_str (pa_cons pe_str pa_nil))))))) (pe_op op_mod (pe_call G_law_next hr_law_next (by rfl) T.g_law_next T.F_law_next.kp T.b_law_next .nil pass0 (pa_cons (pv 1) pa_nil)) pe_int) (fun _ _ => rfl)))
        (pss_cons (ps_set (i := 3) sc_law.nd rfl (.inl rfl) (pe_op op_mod (pe_call G_law_next hr_law_next (by rfl) T.g_law_next T.F_law_next.kp T.b_law_next .nil pass0 (pa_cons (pv 1) pa_nil)) pe_int))
        (pss_cons (ps_set (i := 4) sc_law.nd rfl (.inl rfl) (pe_op op_mod (pe_call G_law_next hr_law_next (by rfl) T.g_law_next T.F_law_next.kp T.b_law_next .nil pass0 (pa_cons (pv 1) pa_nil)) pe_int))
        (pss_cons (ps_set (i := 5) sc_law.nd rfl (.inl rfl) (pe_lst (pa_cons (pe_exo T.E_BadProgram.S.ox T.E_BadProgram.ini T.E_BadProgram.tI G_BadProgram hr_BadProgram T.E_BadProgram.b pass0 (by rfl) T.E_BadProgram.g (pa_cons (pv 2) pa_nil)) (pa_cons (pe_exo T.E_BadText.S.ox T.E_BadText.ini T.E_BadText.tI G_BadText hr_BadText T.E_BadText.b pass0 (by rfl) T.E_BadText.g (pa_cons (pv 3) pa_nil)) (pa_cons (pe_exo0 T.E_BadInput.S.ox T.E_BadInput.ini T.E_BadInput.tI G_BadInput hr_BadInput T.E_BadInput.b pass0 (by rfl) T.E_BadInput.g) (pa_cons (pe_exo T.E_BadCode.S.ox T.E_BadCode.ini T.E_BadCode.tI G_BadCode hr_BadCode T.E_BadCode.b pass0 (by rfl) T.E_BadCode.g (pa_cons (pv 3) (pa_cons (pv 2) pa_nil))) (pa_cons (pe_exo T.E_BadRun.S.ox T.E_BadRun.ini T.E_BadRun.tI G_BadRun hr_BadRun T.E_BadRun.b pass0 (by rfl) T.E_BadRun.g (pa_cons (pv 2) pa_nil)) (pa_cons (pe_exo T.E_BadScript.S.ox T.E_BadScript.ini T.E_BadScript.tI G_BadScript hr_BadScript T.E_BadScript.b pass0 (by rfl) T.E_BadScript.g (pa_cons (pv 4) (pa_cons (pv 2) pa_nil))) pa_nil))))))))
        (pss_cons (ps_for PassesOwn.never rfl (pi_range1 rfl T.z_range (pa_cons pe_int pa_nil)) (pg_name (i := 6) sc_law.nd rfl (.inr rfl))
        (pss_cons (ps_set (i := 7) sc_law.nd rfl (.inl rfl) (pe_ix ix_list (pv 5) (pv 6) (fun _ _ => rfl)))
        (pss_cons (ps_set (i := 8) sc_law.nd rfl (.inl rfl) (pe_lst (pa_cons (pe_callB call_isX (by rfl) T.z_isinstance (by decide +kernel) (pa_cons (pv 7) (pa_cons (pe_glob (v := .ref T.E_BadProgram.C) rfl T.E_BadProgram.g rfl) pa_nil))) (pa_cons (pe_callB call_isX (by rfl) T.z_isinstance (by decide +kernel) (pa_cons (pv 7) (pa_cons (pe_glob (v := .ref T.E_BadText.C) rfl T.E_BadText.g rfl) pa_nil))) (pa_cons (pe_callB call_isX (by rfl) T.z_isinstance (by decide +kernel) (pa_cons (pv 7) (pa_cons (pe_glob (v := .ref T.E_BadInput.C) rfl T.E_BadInput.g rfl) pa_nil))) (pa_cons (pe_callB call_isX (by rfl) T.z_isinstance (by decide +kernel) (pa_cons (pv 7) (pa_cons (pe_glob (v := .ref T.E_BadCode.C) rfl T.E_BadCode.g rfl) pa_nil))) pa_nil))))))
        (pss_cons (ps_set (i := 8) sc_law.nd rfl (.inl rfl) (pe_op op_cat (pv 8) (pe_lst (pa_cons (pe_callB call_isX (by rfl) T.z_isinstance (by decide +kernel) (pa_cons (pv 7) (pa_cons (pe_glob (v := .ref T.E_BadRun.C) rfl T.E_BadRun.g rfl) pa_nil))) (pa_cons (pe_callB call_isX (by rfl) T.z_isinstance (by decide +kernel) (pa_cons (pv 7) (pa_cons (pe_glob (v := .ref T.E_BadScript.C) rfl T.E_BadScript.g rfl) pa_nil))) pa_nil)))))
        (pss_one (ps_if (PW.pt (pw_or (pt_cmpR (op_neD hr.units) (pv 8) (pe_lc (own := [("at", 9)]) (g := gName 9) rfl sc_law.nd (pi_range1 rfl T.z_range (pa_cons pe_int pa_nil)) (blkOk_by (N := n_law) (sc := defScope s_law) (by decide +kernel)) (fun _ _ _ _ _ => pg_name (i := 9) sc_law.nd rfl (Or.inl rfl)) (fun _ _ _ _ _ => pts_nil) (fun _ _ _ _ _ => (pe_cmpR op_eq (pv 9) (pv 6) (nomark _)))) (nomark _)) (pw_or (pt_not (pt_val (pe_callB call_isX (by rfl) T.z_isinstance (by decide +kernel) (pa_cons (pv 7) (pa_cons (pe_glob (v := .ref T.c_QuietError) rfl T.g_QuietError rfl) pa_nil))))) (pw_or1 (pt_not (pt_val (pe_callB call_isX (by rfl) T.z_isinstance (by decide +kernel) (pa_cons (pv 7) (pa_cons (pe_bltn (v := .ty "ValueError") (u := .type "ValueError") (by rfl) T.z_ValueError (by decide +kernel) rfl) pa_nil)))))))))
        (pss_one (ps_ret pe_bl))
        pss_nil))))))
        (pss_cons (ps_if (PW.pt (pw_or (pt_cmpR op_ne (pe_fx (pe_ix ix_list (pv 5) pe_int (fun _ _ => rfl))) (pv 2) (nomark _)) (pw_or (pt_cmpR op_ne (pe_fx (pe_ix ix_list (pv 5) pe_int (fun _ _ => rfl))) (pv 3) (nomark _)) (pw_or (pt_cmpR op_ne (pe_fx (pe_ix ix_list (pv 5) pe_int (fun _ _ => rfl))) (pv 3) (nomark _)) (pw_or1 (pt_cmpR op_ne (pe_fx (pe_ix ix_list (pv 5) pe_int (fun _ _ => rfl))) (pv 2) (nomark _)))))))
        (pss_one (ps_ret pe_bl))
        pss_nil)
        (pss_one (ps_ret (pe_and (pe_cmpR op_eq (pe_fx (pe_ix ix_list (pv 5) pe_int (fun _ _ => rfl))) (pv 2) (nomark _)) (pe_and (pe_cmpR op_eq (pe_fx (pe_ix ix_list (pv 5) pe_int (fun _ _ => rfl))) (pv 4) (nomark _)) (pe_one (pe_cmpR op_eq (pe_fx (pe_ix ix_list (pv 5) pe_int (fun _ _ => rfl))) (pv 2) (nomark _)))))))))))))), ?_⟩
    refine ⟨_, rfl, a, ns, 0, 6, rfl, hS, hlen, fun p ds H1 s1 hn1 hp1 el1 => ?_⟩
    refine ⟨by decide, fun t ht => ?_⟩
    refine ⟨_, rfl, p, ds, rfl, by rw [upd_ne (ne_of_none hp1 ht)]; exact hp1, el1, fun v2 es2 H2 k2 hp2 el2 => ?_⟩
    have ht2 := k2 t _ (ne_of_none hp1 ht).symm upd_same
    obtain ⟨r, hr1, hr2⟩ := six v2
    refine ⟨_, _, rfl, rfl, (by show (0 : Int) < _; decide), ?_⟩
    refine ⟨t, _, _, _, rfl, rfl, SqL.of ht2, hr1, ?_⟩
    refine ⟨_, rfl, p, es2, rfl, hp2, by omega, fun v3 es3 H3 k3 hp3 el3 => ?_⟩
    refine ⟨_, _, rfl, rfl, (by show (0 : Int) < _; decide), ?_⟩
    refine ⟨_, rfl, p, es3, rfl, hp3, by omega, fun v4 es4 H4 k4 hp4 el4 => ?_⟩
    refine ⟨_, _, rfl, rfl, (by show (0 : Int) < _; decide), ?_⟩
    have sr : Say (.str r) := hr2
    have si : Say (.int (v3 % 8001)) := say_mod _ _ (by decide) (by decide)
    have sl : Say (.int (v4 % 1000)) := say_mod _ _ (by decide) (by decide)
    refine ⟨_, rfl, by show 1 ≤ 1000; decide, fun e0 n0 => ⟨e0, _, rfl, upd_same, sr, fun d0 J0 nd0 kp0 he0 hd0 => ⟨rfl, ?_⟩⟩⟩
    refine ⟨_, rfl, by show 1 ≤ 1000; decide, fun e1 n1 => ⟨e1, _, rfl, upd_same, si, fun d1 J1 nd1 kp1 he1 hd1 => ⟨rfl, ?_⟩⟩⟩
    refine ⟨by show 0 ≤ 1000; decide, fun e2 n2 => ⟨e2, rfl, upd_same, rfl, ?_⟩⟩
    refine ⟨_, rfl, _, rfl, by show 2 ≤ 1000; decide, fun e3 n3 => ⟨e3, _, _, rfl, upd_same, si, sr, fun d3 J3 nd3 kp3 he3 hd3 => ⟨rfl, ?_⟩⟩⟩
    refine ⟨_, rfl, by show 1 ≤ 1000; decide, fun e4 n4 => ⟨e4, _, rfl, upd_same, sr, fun d4 J4 nd4 kp4 he4 hd4 => ⟨rfl, ?_⟩⟩⟩
    refine ⟨_, rfl, _, rfl, by show 2 ≤ 1000; decide, fun e5 n5 => ⟨e5, _, _, rfl, upd_same, sl, sr, fun d5 J5 nd5 kp5 he5 hd5 => ⟨rfl, ?_⟩⟩⟩
    refine ⟨by show 6 ≤ _; decide, fun l nl => ?_⟩
    have w1 : Same J0 J1 := same_mk n1 kp1
    have w2 : Same J1 (upd J1 e2 (exo e2 T.E_BadInput.C none)) := same_upd n2
    have w3 := same_mk n3 kp3
    have w4 := same_mk n4 kp4
    have w5 := same_mk n5 kp5
    have w6 : Same J5 (upd J5 l (.lst [.ref e0, .ref e1, .ref e2, .ref e3, .ref e4, .ref e5])) := same_upd nl
    have x5 := w6
    have x4 := w5.trans x5
    have x3 := w4.trans x4
    have x2 := w3.trans x3
    have x1 := w2.trans x2
    have x0 := w1.trans x1
    have he0 := x0 _ _ he0
    have hd0 := x0 _ _ hd0
    have he1 := x1 _ _ he1
    have hd1 := x1 _ _ hd1
    have he2 := x2 _ _ (upd_same (H := J1) (a := e2) (o := exo e2 T.E_BadInput.C none))
    have he3 := x3 _ _ he3
    have hd3 := x3 _ _ hd3
    have he4 := x4 _ _ he4
    have hd4 := x4 _ _ hd4
    have he5 := x5 _ _ he5
    have hd5 := x5 _ _ hd5
    have hl9 : upd J5 l (.lst [.ref e0, .ref e1, .ref e2, .ref e3, .ref e4, .ref e5]) l = some (.lst [.ref e0, .ref e1, .ref e2, .ref e3, .ref e4, .ref e5]) := upd_same
    generalize upd J5 l (.lst [.ref e0, .ref e1, .ref e2, .ref e3, .ref e4, .ref e5]) = G at *
    have one : ∀ k : Nat, k < 6 → ∃ e C, atI [V.ref e0, .ref e1, .ref e2, .ref e3, .ref e4, .ref e5] (0 + (k : Int)) = some (.ref e) ∧ Held G e C ∧ IsC K C ∧ C = [T.E_BadProgram.C, T.E_BadText.C, T.E_BadInput.C, T.E_BadCode.C, T.E_BadRun.C, T.E_BadScript.C].getD k 0 := by
      intro k hk
      obtain rfl | rfl | rfl | rfl | rfl | rfl : k = 0 ∨ k = 1 ∨ k = 2 ∨ k = 3 ∨ k = 4 ∨ k = 5 := by omega
      · exact ⟨e0, _, rfl, .inr ⟨_, _, he0, hd0⟩, T.E_BadProgram.T, rfl⟩
      · exact ⟨e1, _, rfl, .inr ⟨_, _, he1, hd1⟩, T.E_BadText.T, rfl⟩
      · exact ⟨e2, _, rfl, .inl he2, T.E_BadInput.T, rfl⟩
      · exact ⟨e3, _, rfl, .inr ⟨_, _, he3, hd3⟩, T.E_BadCode.T, rfl⟩
      · exact ⟨e4, _, rfl, .inr ⟨_, _, he4, hd4⟩, T.E_BadRun.T, rfl⟩
      · exact ⟨e5, _, rfl, .inr ⟨_, _, he5, hd5⟩, T.E_BadScript.T, rfl⟩
    refine ⟨6, rfl, by decide, by decide, for_range (lo := 0) (n := 6) (fun k σ H' => ∃ v6 v7 v8 : Option V, σ = [some (.ref a), some (.ref p), some (.str r), some (.int (v3 % 8001)), some (.int (v4 % 1000)), some (.ref l), v6, v7, v8, none] ∧ Same G H')
      ⟨_, _, _, rfl, fun _ _ z => z⟩ ?_ ?_⟩
    · rintro k σ H' hk ⟨v6, v7, v8, rfl, sH⟩
      obtain ⟨e, C, at1, hE, hI, hC⟩ := one k hk
      obtain ⟨kV, kQ, kJ⟩ := isB_of T.kit (i := k) hk
      rw [← hC] at kV kQ kJ
      have c0 := kJ 0 (by show 0 < 6; decide)
      have c1 := kJ 1 (by show 1 < 6; decide)
      have c2 := kJ 2 (by show 2 < 6; decide)
      have c3 := kJ 3 (by show 3 < 6; decide)
      have c4 := kJ 4 (by show 4 < 6; decide)
      have c5 := kJ 5 (by show 5 < 6; decide)
      have hld : ∀ H2, Same G H2 → Held H2 e C := fun H2 z => by
        rcases hE with h | ⟨dx, fs, h, hd⟩
        · exact .inl (z _ _ h)
        · exact .inr ⟨dx, fs, z _ _ h, z _ _ hd⟩
      refine ⟨_, rfl, _, rfl, l, _, _, _, rfl, rfl, SqL.of (sH _ _ hl9), at1, ?_⟩
      refine ⟨_, rfl, e, C, _, _, _, rfl, hld _ sH, hI, .own _, c0, ?_⟩
      refine ⟨_, rfl, e, C, _, _, _, rfl, hld _ sH, hI, .own _, c1, ?_⟩
      refine ⟨_, rfl, e, C, _, _, _, rfl, hld _ sH, hI, .own _, c2, ?_⟩
      refine ⟨_, rfl, e, C, _, _, _, rfl, hld _ sH, hI, .own _, c3, ?_⟩
      refine ⟨by show 4 ≤ _; decide, fun r1 nr1 => ?_⟩
      have s1 := sH.trans (same_upd (o := .lst [.bl (decide (k = 0)), .bl (decide (k = 1)), .bl (decide (k = 2)), .bl (decide (k = 3))]) nr1)
      refine ⟨_, rfl, ?_⟩
      refine ⟨_, rfl, e, C, _, _, _, rfl, hld _ s1, hI, .own _, c4, ?_⟩
      refine ⟨_, rfl, e, C, _, _, _, rfl, hld _ s1, hI, .own _, c5, ?_⟩
      refine ⟨by show 2 ≤ _; decide, fun r2 nr2 => ?_⟩
      have s2 := s1.trans (same_upd (o := .lst [.bl (decide (k = 4)), .bl (decide (k = 5))]) nr2)
      refine ⟨r1, r2, _, _, rfl, rfl, by rw [upd_ne (ne_of_none upd_same nr2), upd_same], upd_same, by show 4 + 2 ≤ _; decide, fun r3 nr3 => ?_⟩
      have s3 := s2.trans (same_upd (o := .lst ([.bl (decide (k = 0)), .bl (decide (k = 1)), .bl (decide (k = 2)), .bl (decide (k = 3))] ++ [.bl (decide (k = 4)), .bl (decide (k = 5))])) nr3)
      have hr3 : upd (upd (upd H' r1 (.lst [.bl (decide (k = 0)), .bl (decide (k = 1)), .bl (decide (k = 2)), .bl (decide (k = 3))])) r2 (.lst [.bl (decide (k = 4)), .bl (decide (k = 5))])) r3 (.lst ([.bl (decide (k = 0)), .bl (decide (k = 1)), .bl (decide (k = 2)), .bl (decide (k = 3))] ++ [.bl (decide (k = 4)), .bl (decide (k = 5))])) r3 = some (.lst ([.bl (decide (k = 0)), .bl (decide (k = 1)), .bl (decide (k = 2)), .bl (decide (k = 3))] ++ [.bl (decide (k = 4)), .bl (decide (k = 5))])) := upd_same
      refine ⟨_, rfl, 6, rfl, by decide, by decide, fun D nD => lc_range (lo := 0) (n := 6) (fun i H2 => Same (upd (upd (upd H' r1 (.lst [.bl (decide (k = 0)), .bl (decide (k = 1)), .bl (decide (k = 2)), .bl (decide (k = 3))])) r2 (.lst [.bl (decide (k = 4)), .bl (decide (k = 5))])) r3 (.lst ([.bl (decide (k = 0)), .bl (decide (k = 1)), .bl (decide (k = 2)), .bl (decide (k = 3))] ++ [.bl (decide (k = 4)), .bl (decide (k = 5))]))) H2 ∧
          H2 D = some (.lst ((List.range i).map fun (j : Nat) => V.bl (decide (V.int (0 + (j : Int)) = V.int (0 + (k : Int))))))) ⟨same_upd nD, upd_same⟩ ?_ ?_⟩
      · rintro i H2 hi ⟨sI, hD⟩
        refine ⟨rfl, ?_⟩
        refine ⟨_, rfl, _, rfl, rfl, _, hD, by rw [List.length_map, List.length_range]; show i < _; exact Nat.lt_trans hi (by decide), fun b o hb => ?_, ?_⟩
        · rw [upd_ne (ne_of_none hb nD)]
          exact sI _ _ hb
        · rw [upd_same, List.range_succ, List.map_append]
          rfl
      · rintro H2 ⟨sI, hD⟩
        have s4 := s3.trans sI
        have eqv : PyData.eqv (.list [.bool (decide (k = 0)), .bool (decide (k = 1)), .bool (decide (k = 2)), .bool (decide (k = 3)), .bool (decide (k = 4)), .bool (decide (k = 5))]) (.list ((List.range 6).map fun (j : Nat) => PyData.bool (decide (V.int (0 + (j : Int)) = V.int (0 + (k : Int)))))) = true := by
          obtain rfl | rfl | rfl | rfl | rfl | rfl : k = 0 ∨ k = 1 ∨ k = 2 ∨ k = 3 ∨ k = 4 ∨ k = 5 := by omega
          all_goals decide +kernel
        refine ⟨_, _, .lst (SqL.of (sI _ _ hr3)) (.cons (.bl _) (.cons (.bl _) (.cons (.bl _) (.cons (.bl _) (.cons (.bl _) (.cons (.bl _) .nil)))))), .lst (SqL.of hD) (.cons (.bl _) (.cons (.bl _) (.cons (.bl _) (.cons (.bl _) (.cons (.bl _) (.cons (.bl _) .nil)))))), rfl, rfl, _, rfl, ?_⟩
        refine iteF' (by rw [Bool.not_eq_false']; exact eqv) ?_
        refine ⟨_, rfl, e, C, _, _, _, rfl, hld _ s4, hI, .own _, kQ, _, rfl, iteF' (by rfl) ?_⟩
        refine ⟨_, rfl, e, C, _, _, _, rfl, hld _ s4, hI, .ty "ValueError", kV, _, rfl, iteF' (by rfl) ?_⟩
        exact ⟨_, _, _, rfl, s4⟩
    · rintro σ H' ⟨v6, v7, v8, rfl, sH⟩
      refine ⟨_, rfl, l, _, _, _, rfl, rfl, SqL.of (sH _ _ hl9), rfl, e0, _, d0, _, _, rfl, T.E_BadProgram.T, T.E_BadProgram.no _ (by decide +kernel), sH _ _ he0, sH _ _ hd0, rfl, _, rfl, rfl, _, rfl, iteF' (by simp) ?_⟩
      refine ⟨_, rfl, l, _, _, _, rfl, rfl, SqL.of (sH _ _ hl9), rfl, e1, _, d1, _, _, rfl, T.E_BadText.T, T.E_BadText.no _ (by decide +kernel), sH _ _ he1, sH _ _ hd1, rfl, _, rfl, rfl, _, rfl, iteF' (by simp) ?_⟩
      refine ⟨_, rfl, l, _, _, _, rfl, rfl, SqL.of (sH _ _ hl9), rfl, e3, _, d3, _, _, rfl, T.E_BadCode.T, T.E_BadCode.no _ (by decide +kernel), sH _ _ he3, sH _ _ hd3, rfl, _, rfl, rfl, _, rfl, iteF' (by simp) ?_⟩
      refine ⟨_, rfl, l, _, _, _, rfl, rfl, SqL.of (sH _ _ hl9), rfl, e3, _, d3, _, _, rfl, T.E_BadCode.T, T.E_BadCode.no _ (by decide +kernel), sH _ _ he3, sH _ _ hd3, rfl, _, rfl, rfl, _, rfl, iteF' (by simp) ?_⟩
      refine ⟨_, rfl, l, _, _, _, rfl, rfl, SqL.of (sH _ _ hl9), rfl, e4, _, d4, _, _, rfl, T.E_BadRun.T, T.E_BadRun.no _ (by decide +kernel), sH _ _ he4, sH _ _ hd4, rfl, _, rfl, rfl, _, rfl, iteT' (by simp) ?_⟩
      refine ⟨_, rfl, l, _, _, _, rfl, rfl, SqL.of (sH _ _ hl9), rfl, e5, _, d5, _, _, rfl, T.E_BadScript.T, T.E_BadScript.no _ (by decide +kernel), sH _ _ he5, sH _ _ hd5, rfl, _, rfl, rfl, _, rfl, iteT' (by simp) ?_⟩
      refine ⟨_, rfl, l, _, _, _, rfl, rfl, SqL.of (sH _ _ hl9), rfl, e5, _, d5, _, _, rfl, T.E_BadScript.T, T.E_BadScript.no _ (by decide +kernel), sH _ _ he5, sH _ _ hd5, rfl, _, rfl, rfl, ?_⟩
      rw [decide_eq_true rfl]
      exact q _
end
theorem all_mk {w : World} {K : PySem.W.Frag} {h : Heap} {mg : Str → Option Value} {fa : Addr} (X : K.In h) (G : h.Ns mainGlobals mg) (hfa : mg "law" = some (.ref fa))
    {f1 : Addr} {od1 an1 : Option Addr} {sl1 : Array (Option Value)} {oc1 kV1 dc1 pm1 cd1 ct1 : Value}
    {f2 : Addr} {od2 an2 : Option Addr} {sl2 : Array (Option Value)} {oc2 kV2 dc2 pm2 cd2 ct2 : Value}
    {f3 : Addr} {od3 an3 : Option Addr} {sl3 : Array (Option Value)} {oc3 kV3 dc3 pm3 cd3 ct3 : Value}
    {cQ : Addr}
    {CBadProgram fBadProgram cdBadProgram ccBadProgram : Addr} {nmBadProgram qqBadProgram : Str} {NBadProgram : Addr} {bsBadProgram subBadProgram : List Value} {snBadProgram : List Str} {abBadProgram : Bool} {colBadProgram : Option Bool} {ddBadProgram odBadProgram anBadProgram cddBadProgram cldBadProgram : Option Addr} {m0BadProgram m1BadProgram m2BadProgram m3BadProgram m5BadProgram : Option Value} {ocBadProgram kVBadProgram dcBadProgram pmBadProgram ctBadProgram clBadProgram cmBadProgram : Value} {slBadProgram ccsBadProgram cslBadProgram : Array (Option Value)} {vsBadProgram : Array Value} {fileBadProgram : Str} {tfBadProgram : Tok}
    {CBadText fBadText cdBadText ccBadText : Addr} {nmBadText qqBadText : Str} {NBadText : Addr} {bsBadText subBadText : List Value} {snBadText : List Str} {abBadText : Bool} {colBadText : Option Bool} {ddBadText odBadText anBadText cddBadText cldBadText : Option Addr} {m0BadText m1BadText m2BadText m3BadText m5BadText : Option Value} {ocBadText kVBadText dcBadText pmBadText ctBadText clBadText cmBadText : Value} {slBadText ccsBadText cslBadText : Array (Option Value)} {vsBadText : Array Value} {fileBadText : Str} {tfBadText : Tok}
    {CBadInput fBadInput cdBadInput ccBadInput : Addr} {nmBadInput qqBadInput : Str} {NBadInput : Addr} {bsBadInput subBadInput : List Value} {snBadInput : List Str} {abBadInput : Bool} {colBadInput : Option Bool} {ddBadInput odBadInput anBadInput cddBadInput cldBadInput : Option Addr} {m0BadInput m1BadInput m2BadInput m3BadInput m5BadInput : Option Value} {ocBadInput kVBadInput dcBadInput pmBadInput ctBadInput clBadInput cmBadInput : Value} {slBadInput ccsBadInput cslBadInput : Array (Option Value)} {vsBadInput : Array Value} {fileBadInput : Str} {tfBadInput : Tok}
    {CBadCode fBadCode cdBadCode ccBadCode : Addr} {nmBadCode qqBadCode : Str} {NBadCode : Addr} {bsBadCode subBadCode : List Value} {snBadCode : List Str} {abBadCode : Bool} {colBadCode : Option Bool} {ddBadCode odBadCode anBadCode cddBadCode cldBadCode : Option Addr} {m0BadCode m1BadCode m2BadCode m3BadCode m5BadCode : Option Value} {ocBadCode kVBadCode dcBadCode pmBadCode ctBadCode clBadCode cmBadCode : Value} {slBadCode ccsBadCode cslBadCode : Array (Option Value)} {vsBadCode : Array Value} {fileBadCode : Str} {tfBadCode : Tok}
    {CBadRun fBadRun cdBadRun ccBadRun : Addr} {nmBadRun qqBadRun : Str} {NBadRun : Addr} {bsBadRun subBadRun : List Value} {snBadRun : List Str} {abBadRun : Bool} {colBadRun : Option Bool} {ddBadRun odBadRun anBadRun cddBadRun cldBadRun : Option Addr} {m0BadRun m1BadRun m2BadRun m3BadRun m5BadRun : Option Value} {ocBadRun kVBadRun dcBadRun pmBadRun ctBadRun clBadRun cmBadRun : Value} {slBadRun ccsBadRun cslBadRun : Array (Option Value)} {vsBadRun : Array Value} {fileBadRun : Str} {tfBadRun : Tok}
    {CBadScript fBadScript cdBadScript ccBadScript : Addr} {nmBadScript qqBadScript : Str} {NBadScript : Addr} {bsBadScript subBadScript : List Value} {snBadScript : List Str} {abBadScript : Bool} {colBadScript : Option Bool} {ddBadScript odBadScript anBadScript cddBadScript cldBadScript : Option Addr} {m0BadScript m1BadScript m2BadScript m3BadScript m5BadScript : Option Value} {ocBadScript kVBadScript dcBadScript pmBadScript ctBadScript clBadScript cmBadScript : Value} {slBadScript ccsBadScript cslBadScript : Array (Option Value)} {vsBadScript : Array Value} {fileBadScript : Str} {tfBadScript : Tok}
    (a1 : PySem.W.nsIn K mainGlobals "_law_draws" = some (some (.ref f1))) (l1 : K.lookup f1 = some ⟨oc1, od1, .func (PySem.W.fnOf "_law_draws" "_law_draws" (defArgs s_law_draws) (defBody s_law_draws) (defScope s_law_draws) .none kV1 dc1 pm1 an1 cd1 ct1), sl1⟩) (c1 : PySem.W.codeIn K cd1 "_law_draws" = true) (k1 : PySem.W.keepIn K (.ref f1) = true)
    (a2 : PySem.W.nsIn K mainGlobals "_law_next" = some (some (.ref f2))) (l2 : K.lookup f2 = some ⟨oc2, od2, .func (PySem.W.fnOf "_law_next" "_law_next" (defArgs s_law_next) (defBody s_law_next) (defScope s_law_next) .none kV2 dc2 pm2 an2 cd2 ct2), sl2⟩) (c2 : PySem.W.codeIn K cd2 "_law_next" = true) (k2 : PySem.W.keepIn K (.ref f2) = true)
    (a3 : PySem.W.nsIn K mainGlobals "law" = some (some (.ref f3))) (l3 : K.lookup f3 = some ⟨oc3, od3, .func (PySem.W.fnOf "law" "law" (defArgs s_law) (defBody s_law) (defScope s_law) .none kV3 dc3 pm3 an3 cd3 ct3), sl3⟩) (c3 : PySem.W.codeIn K cd3 "law" = true) (k3 : PySem.W.keepIn K (.ref f3) = true)
    (z_ValueError : PySem.W.nsIn K mainGlobals "ValueError" = some none)
    (z_abs : PySem.W.nsIn K mainGlobals "abs" = some none)
    (z_int : PySem.W.nsIn K mainGlobals "int" = some none)
    (z_isinstance : PySem.W.nsIn K mainGlobals "isinstance" = some none)
    (z_len : PySem.W.nsIn K mainGlobals "len" = some none)
    (z_range : PySem.W.nsIn K mainGlobals "range" = some none)
    (g_QuietError : PySem.W.nsIn K mainGlobals "QuietError" = some (some (.ref cQ)))
    (egBadProgram : PySem.W.nsIn K mainGlobals "BadProgram" = some (some (.ref CBadProgram))) (eiBadProgram : PySem.W.findIn K (.ref CBadProgram) "__init__" = some (some (.ref fBadProgram))) (eLBadProgram : K.lookup CBadProgram = some (excClassObj nmBadProgram qqBadProgram CBadProgram NBadProgram bsBadProgram [.ref cQ, .type "ValueError", .type "Exception", .type "BaseException", .type "object"] true snBadProgram subBadProgram abBadProgram colBadProgram ddBadProgram m0BadProgram m1BadProgram m2BadProgram m3BadProgram m5BadProgram "ValueError.__new__"))
    (eFBadProgram : K.lookup fBadProgram = some ⟨ocBadProgram, odBadProgram, .func (PySem.W.ksFn "__init__" "BadProgram.__init__" (defArgs i_BadProgram) (defBody i_BadProgram) (defScope i_BadProgram) .none kVBadProgram dcBadProgram pmBadProgram anBadProgram (.ref cdBadProgram) ctBadProgram ccBadProgram), slBadProgram⟩) (eCBadProgram : PySem.W.codeIn K (.ref cdBadProgram) "BadProgram.__init__" = true) (eDBadProgram : K.lookup cdBadProgram = some ⟨clBadProgram, cddBadProgram, .fields vsBadProgram, ccsBadProgram⟩) (eVBadProgram : vsBadProgram[2]? = some (.str fileBadProgram tfBadProgram)) (eMBadProgram : (PySem.Challenge.rw_quietsmith_k00_errors.prog.main.file == fileBadProgram) = true) (eEBadProgram : K.lookup ccBadProgram = some ⟨cmBadProgram, cldBadProgram, .cell (some (.ref CBadProgram)), cslBadProgram⟩)
    (eBBadProgram : errB K CBadProgram fBadProgram ["reason"] = true)
    (egBadText : PySem.W.nsIn K mainGlobals "BadText" = some (some (.ref CBadText))) (eiBadText : PySem.W.findIn K (.ref CBadText) "__init__" = some (some (.ref fBadText))) (eLBadText : K.lookup CBadText = some (excClassObj nmBadText qqBadText CBadText NBadText bsBadText [.ref cQ, .type "ValueError", .type "Exception", .type "BaseException", .type "object"] true snBadText subBadText abBadText colBadText ddBadText m0BadText m1BadText m2BadText m3BadText m5BadText "ValueError.__new__"))
    (eFBadText : K.lookup fBadText = some ⟨ocBadText, odBadText, .func (PySem.W.ksFn "__init__" "BadText.__init__" (defArgs i_BadText) (defBody i_BadText) (defScope i_BadText) .none kVBadText dcBadText pmBadText anBadText (.ref cdBadText) ctBadText ccBadText), slBadText⟩) (eCBadText : PySem.W.codeIn K (.ref cdBadText) "BadText.__init__" = true) (eDBadText : K.lookup cdBadText = some ⟨clBadText, cddBadText, .fields vsBadText, ccsBadText⟩) (eVBadText : vsBadText[2]? = some (.str fileBadText tfBadText)) (eMBadText : (PySem.Challenge.rw_quietsmith_k00_errors.prog.main.file == fileBadText) = true) (eEBadText : K.lookup ccBadText = some ⟨cmBadText, cldBadText, .cell (some (.ref CBadText)), cslBadText⟩)
    (eBBadText : errB K CBadText fBadText ["index"] = true)
    (egBadInput : PySem.W.nsIn K mainGlobals "BadInput" = some (some (.ref CBadInput))) (eiBadInput : PySem.W.findIn K (.ref CBadInput) "__init__" = some (some (.ref fBadInput))) (eLBadInput : K.lookup CBadInput = some (excClassObj nmBadInput qqBadInput CBadInput NBadInput bsBadInput [.ref cQ, .type "ValueError", .type "Exception", .type "BaseException", .type "object"] true snBadInput subBadInput abBadInput colBadInput ddBadInput m0BadInput m1BadInput m2BadInput m3BadInput m5BadInput "ValueError.__new__"))
    (eFBadInput : K.lookup fBadInput = some ⟨ocBadInput, odBadInput, .func (PySem.W.ksFn "__init__" "BadInput.__init__" (defArgs i_BadInput) (defBody i_BadInput) (defScope i_BadInput) .none kVBadInput dcBadInput pmBadInput anBadInput (.ref cdBadInput) ctBadInput ccBadInput), slBadInput⟩) (eCBadInput : PySem.W.codeIn K (.ref cdBadInput) "BadInput.__init__" = true) (eDBadInput : K.lookup cdBadInput = some ⟨clBadInput, cddBadInput, .fields vsBadInput, ccsBadInput⟩) (eVBadInput : vsBadInput[2]? = some (.str fileBadInput tfBadInput)) (eMBadInput : (PySem.Challenge.rw_quietsmith_k00_errors.prog.main.file == fileBadInput) = true) (eEBadInput : K.lookup ccBadInput = some ⟨cmBadInput, cldBadInput, .cell (some (.ref CBadInput)), cslBadInput⟩)
    (eBBadInput : errB K CBadInput fBadInput [] = true)
    (egBadCode : PySem.W.nsIn K mainGlobals "BadCode" = some (some (.ref CBadCode))) (eiBadCode : PySem.W.findIn K (.ref CBadCode) "__init__" = some (some (.ref fBadCode))) (eLBadCode : K.lookup CBadCode = some (excClassObj nmBadCode qqBadCode CBadCode NBadCode bsBadCode [.ref cQ, .type "ValueError", .type "Exception", .type "BaseException", .type "object"] true snBadCode subBadCode abBadCode colBadCode ddBadCode m0BadCode m1BadCode m2BadCode m3BadCode m5BadCode "ValueError.__new__"))
    (eFBadCode : K.lookup fBadCode = some ⟨ocBadCode, odBadCode, .func (PySem.W.ksFn "__init__" "BadCode.__init__" (defArgs i_BadCode) (defBody i_BadCode) (defScope i_BadCode) .none kVBadCode dcBadCode pmBadCode anBadCode (.ref cdBadCode) ctBadCode ccBadCode), slBadCode⟩) (eCBadCode : PySem.W.codeIn K (.ref cdBadCode) "BadCode.__init__" = true) (eDBadCode : K.lookup cdBadCode = some ⟨clBadCode, cddBadCode, .fields vsBadCode, ccsBadCode⟩) (eVBadCode : vsBadCode[2]? = some (.str fileBadCode tfBadCode)) (eMBadCode : (PySem.Challenge.rw_quietsmith_k00_errors.prog.main.file == fileBadCode) = true) (eEBadCode : K.lookup ccBadCode = some ⟨cmBadCode, cldBadCode, .cell (some (.ref CBadCode)), cslBadCode⟩)
    (eBBadCode : errB K CBadCode fBadCode ["index", "reason"] = true)
    (egBadRun : PySem.W.nsIn K mainGlobals "BadRun" = some (some (.ref CBadRun))) (eiBadRun : PySem.W.findIn K (.ref CBadRun) "__init__" = some (some (.ref fBadRun))) (eLBadRun : K.lookup CBadRun = some (excClassObj nmBadRun qqBadRun CBadRun NBadRun bsBadRun [.ref cQ, .type "ValueError", .type "Exception", .type "BaseException", .type "object"] true snBadRun subBadRun abBadRun colBadRun ddBadRun m0BadRun m1BadRun m2BadRun m3BadRun m5BadRun "ValueError.__new__"))
    (eFBadRun : K.lookup fBadRun = some ⟨ocBadRun, odBadRun, .func (PySem.W.ksFn "__init__" "BadRun.__init__" (defArgs i_BadRun) (defBody i_BadRun) (defScope i_BadRun) .none kVBadRun dcBadRun pmBadRun anBadRun (.ref cdBadRun) ctBadRun ccBadRun), slBadRun⟩) (eCBadRun : PySem.W.codeIn K (.ref cdBadRun) "BadRun.__init__" = true) (eDBadRun : K.lookup cdBadRun = some ⟨clBadRun, cddBadRun, .fields vsBadRun, ccsBadRun⟩) (eVBadRun : vsBadRun[2]? = some (.str fileBadRun tfBadRun)) (eMBadRun : (PySem.Challenge.rw_quietsmith_k00_errors.prog.main.file == fileBadRun) = true) (eEBadRun : K.lookup ccBadRun = some ⟨cmBadRun, cldBadRun, .cell (some (.ref CBadRun)), cslBadRun⟩)
    (eBBadRun : errB K CBadRun fBadRun ["reason"] = true)
    (egBadScript : PySem.W.nsIn K mainGlobals "BadScript" = some (some (.ref CBadScript))) (eiBadScript : PySem.W.findIn K (.ref CBadScript) "__init__" = some (some (.ref fBadScript))) (eLBadScript : K.lookup CBadScript = some (excClassObj nmBadScript qqBadScript CBadScript NBadScript bsBadScript [.ref cQ, .type "ValueError", .type "Exception", .type "BaseException", .type "object"] true snBadScript subBadScript abBadScript colBadScript ddBadScript m0BadScript m1BadScript m2BadScript m3BadScript m5BadScript "ValueError.__new__"))
    (eFBadScript : K.lookup fBadScript = some ⟨ocBadScript, odBadScript, .func (PySem.W.ksFn "__init__" "BadScript.__init__" (defArgs i_BadScript) (defBody i_BadScript) (defScope i_BadScript) .none kVBadScript dcBadScript pmBadScript anBadScript (.ref cdBadScript) ctBadScript ccBadScript), slBadScript⟩) (eCBadScript : PySem.W.codeIn K (.ref cdBadScript) "BadScript.__init__" = true) (eDBadScript : K.lookup cdBadScript = some ⟨clBadScript, cddBadScript, .fields vsBadScript, ccsBadScript⟩) (eVBadScript : vsBadScript[2]? = some (.str fileBadScript tfBadScript)) (eMBadScript : (PySem.Challenge.rw_quietsmith_k00_errors.prog.main.file == fileBadScript) = true) (eEBadScript : K.lookup ccBadScript = some ⟨cmBadScript, cldBadScript, .cell (some (.ref CBadScript)), cslBadScript⟩)
    (eBBadScript : errB K CBadScript fBadScript ["line", "reason"] = true)
    (kit : isB K cQ [CBadProgram, CBadText, CBadInput, CBadCode, CBadRun, CBadScript] = true)
    (z_super : PySem.W.nsIn K mainGlobals "super" = some none)
    : ∃ fd : FuncData, (∀ (s : Shared) (v : Value), BindsTo s fd ⟨[v], []⟩ [("script", v)]) ∧ ∀ base : Heap, K.In base → base.Ns mainGlobals mg → FnOk PySem.Challenge.rw_quietsmith_k00_errors.prog w K mg base CX0 3 fa fd ["script"] (spLaw K) := by
  have e := hfa.symm.trans (PySem.W.mg_of X G a3)
  cases e
  have F1 := fun_mk (st := s_law_draws) l1 c1 k1
  have b1 := F1.binds (ps := ["script", "start", "most"]) fun _ _ _ _ _ _ us hl => match us, hl with | [_, _, _], _ => rfl
  have F2 := fun_mk (st := s_law_next) l2 c2 k2
  have b2 := F2.binds (ps := ["draws"]) fun _ _ _ _ _ _ us hl => match us, hl with | [_], _ => rfl
  have F3 := fun_mk (st := s_law) l3 c3 k3
  have b3 := F3.binds (ps := ["script"]) fun _ _ _ _ _ _ us hl => match us, hl with | [_], _ => rfl
  have FSBadProgram : FunS PySem.Challenge.rw_quietsmith_k00_errors.prog K "__init__" "BadProgram.__init__" i_BadProgram CBadProgram fBadProgram _ := ⟨_, _, _, _, _, _, _, _, _, _, _, _, _, _, _, _, _, _, _, rfl, eFBadProgram, eCBadProgram, eDBadProgram, eVBadProgram, eMBadProgram, eEBadProgram⟩
  have bSBadProgram := FSBadProgram.binds (ps := ["self", "reason"]) fun _ _ _ _ _ _ _ us hl => match us, hl with | [_, _], _ => rfl
  obtain ⟨⟨EBadProgram, hEBadProgram⟩⟩ := err_of (x := "BadProgram") FSBadProgram bSBadProgram (PySem.W.mg_of X G egBadProgram) ⟨_, _, _, _, _, _, _, _, _, _, _, _, _, _, _, eLBadProgram, by rfl⟩ eiBadProgram eBBadProgram
  have FSBadText : FunS PySem.Challenge.rw_quietsmith_k00_errors.prog K "__init__" "BadText.__init__" i_BadText CBadText fBadText _ := ⟨_, _, _, _, _, _, _, _, _, _, _, _, _, _, _, _, _, _, _, rfl, eFBadText, eCBadText, eDBadText, eVBadText, eMBadText, eEBadText⟩
  have bSBadText := FSBadText.binds (ps := ["self", "index"]) fun _ _ _ _ _ _ _ us hl => match us, hl with | [_, _], _ => rfl
  obtain ⟨⟨EBadText, hEBadText⟩⟩ := err_of (x := "BadText") FSBadText bSBadText (PySem.W.mg_of X G egBadText) ⟨_, _, _, _, _, _, _, _, _, _, _, _, _, _, _, eLBadText, by rfl⟩ eiBadText eBBadText
  have FSBadInput : FunS PySem.Challenge.rw_quietsmith_k00_errors.prog K "__init__" "BadInput.__init__" i_BadInput CBadInput fBadInput _ := ⟨_, _, _, _, _, _, _, _, _, _, _, _, _, _, _, _, _, _, _, rfl, eFBadInput, eCBadInput, eDBadInput, eVBadInput, eMBadInput, eEBadInput⟩
  have bSBadInput := FSBadInput.binds (ps := ["self"]) fun _ _ _ _ _ _ _ us hl => match us, hl with | [_], _ => rfl
  obtain ⟨⟨EBadInput, hEBadInput⟩⟩ := err_of (x := "BadInput") FSBadInput bSBadInput (PySem.W.mg_of X G egBadInput) ⟨_, _, _, _, _, _, _, _, _, _, _, _, _, _, _, eLBadInput, by rfl⟩ eiBadInput eBBadInput
  have FSBadCode : FunS PySem.Challenge.rw_quietsmith_k00_errors.prog K "__init__" "BadCode.__init__" i_BadCode CBadCode fBadCode _ := ⟨_, _, _, _, _, _, _, _, _, _, _, _, _, _, _, _, _, _, _, rfl, eFBadCode, eCBadCode, eDBadCode, eVBadCode, eMBadCode, eEBadCode⟩
  have bSBadCode := FSBadCode.binds (ps := ["self", "index", "reason"]) fun _ _ _ _ _ _ _ us hl => match us, hl with | [_, _, _], _ => rfl
  obtain ⟨⟨EBadCode, hEBadCode⟩⟩ := err_of (x := "BadCode") FSBadCode bSBadCode (PySem.W.mg_of X G egBadCode) ⟨_, _, _, _, _, _, _, _, _, _, _, _, _, _, _, eLBadCode, by rfl⟩ eiBadCode eBBadCode
  have FSBadRun : FunS PySem.Challenge.rw_quietsmith_k00_errors.prog K "__init__" "BadRun.__init__" i_BadRun CBadRun fBadRun _ := ⟨_, _, _, _, _, _, _, _, _, _, _, _, _, _, _, _, _, _, _, rfl, eFBadRun, eCBadRun, eDBadRun, eVBadRun, eMBadRun, eEBadRun⟩
  have bSBadRun := FSBadRun.binds (ps := ["self", "reason"]) fun _ _ _ _ _ _ _ us hl => match us, hl with | [_, _], _ => rfl
  obtain ⟨⟨EBadRun, hEBadRun⟩⟩ := err_of (x := "BadRun") FSBadRun bSBadRun (PySem.W.mg_of X G egBadRun) ⟨_, _, _, _, _, _, _, _, _, _, _, _, _, _, _, eLBadRun, by rfl⟩ eiBadRun eBBadRun
  have FSBadScript : FunS PySem.Challenge.rw_quietsmith_k00_errors.prog K "__init__" "BadScript.__init__" i_BadScript CBadScript fBadScript _ := ⟨_, _, _, _, _, _, _, _, _, _, _, _, _, _, _, _, _, _, _, rfl, eFBadScript, eCBadScript, eDBadScript, eVBadScript, eMBadScript, eEBadScript⟩
  have bSBadScript := FSBadScript.binds (ps := ["self", "line", "reason"]) fun _ _ _ _ _ _ _ us hl => match us, hl with | [_, _, _], _ => rfl
  obtain ⟨⟨EBadScript, hEBadScript⟩⟩ := err_of (x := "BadScript") FSBadScript bSBadScript (PySem.W.mg_of X G egBadScript) ⟨_, _, _, _, _, _, _, _, _, _, _, _, _, _, _, eLBadScript, by rfl⟩ eiBadScript eBBadScript
  have T : Tx PySem.Challenge.rw_quietsmith_k00_errors.prog K mg := ⟨EBadProgram, EBadText, EBadInput, EBadCode, EBadRun, EBadScript, _, PySem.W.mg_of X G g_QuietError, _, _, F1, b1, PySem.W.mg_of X G a1, _, _, F2, b2, PySem.W.mg_of X G a2, _, _, F3, b3, PySem.W.mg_of X G a3, PySem.W.mg_none_of X G z_ValueError, PySem.W.mg_none_of X G z_abs, PySem.W.mg_none_of X G z_int, PySem.W.mg_none_of X G z_isinstance, PySem.W.mg_none_of X G z_len, PySem.W.mg_none_of X G z_range, (by rw [hEBadProgram, hEBadText, hEBadInput, hEBadCode, hEBadRun, hEBadScript]; exact kit), PySem.W.mg_none_of X G z_super⟩
  exact ⟨PySem.W.fnOf "law" "law" (defArgs s_law) (defBody s_law) (defScope s_law) .none kV3 dc3 pm3 an3 cd3 ct3, fun s v => .of_eq rfl, fun base _ _ => ok_law' T F3⟩
end K00
open PySem PySem.W PyProof.Rows
set_option maxHeartbeats 0 in
theorem PySem.Challenge.cw_quietsmith_k00_errors_holds : PySem.Challenge.rw_quietsmith_k00_errors.Holds := by
  w_on; o_law; k_head; (case hw => w_witness2)
  k_fill
  refine L2.walk_of (l := PySem.Challenge.rw_quietsmith_k00_errors) (n := 63) (k := 3) (x := "script") (CX := fun _ => L2.CX0) (sp := fun w => K00.spLaw _) rfl (by decide) rfl ⟨rfl, by decide, by decide⟩ (fun w h Y => PySem.W.kIn_of Y) ?F (fun _ _ a ns hl _ hS => ⟨a, ns, rfl, hS, hl, fun _ => rfl⟩) (fun _ _ _ _ _ h => h)
  case F =>
    intro w mg fa h KX G hmg
    refine' K00.all_mk KX G hmg ?a1 ?l1 ?c1 ?k1 ?a2 ?l2 ?c2 ?k2 ?a3 ?l3 ?c3 ?k3 ?z_ValueError ?z_abs ?z_int ?z_isinstance ?z_len ?z_range ?g_QuietError ?egBadProgram ?eiBadProgram ?eLBadProgram ?eFBadProgram ?eCBadProgram ?eDBadProgram ?eVBadProgram ?eMBadProgram ?eEBadProgram ?eBBadProgram ?egBadText ?eiBadText ?eLBadText ?eFBadText ?eCBadText ?eDBadText ?eVBadText ?eMBadText ?eEBadText ?eBBadText ?egBadInput ?eiBadInput ?eLBadInput ?eFBadInput ?eCBadInput ?eDBadInput ?eVBadInput ?eMBadInput ?eEBadInput ?eBBadInput ?egBadCode ?eiBadCode ?eLBadCode ?eFBadCode ?eCBadCode ?eDBadCode ?eVBadCode ?eMBadCode ?eEBadCode ?eBBadCode ?egBadRun ?eiBadRun ?eLBadRun ?eFBadRun ?eCBadRun ?eDBadRun ?eVBadRun ?eMBadRun ?eEBadRun ?eBBadRun ?egBadScript ?eiBadScript ?eLBadScript ?eFBadScript ?eCBadScript ?eDBadScript ?eVBadScript ?eMBadScript ?eEBadScript ?eBBadScript ?kit ?z_super
    (case a1 => k_is)
    (case l1 => k_is)
    (case c1 => k_is)
    (case k1 => k_is)
    (case a2 => k_is)
    (case l2 => k_is)
    (case c2 => k_is)
    (case k2 => k_is)
    (case a3 => k_is)
    (case l3 => k_is)
    (case c3 => k_is)
    (case k3 => k_is)
    (case z_ValueError => k_is)
    (case z_abs => k_is)
    (case z_int => k_is)
    (case z_isinstance => k_is)
    (case z_len => k_is)
    (case z_range => k_is)
    (case g_QuietError => k_is)
    (case egBadProgram => k_is)
    (case eiBadProgram => k_is)
    (case eLBadProgram => k_is)
    (case eFBadProgram => k_is)
    (case eCBadProgram => k_is)
    (case eDBadProgram => k_is)
    (case eVBadProgram => rfl)
    (case eMBadProgram => first | rfl | kernel_rfl)
    (case eEBadProgram => k_is)
    (case eBBadProgram => kernel_rfl)
    (case egBadText => k_is)
    (case eiBadText => k_is)
    (case eLBadText => k_is)
    (case eFBadText => k_is)
    (case eCBadText => k_is)
    (case eDBadText => k_is)
    (case eVBadText => rfl)
    (case eMBadText => first | rfl | kernel_rfl)
    (case eEBadText => k_is)
    (case eBBadText => kernel_rfl)
    (case egBadInput => k_is)
    (case eiBadInput => k_is)
    (case eLBadInput => k_is)
    (case eFBadInput => k_is)
    (case eCBadInput => k_is)
    (case eDBadInput => k_is)
    (case eVBadInput => rfl)
    (case eMBadInput => first | rfl | kernel_rfl)
    (case eEBadInput => k_is)
    (case eBBadInput => kernel_rfl)
    (case egBadCode => k_is)
    (case eiBadCode => k_is)
    (case eLBadCode => k_is)
    (case eFBadCode => k_is)
    (case eCBadCode => k_is)
    (case eDBadCode => k_is)
    (case eVBadCode => rfl)
    (case eMBadCode => first | rfl | kernel_rfl)
    (case eEBadCode => k_is)
    (case eBBadCode => kernel_rfl)
    (case egBadRun => k_is)
    (case eiBadRun => k_is)
    (case eLBadRun => k_is)
    (case eFBadRun => k_is)
    (case eCBadRun => k_is)
    (case eDBadRun => k_is)
    (case eVBadRun => rfl)
    (case eMBadRun => first | rfl | kernel_rfl)
    (case eEBadRun => k_is)
    (case eBBadRun => kernel_rfl)
    (case egBadScript => k_is)
    (case eiBadScript => k_is)
    (case eLBadScript => k_is)
    (case eFBadScript => k_is)
    (case eCBadScript => k_is)
    (case eDBadScript => k_is)
    (case eVBadScript => rfl)
    (case eMBadScript => first | rfl | kernel_rfl)
    (case eEBadScript => k_is)
    (case eBBadScript => kernel_rfl)
    (case kit => kernel_rfl)
    (case z_super => k_is)

