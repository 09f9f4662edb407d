import PyProof.Rows.All
import Wide.All
import OpenK.AllK
import Wide.FinOn
import HandS.ForExc
import HandS.ExcInit
import HandS.FStr
import KE.KExcSuper
import HandS.IsInst
import HandS.ExcField
import KE.KExcIs
import KE.KIsAll
import HandS.TryOnly
import HandS.ForMost
import HandS.More
import HandS.TupAny
import HandS.TupMul
import HandS.WideBits
import HandS.Zip
import HandS.DictComp
import HandS.Flow
import HandS.Codes
import PySem.Challenge.RW_quietsmith_k30_cache_and_predictor
set_option Elab.async false
set_option linter.all false
set_option maxRecDepth 100000
set_option maxHeartbeats 4000000
/-! An own error whose __init__ begins with super().__init__(text): its def, kept as a promise. -/
namespace QX
open PySem PySem.Spec PyProof.Rows L2
/-- the last of a row of names that differ -/
theorem last_of {ps : List Str} {us : List Value} (nd : ps.Nodup) : ∀ {i : Nat} {x : Str} {u : Value}, ps[i]? = some x → us[i]? = some u → ((ps.zip us).reverse).lookup x = some u := by
  induction ps generalizing us with
  | nil =>
    intro i x u h _
    cases i <;> cases h
  | cons p r ih =>
    intro i x u h g
    cases us with
    | nil => cases i <;> cases g
    | cons v t =>
      have n1 : p ∉ r := (List.nodup_cons.mp nd).1
      have n2 := (List.nodup_cons.mp nd).2
      rw [List.zip_cons_cons, List.reverse_cons, List.lookup_append]
      cases i with
      | zero =>
        obtain rfl : p = x := Option.some.inj h
        obtain rfl : v = u := Option.some.inj g
        have e : ((r.zip t).reverse).lookup p = none := by
          rw [List.lookup_eq_none_iff]
          intro q hq
          have h1 : q.1 ∈ r := (List.of_mem_zip (List.mem_reverse.mp hq)).1
          exact bne_iff_ne.mpr fun (z : p = q.1) => n1 (by rw [z]; exact h1)
        rw [e]
        simp [List.lookup]
      | succ i =>
        rw [ih n2 h g]
        rfl
/-- a def of a class's body that closes over __class__ -/
structure FunS (P : Program) (K : PySem.W.Frag) (x qual : Str) (st : Stmt) (D f : Addr) (fd : FuncData) : Prop where
  ex : ∃ (oc : Value) (od : Option Addr) (kV doc pm : Value) (an : Option Addr) (cda cc : Addr) (ct : Value) (osl : Array (Option Value)) (ccl : Value) (cdd : Option Addr) (vs : Array Value) (ccs : Array (Option Value)) (file : Str) (tf : Tok) (cl : Value) (cld : Option Addr) (csl : Array (Option Value)),
    fd = PySem.W.ksFn x qual (defArgs st) (defBody st) (defScope st) .none kV doc pm an (.ref cda) ct cc ∧ K.lookup f = some ⟨oc, od, .func fd, osl⟩ ∧ PySem.W.codeIn K (.ref cda) qual = true ∧
    K.lookup cda = some ⟨ccl, cdd, .fields vs, ccs⟩ ∧ vs[2]? = some (.str file tf) ∧ ((P.main.file : Str) == file) = true ∧ K.lookup cc = some ⟨cl, cld, .cell (some (.ref D)), csl⟩
/-- its scope: the parameters alone, and the two names of super() -/
structure ScS (ps : List Str) (sc : Scope) : Prop where
  kind : sc.kind = .function
  co : sc.isCoroutine = false
  gen : sc.isGenerator = false
  par : ∀ n ∈ ps, sc.names.lookup n = some .local
  nd : ps.Nodup
  cell : ∀ y ∈ sc.names, y.2 ≠ .cell
  free : ∀ y ∈ sc.names, y.2 = .free → y.1 = ("__class__" : Str)
  sup : sc.names.lookup ("super" : Str) = some .globalImplicit
  cls : sc.names.lookup ("__class__" : Str) = some .free
abbrev envS (qual : Str) (sc : Scope) (L f : Addr) (cd : Value) (cc : Addr) : Env := PySem.W.ksEnv qual sc L f cd cc
def cxS (CX : CXT) (P : Program) (w : World) (K : PySem.W.Frag) (mg : Str → Option Value) (base : Heap) (N : List Str) (qual : Str) (sc : Scope) (f : Addr) (cd : Value) (cc : Addr) (A : Around) (outer : List Env) (s : Shared) (H : Hp) (E : XK) : Cx where
  prog := P
  w := w
  K := K
  mg := mg
  base := base
  A := A.deeper (envS qual sc s.heap.objs.size f cd cc)
  N := N
  s_0 := s
  H_0 := H
  env := envS qual sc s.heap.objs.size f cd cc
  outer := outer
  stack := envS qual sc s.heap.objs.size f cd cc :: outer
  ex := []
  calm := true
  fn := fun _ => false
  pn := []
  xe := fun e s' => wpAny (model P w) (A.deeper (envS qual sc s.heap.objs.size f cd cc)) (leaving (envS qual sc s.heap.objs.size f cd cc) e) (fun _ s'' => CX outer H s E e s'') (fun e' s'' => CX outer H s E e' s'') s'
theorem kind_of {ps : List Str} {sc : Scope} (S : ScS ps sc) {y : Str} (h : sc.names.lookup y = some .free) : y = ("__class__" : Str) := S.free (y, .free) (PySem.mem_of_lookup h) rfl
theorem begin_S {CX : CXT} {P : Program} {w : World} {K : PySem.W.Frag} {mg : Str → Option Value} {base : Heap} {ps : List Str} {qual : Str} {sc : Scope} {f cc D : Addr} {cd : Value} {A : Around} {outer : List Env} {s : Shared} {h₀ : Heap} {tk : Nat} {H : Hp} {E : XK} {us : List Value} {vs : List V}
    {cl : Value} {cld : Option Addr} {csl : Array (Option Value)} (S : ScS ps sc) (hd : A.handled = none) (e0 : Env0 P w K mg base A outer s H) (hl : vs.length = ps.length) (r : Vals vs us) (lc : K.lookup cc = some ⟨cl, cld, .cell (some (.ref D)), csl⟩)
    (hns : h₀.Ns s.heap.objs.size (fun x => ((ps.zip us).reverse).lookup x)) (hk : ∀ b o, s.heap.get? b = some o → h₀.get? b = some o) :
    Inv (cxS CX P w K mg base ps qual sc f cd cc A outer s H E) [] (L2.start ps vs) H { s with heap := h₀, toks := tk } := by
  have noA : ∀ b : Addr, b ∉ (cxS CX P w K mg base ps qual sc f cd cc A outer s H E).ex := fun b z => absurd (show b ∈ ([] : List Addr) from z) (by simp)
  have one : ∀ {x : Str} {c : Addr}, (cxS CX P w K mg base ps qual sc f cd cc A outer s H E).env.cells.lookup x = some c → x = ("__class__" : Str) ∧ c = cc := by
    intro x c h
    have h2 : ([(("__class__" : Str), cc)] : List (Str × Addr)).lookup x = some c := h
    by_cases e : x = ("__class__" : Str)
    · subst e
      have h3 : some cc = some c := by simpa [List.lookup] using h2
      exact ⟨rfl, (Option.some.inj h3).symm⟩
    · have e2 : (x == ("__class__" : Str)) = false := by simpa using e
      have h3 : (none : Option Addr) = some c := by simpa [List.lookup, e2] using h2
      cases h3
  have b1 := e0.bs cc _ (e0.mod.kin _ _ lc)
  refine ⟨⟨e0.mod, S.kind, rfl, rfl, Nat.le_refl _, fun x y c h1 h2 => (one h1).1.trans (one h2).1.symm, fun y hy => ?_, (fun y c z _ => nomatch z), fun _ => hd, Around.frames_deeper e0.frames, .inr ⟨rfl, rfl⟩, fun b z => absurd z (noA b), e0.bs, e0.bsz, fun b _ _ => noA b, fun b z => absurd z (noA b), e0.funs, e0.frf⟩,
    rfl, e0.bare, Un.kept hk, ⟨_, hns, fun i y v h1 h2 h3 => ?_⟩, fun y c h => ?_, e0.hok.fresh (Nat.le_refl _), fun y c h => ?_, fun p hp => absurd (show p ∈ ([] : List (Addr × Obj)) from hp) (by simp), e0.hok.kept hk, ?_⟩
  · have hy : sc.names.lookup y = some .cell ∨ sc.names.lookup y = some .free := hy
    rcases hy with hy | hy
    · exact absurd rfl (S.cell _ (PySem.mem_of_lookup hy))
    · rw [kind_of S hy]
      exact ⟨cc, rfl⟩
  · have hi : i < vs.length := by
      have := (List.getElem?_eq_some_iff.mp h1).1
      rw [hl]
      exact this
    have ha : vs[i]? = some v := by
      unfold L2.start at h2
      rw [List.getElem?_append_left (by simpa using hi), List.getElem?_map] at h2
      cases e : vs[i]? with
      | none =>
        rw [e] at h2
        cases h2
      | some a =>
        rw [e] at h2
        cases h2
        rfl
    obtain ⟨u, hu, rv⟩ := r.get ha
    exact ⟨u, rv, .inl ⟨S.par y (List.mem_of_getElem? h1), last_of S.nd h1 hu⟩⟩
  · obtain ⟨_, rfl⟩ := one h
    exact ⟨_, ⟨_, hk _ _ b1.1, rfl⟩⟩
  · obtain ⟨_, rfl⟩ := one h
    exact b1.2
  · unfold L2.start
    show _ = ps.length
    rw [List.length_append, List.length_map, List.length_replicate]
    omega

/-- what super().__init__ wants of the class C of the error, whose __init__ stands in D -/
structure SupC (K : PySem.W.Frag) (C D : Addr) : Prop where
  ox : OexC K C
  dcl : ∃ cd, PySem.W.clsIn K D = some cd
  sub : PySem.W.mroIn K C (.ref D) = some true
  ini : PySem.W.ks_superIn K C D "__init__" = some (some (.builtin "ValueError.__init__"))
  ve : PySem.W.subIn K (.ref C) (.type "ValueError") = some true
  tp : PySem.W.nsIn K cStatics "thirdparty.any" = some none
section
variable {X : Cx} {pins : List (Addr × Obj)} {σ : L2.St} {H : Hp} {s : Shared} {a C D u : Addr} {E : Value → Shared → Prop} {A : Around}
/-- the bound __init__ called: nothing of it is told -/
theorem bound_ok {us : List Value} {Q : Value → Shared → Prop} (T : OexC X.K C) (I : Inv X pins σ H s) (e : H a = some (exo a C none)) (hu : s.heap.get? u = some (PySem.W.kxs_mw "ValueError.__init__" a)) (hl : us.length ≤ sizeLine) (h : ∀ s', Inv X pins σ H s' → Q .none s') :
    wpAny (model X.prog X.w) A (call (.ref u) us) Q E s := by
  obtain ⟨nm, q, N, bs, bm, sn, sub, ab, col, dd, k0, k1, k2, k3, k5, hC, hbm⟩ := T.cls
  obtain ⟨t1, ho⟩ := exo_at I.hok e
  have fin : ∀ h', (∀ b o, b ≠ a → s.heap.get? b = some o → h'.get? b = some o) → (∃ t2 : Addr, h'.get? a = some ({ cls := .ref C, dict := none, data := .fields #[.ref t2, .none, .none, .none, .bool false, .none] } : Obj)) → Q .none { s with heap := h' } := fun h' k hx => by
    obtain ⟨t2, hx⟩ := hx
    have J := I.write (t' := s.toks) (x := a) (e := a) (o := exo a C none) (by rw [e]; exact True.intro) (.inl rfl) k ⟨_, hx⟩ (exo_ok hx)
    have eu : upd H a (exo a C none) = H := by
      funext b
      by_cases hb : b = a
      · rw [hb, upd_same, e]
      · rw [upd_ne hb]
    rw [eu] at J
    exact h _ J
  obtain ⟨hh, g, d, tk, os⟩ := s
  refine wpAny_call (codeAny_of_tree ?_)
  show wpAny _ A.in1 (callAny (.ref u) ⟨us, []⟩) _ _ _
  simp only [callAny]
  refine wpAny_bind (wpAny_load hu ?_)
  dsimp only [PySem.W.kxs_mw]
  refine PySem.W.KFB.if_so (by decide) ?_
  refine wpAny_bind (PySem.W.check_bound_init F.excBase_ValueError.toExcCallFacts (I.kIn _ _ hC) ho rfl ?_)
  refine wpAny_bind (wpAny_pure (wpAny_pure ?_))
  refine ⟨plainId_quiet F.excBase_ValueError.init.plain _, codeAny_builtin F.excBase_ValueError.initEntry ?_⟩
  exact PySem.W.exc_init_tree ho hl fun h' k hx _ => fin h' k ⟨_, hx⟩
end

section
variable {CX : CXT} {P : Program} {w : World} {K : PySem.W.Frag} {mg : Str → Option Value} {base : Heap} {ps : List Str} {qual : Str} {sc : Scope} {f cda cc D C a : Addr} {A : Around} {outer : List Env} {s0 s : Shared} {H0 H : Hp} {E : XK} {σ : L2.St}
  {oc : Value} {od : Option Addr} {osl : Array (Option Value)} {fd : FuncData} {ccl : Value} {cdd : Option Addr} {vs : Array Value} {ccs : Array (Option Value)} {file : Str} {tf : Tok} {cl : Value} {cld : Option Addr} {csl : Array (Option Value)}
theorem sup_first {body : List Stmt} {p0 p1 p2 p3 p4 : Pos} {e : Expr} {es : List Expr} {ta : TA} {ar : Arg} {Qn : Hp → Prop} (S : ScS ps sc) (T : SupC K C D) (I : Inv (cxS CX P w K mg base ps qual sc f (.ref cda) cc A outer s0 H0 E) [] σ H s)
    (lf : K.lookup f = some ⟨oc, od, .func fd, osl⟩) (hp : (fd.params.posonlyargs ++ fd.params.args).head? = some ar) (h0 : ps[0]? = some ar.arg) (ha : σ[0]? = some (some (.ref a))) (hx : H a = some (exo a C none))
    (lcd : K.lookup cda = some ⟨ccl, cdd, .fields vs, ccs⟩) (hvs : vs[2]? = some (.str file tf)) (hfile : ((P.main.file : Str) == file) = true) (lc : K.lookup cc = some ⟨cl, cld, .cell (some (.ref D)), csl⟩)
    (hms : mg "super" = none) (htop : (P.main.scope.names.lookup ("super" : Str)).isSome = false)
    {pl : Sem Bool} (hc : eval (.Call (.Attribute (.Call (.Name "super" p0) [] [] p1) "__init__" p2) (e :: es) [] p3) (envS qual sc s0.heap.objs.size f (.ref cda) cc) = (do
      let ov ← attributeBase (.Call (.Name "super" p0) [] [] p1) "__init__" (envS qual sc s0.heap.objs.size f (.ref cda) cc) (eval (.Call (.Name "super" p0) [] [] p1) (envS qual sc s0.heap.objs.size f (.ref cda) cc))
      standAt p2.atName
      let (g, first) ← holding [ov] (getMethod ov "__init__" pl)
      callWith p3 g first (backTo p3 (starEach (e :: es) (envS qual sc s0.heap.objs.size f (.ref cda) cc))) []))
    (hA : PA (cxS CX P w K mg base ps qual sc f (.ref cda) cc A outer s0 H0 E) (e :: es) ta) (q : ta σ H fun ws H1 => ws.length ≤ 1000 ∧ H1 a = some (exo a C none) ∧ Qn H1)
    (he : starEach (e :: es) (envS qual sc s0.heap.objs.size f (.ref cda) cc) = (false, eval e (envS qual sc s0.heap.objs.size f (.ref cda) cc)) :: starEach es (envS qual sc s0.heap.objs.size f (.ref cda) cc))
    (hpl : (backTo p3 (starEach es (envS qual sc s0.heap.objs.size f (.ref cda) cc))).any (·.1) = false)
    (hsw : swapsWith (.Call (.Attribute (.Call (.Name "super" p0) [] [] p1) "__init__" p2) (e :: es) [] p3) none p4.line (envS qual sc s0.heap.objs.size f (.ref cda) cc) = pure false) :
    _root_.PySem.wpAt (model P w) (A.deeper (envS qual sc s0.heap.objs.size f (.ref cda) cc)) (.func body (envS qual sc s0.heap.objs.size f (.ref cda) cc))
      (exec (.Expr (.Call (.Attribute (.Call (.Name "super" p0) [] [] p1) "__init__" p2) (e :: es) [] p3) p4) (envS qual sc s0.heap.objs.size f (.ref cda) cc))
      (fun fl s' => match fl with
        | .next => ∃ H', Inv (cxS CX P w K mg base ps qual sc f (.ref cda) cc A outer s0 H0 E) [] σ H' s' ∧ Qn H'
        | _ => False) (cxS CX P w K mg base ps qual sc f (.ref cda) cc A outer s0 H0 E).xe s := by
  have hi : interactive (envS qual sc s0.heap.objs.size f (.ref cda) cc) = false := by
    unfold interactive
    show (sc.kind == .module && _) = false
    rw [S.kind]
    rfl
  have hkS : (envS qual sc s0.heap.objs.size f (.ref cda) cc).kindOf "super" = some .globalImplicit := S.sup
  have hkC : (envS qual sc s0.heap.objs.size f (.ref cda) cc).kindOf "__class__" = some .free := S.cls
  obtain ⟨m, hns, hm⟩ := I.loc
  obtain ⟨u0, ru, lk⟩ := hm 0 ar.arg (.ref a) h0 ha (.inl (S.par _ (List.mem_of_getElem? h0)))
  obtain rfl : u0 = Value.ref a := ru
  have ma : m ar.arg = some (.ref a) := by
    rcases lk with ⟨_, h⟩ | ⟨h, _⟩
    · exact h
    · have h2 : sc.names.lookup ar.arg = some .cell ∨ sc.names.lookup ar.arg = some .free := h
      rw [S.par _ (List.mem_of_getElem? h0)] at h2
      rcases h2 with h2 | h2 <;> cases h2
  obtain ⟨cd, hcd⟩ := T.dcl
  obtain ⟨oD, hD1, hD2⟩ : ∃ oD, s.heap.get? D = some oD ∧ oD.data = .cls cd := by
    unfold PySem.W.clsIn at hcd
    split at hcd
    · rename_i c d cd' sl ho
      cases hcd
      exact ⟨_, I.kIn _ _ ho, rfl⟩
    · cases hcd
  obtain ⟨t1, hox⟩ := exo_at I.hok hx
  obtain ⟨mb, b1, b2⟩ := I.mod.blt
  refine PySem.ks_wpAt_Expr_any ?_ hi hsw
  refine PySem.ks_wpAt_MethodCall (pl := pl) ?_ hc
  refine PySem.ks_wpAt_super_base hkS hkC (by decide) rfl (I.kIn _ _ lf) rfl hp rfl (I.kIn _ _ lcd) rfl hvs hfile htop ?_
  refine PySem.W.ks_loadName_global S.kind hkS (Calls.loadGlobal_builtin (I.mod.glob.keeps I.bk) hms (b1.keeps I.bk) ((b2 "super" (by decide)).trans (by decide +kernel)) ⟨rfl, ?_⟩)
  refine wpAny_loadName_free S.kind hkC rfl ⟨_, I.kIn _ _ lc, rfl⟩ ?_
  refine wpAny_loadName_local S.kind (S.par _ (List.mem_of_getElem? h0)) hns ma ?_
  refine PySem.ks_wpAny_isType_cls hD1 hD2 ⟨rfl, ?_⟩
  have nc : ∀ c, ({ cls := .ref C, dict := none, data := .fields #[.ref t1, .none, .none, .none, .bool false, .none] } : Obj).data ≠ .cls c := fun c z => by cases z
  obtain ⟨hh, g, d, tk, os⟩ := s
  refine PySem.ks_wpAny_call_super hD1 hD2 hox rfl nc (PySem.W.looks_mroIn I.kIn T.sub) fun h' hso k => ?_
  have I1 := I.kept (t' := tk) k
  obtain ⟨nm, qn, N, bs, bm, sn, sub, ab, col, dd, k0, k1, k2, k3, k5, hC, hbm⟩ := T.ox.cls
  have hcl : PySem.W.clsIn K C = some { name := nm, bases := bs, mro := .ref C :: bm, ns := N, qualname := qn, hasDict := true, slotNames := sn, subclasses := sub, abstract := ab, collection := col, hasDel := false } := by
    unfold PySem.W.clsIn
    rw [hC] <;> rfl
  have hini := T.ini
  unfold PySem.W.ks_superIn at hini
  rw [hcl] at hini
  have hox1 := k _ _ hox
  have J : PySem.W.InstAt h' a { cls := .ref C, dict := none, data := .fields #[.ref t1, .none, .none, .none, .bool false, .none] } C none := ⟨hox1, rfl, rfl, trivial⟩
  refine PySem.W.kxs_getMethod PySem.W.kxs_ValueError hso (PySem.W.looks_opaque I1.kIn T.tp) (l₀ := .ref C :: bm) (fun A Q E s k q => wpAny_bind ((PySem.W.looks_clsIn I1.kIn hcl) A _ E s k (wpAny_pure q))) rfl I1.kIn hini (J.type.andThen (PySem.W.looks_subIn I1.kIn T.ve)) (PySem.W.ks_ne I1.kIn J hcl) (by decide) ?_
  have kp : ∀ b o, h'.get? b = some o → (h'.push (PySem.W.kxs_mw "ValueError.__init__" a)).get? b = some o := fun b o z => Heap.get?_push_of_some _ z
  have I2 := I1.kept (t' := tk + 1) kp
  have hu : (h'.push (PySem.W.kxs_mw "ValueError.__init__" a)).get? h'.objs.size = some (PySem.W.kxs_mw "ValueError.__init__" a) := Heap.get?_push_at rfl rfl
  have I3 : Inv (cxS CX P w K mg base ps qual sc f (.ref cda) cc A outer s0 H0 E) [(h'.objs.size, PySem.W.kxs_mw "ValueError.__init__" a)] σ H ⟨h'.push (PySem.W.kxs_mw "ValueError.__init__" a), g, d, tk + 1, os⟩ :=
    ⟨I2.ok, I2.os, I2.bare, I2.base, I2.loc, I2.cell, I2.free, I2.freeC, fun p hp => by
      have hp2 : p = (h'.objs.size, PySem.W.kxs_mw "ValueError.__init__" a) := List.mem_singleton.mp hp
      subst hp2
      exact ⟨hu, I1.hok.fresh (Nat.le_refl _), Nat.ne_of_gt I1.lt, I1.nofs (Nat.le_refl _), fun v z => by cases z⟩, I2.hok, I2.len⟩
  have qa : wpAny (model P w) (A.deeper (envS qual sc s0.heap.objs.size f (.ref cda) cc)) (spliced (backTo p3 (starEach (e :: es) (envS qual sc s0.heap.objs.size f (.ref cda) cc)))) (AP (cxS CX P w K mg base ps qual sc f (.ref cda) cc A outer s0 H0 E) [(h'.objs.size, PySem.W.kxs_mw "ValueError.__init__" a)] σ fun ws H1 => ws.length ≤ 1000 ∧ H1 a = some (exo a C none) ∧ Qn H1) (cxS CX P w K mg base ps qual sc f (.ref cda) cc A outer s0 H0 E).xe ⟨h'.push (PySem.W.kxs_mw "ValueError.__init__" a), g, d, tk + 1, os⟩ := hA.run p3 _ _ σ H _ I3 q
  show wpAny _ _ (callWith p3 (.ref h'.objs.size) [] (backTo p3 (starEach (e :: es) (envS qual sc s0.heap.objs.size f (.ref cda) cc))) []) _ _ _
  rw [he] at qa ⊢
  refine PySem.W.kxs_callWith (i := "ValueError.__init__") (x := a) (by show (false || (backTo p3 (starEach es (envS qual sc s0.heap.objs.size f (.ref cda) cc))).any (·.1)) = false; rw [hpl]; rfl) ?_
  refine PySem.Calls.evalArgs_plain (thn qa fun us s1 ⟨ws, H1, J1, r1, hz, e1, q1⟩ => ?_)
  have pu := J1.pin (h'.objs.size, PySem.W.kxs_mw "ValueError.__init__" a) (List.mem_append_right _ (List.mem_singleton.mpr rfl))
  refine ⟨pu.1, ?_⟩
  have J2 : Inv (cxS CX P w K mg base ps qual sc f (.ref cda) cc A outer s0 H0 E) [] σ H1 s1 :=
    ⟨J1.ok, J1.os, J1.bare, J1.base, J1.loc, J1.cell, J1.free, J1.freeC, fun p hp => J1.pin p (List.mem_append_left _ (by rw [List.append_nil] at hp; exact hp)), J1.hok, J1.len⟩
  have hlen : us.length ≤ sizeLine := by
    rw [← Paired.length r1, sizeLine_eq]
    omega
  exact bound_ok (X := cxS CX P w K mg base ps qual sc f (.ref cda) cc A outer s0 H0 E) T.ox J2 e1 pu.1 hlen fun s' J' => ⟨H1, J', q1⟩
end
/-- how its arguments bind -/
theorem FunS.binds {P : Program} {K : PySem.W.Frag} {x qual : Str} {st : Stmt} {D f : Addr} {fd : FuncData} {ps : List Str} (F : FunS P K x qual st D f fd)
    (h : ∀ (kV doc pm : Value) (an : Option Addr) (cda cc : Addr) (ct : Value) (us : List Value), us.length = ps.length → bindArgs (PySem.W.ksFn x qual (defArgs st) (defBody st) (defScope st) .none kV doc pm an (.ref cda) ct cc) ⟨us, []⟩ = pure (ps.zip us)) : Binds K fd ps [] := by
  obtain ⟨oc, od, kV, doc, pm, an, cda, cc, ct, osl, ccl, cdd, vs, ccs, file, tf, cl, cld, csl, rfl, _⟩ := F.ex
  exact .all (h kV doc pm an cda cc ct)
/-- THE RULE: super().__init__(e), then the rest -/
theorem FunS.ok {P : Program} {w : World} {K : PySem.W.Frag} {mg : Str → Option Value} {base : Heap} {x qual : Str} {st : Stmt} {D C f : Addr} {fd : FuncData} {ps : List Str} {k : Nat} {sp : Sp} {ar : Arg} {p0 p1 p2 p3 p4 : Pos} {e : Expr} {es : List Expr} {rest : List Stmt}
    (F : FunS P K x qual st D f fd) (S : ScS ps (defScope st)) (T : SupC K C D) (hms : mg "super" = none) (htop : (P.main.scope.names.lookup ("super" : Str)).isSome = false)
    (hb : defBody st = .Expr (.Call (.Attribute (.Call (.Name "super" p0) [] [] p1) "__init__" p2) (e :: es) [] p3) p4 :: rest)
    (hp : ((defArgs st).posonlyargs ++ (defArgs st).args).head? = some ar) (h0 : ps[0]? = some ar.arg)
    (len : ∀ vs H Q E, sp vs H Q E → vs.length = ps.length) (self : ∀ vs H Q E, sp vs H Q E → ∃ a r, vs = .ref a :: r ∧ H a = some (exo a C none))
    {pl : Env → Sem Bool} (hc : ∀ env : Env, eval (.Call (.Attribute (.Call (.Name "super" p0) [] [] p1) "__init__" p2) (e :: es) [] p3) env = (do
      let ov ← attributeBase (.Call (.Name "super" p0) [] [] p1) "__init__" env (eval (.Call (.Name "super" p0) [] [] p1) env)
      standAt p2.atName
      let (g, first) ← holding [ov] (getMethod ov "__init__" (pl env))
      callWith p3 g first (backTo p3 (starEach (e :: es) env)) []))
    (he : ∀ env : Env, starEach (e :: es) env = (false, eval e env) :: starEach es env) (hpl : ∀ env : Env, (backTo p3 (starEach es env)).any (·.1) = false)
    (hsw : ∀ env : Env, swapsWith (.Call (.Attribute (.Call (.Name "super" p0) [] [] p1) "__init__" p2) (e :: es) [] p3) none p4.line env = pure false)
    (hbody : ∀ (cda cc : Addr) (A : Around) (outer : List Env) (s : Shared) (H : Hp) (a : Addr) (vr : List V) (Q : VK) (E : XK), Room k (A.deeper (envS qual (defScope st) s.heap.objs.size f (.ref cda) cc)) → sp (.ref a :: vr) H Q E →
      ∃ ta t, PA (cxS CX0 P w K mg base ps qual (defScope st) f (.ref cda) cc A outer s H E) (e :: es) ta ∧ PSs (cxS CX0 P w K mg base ps qual (defScope st) f (.ref cda) cc A outer s H E) rest t ∧
        ta (L2.start ps (.ref a :: vr)) H fun ws H1 => ws.length ≤ 1000 ∧ H1 a = some (exo a C none) ∧ t { nx := fun _ H' => Q .non H', rt := Q } (L2.start ps (.ref a :: vr)) H1) :
    FnOk P w K mg base CX0 (k + 1) f fd ps sp := by
  obtain ⟨oc, od, kV, doc, pm, an, cda, cc, ct, osl, ccl, cdd, cvs, ccs, file, tf, cl, cld, csl, rfl, lk, hcd, lcd, hvs, hfile, lc⟩ := F.ex
  refine ⟨len, fun A outer s H args us vs Q E hr e0 hbind r hsp => ?_⟩
  have hl := len _ _ _ _ hsp
  have KX : K.In s.heap := e0.mod.kin.keeps fun b o z => (e0.bs b o z).1
  have lim : s.heap.NoLimit := e0.mod.nolimit.keeps fun b o z => (e0.bs b o z).1
  obtain ⟨a, vr, rfl, hx⟩ := self _ _ _ _ hsp
  obtain ⟨ta, t, hA, hS, hq⟩ := hbody cda cc A outer s H a vr Q E (hr.deeper _) hsp
  refine PySem.ks_codeAny_call_defAt (fd := PySem.W.ksFn x qual (defArgs st) (defBody st) (defScope st) .none kV doc pm an (.ref cda) ct cc) (body := defBody st) (binds := ps.zip us) hr.depth (KX _ _ lk) rfl lim (PySem.W.codeRec_of KX hcd) rfl hbind S.cell
    (fun y hy => S.par _ (List.of_mem_zip hy).1) (fun h₀ hns hk => ?_) S.co S.gen S.kind
  have I := begin_S (CX := CX0) (A := A) (outer := outer) (E := E) (f := f) (cd := .ref cda) (tk := s.toks + (ps.zip us).length) (qual := qual) S hr.hd e0 hl r lc hns hk
  have s0 : (L2.start ps (V.ref a :: vr))[0]? = some (some (.ref a)) := rfl
  have first := sup_first (body := defBody st) S T I lk hp h0 s0 hx lcd hvs hfile lc hms htop (hc _) hA hq (he _) (hpl _) (hsw _)
  have eb : execs (defBody st) (envS qual (defScope st) s.heap.objs.size f (.ref cda) cc) = execs (.Expr (.Call (.Attribute (.Call (.Name "super" p0) [] [] p1) "__init__" p2) (e :: es) [] p3) p4 :: rest) (envS qual (defScope st) s.heap.objs.size f (.ref cda) cc) := by rw [hb]
  show _root_.PySem.wpAt _ _ _ (execs (defBody st) (envS qual (defScope st) s.heap.objs.size f (.ref cda) cc)) _ _ _
  rw [eb]
  refine PySem.ks_wpAt_execs_cons (PySem.ks_wpAt_mono first (fun fl s' h => ?_) fun _ _ h => h)
  cases fl with
  | next =>
    obtain ⟨H', J, q'⟩ := h
    refine PySem.wpAt_of_wpAny (wpAny_mono (hS.run [] s' _ H' _ J q') (fun fl2 s2 hs => ?_) fun _ _ h => h)
    have fin : ∀ {σ' : L2.St} {H2 : Hp} {v : V} {u : Value}, Inv (cxS CX0 P w K mg base ps qual (defScope st) f (.ref cda) cc A outer s H E) [] σ' H2 s2 → RelV v u → Q v H2 → CE outer P w H s Q u s2 :=
      fun {σ' H2 v u} J rv q => ⟨v, H2, J.os, J.bare, J.base, J.hok, rv, q⟩
    cases fl2 with
    | ret u =>
      obtain ⟨v, σ', H2, J2, rv, q2⟩ := hs
      exact fin J2 rv q2
    | next =>
      obtain ⟨σ', H2, J2, q2⟩ := hs
      exact fin (v := V.non) (u := Value.none) J2 rfl q2
    | brk =>
      obtain ⟨_, _, _, q2⟩ := hs
      exact q2.elim
    | cont =>
      obtain ⟨_, _, _, q2⟩ := hs
      exact q2.elim
  | ret u => exact h.elim
  | brk => exact h.elim
  | cont => exact h.elim
end QX

set_option Elab.async false
set_option linter.all false
set_option maxRecDepth 100000
set_option maxHeartbeats 4000000
namespace QX
open PySem PySem.Spec PyProof.Rows L2
/-! ### such an error as a value: made, asked for its class, read -/
section
variable {X : Cx} {pins : List (Addr × Obj)} {σ : L2.St} {H : Hp} {s : Shared} {a C D u : Addr} {Q : VK}
/-- an error that is held -/
def Held (H : Hp) (a C : Addr) : Prop := H a = some (exo a C none) ∨ ∃ dx fs, H a = some (exo a C (some dx)) ∧ H dx = some (exd dx fs)
theorem held_at (I : Inv X pins σ H s) (h : Held H a C) : ∃ ox od, PySem.W.InstAt s.heap a ox C od := by
  rcases h with h | ⟨dx, fs, h, hd⟩
  · obtain ⟨t1, e⟩ := exo_at I.hok h
    exact ⟨_, none, e, rfl, rfl, trivial⟩
  · obtain ⟨t1, e⟩ := exo_at I.hok h
    obtain ⟨mA, hns, _⟩ := exd_at I.hok hd
    obtain ⟨od, es, ep, ho, _⟩ := hns
    exact ⟨_, some od, e, rfl, rfl, ho⟩
theorem run_exo {CX : CXT} {fI : Addr} {k : Nat} {fd : FuncData} {ps : List Str} {sp : Sp} {vs : List V} {us : List Value} (T : OexC X.K C) (iC : PySem.W.findIn X.K (.ref C) "__init__" = some (some (.ref fI))) (tI : PySem.W.typeIn X.K (.ref fI) = some (.type "function"))
    (F1 : FnOk X.prog X.w X.K X.mg X.base CX k fI fd ps sp) (hr : Room (k + 1) X.A) (hb : Binds X.K fd ps []) (hx : Passes CX X (fun _ _ _ => False)) (I1 : Inv X pins σ H s) (r1 : Vals vs us) (hz : vs.length ≤ 1000)
    (q1 : ∀ a, H a = none → sp (.ref a :: vs) (upd H a (exo a C none)) (fun v H2 => v = .non ∧ Q (.ref a) H2) fun _ _ _ => False) :
    wpAny (model X.prog X.w) X.A (call (.ref C) us) (fun u s' => ∃ v H', Inv X pins σ H' s' ∧ RelV v u ∧ Q v H') X.xe s := by
  obtain ⟨nm, q, N, bs, bm, sn, sub, ab, col, dd, k0, k1, k2, k3, k5, hC, hbm⟩ := T.cls
  obtain ⟨hp, g, dr, tk, os⟩ := s
  have hn : H (hp.objs.size + 1) = none := I1.hok.fresh (Nat.le_succ _)
  have hq := q1 (hp.objs.size + 1) hn
  have kk : ∀ b o, hp.get? b = some o → ((hp.push (PySem.W.kdv_tup us)).push (PySem.HandSPX.excO C hp.objs.size)).get? b = some o := fun b o e => Heap.get?_push_of_some _ (Heap.get?_push_of_some _ e)
  have hget : ((hp.push (PySem.W.kdv_tup us)).push (PySem.HandSPX.excO C hp.objs.size)).get? (hp.objs.size + 1) = some (PySem.HandSPX.excO C hp.objs.size) := by heap_get
  have I2 : Inv X pins σ (upd H (hp.objs.size + 1) (exo (hp.objs.size + 1) C none)) ⟨(hp.push (PySem.W.kdv_tup us)).push (PySem.HandSPX.excO C hp.objs.size), g, dr, tk, os⟩ :=
    I1.laid (t' := tk) kk (Nat.le_succ _) (exo_ok hget)
  have r2 : Vals (V.ref (hp.objs.size + 1) :: vs) (Value.ref (hp.objs.size + 1) :: us) := .cons rfl r1
  have hl : (Value.ref (hp.objs.size + 1) :: us ++ []).length = ps.length := by
    have e := r2.length
    rw [F1.len _ _ _ _ hq] at e
    rw [List.append_nil]
    exact e.symm
  have hus : us.length ≤ sizeLine := by
    rw [← Paired.length r1, sizeLine_eq]
    omega
  have hbb := hb _ (Value.ref (hp.objs.size + 1) :: us) I2.kIn hl
  rw [List.append_nil] at hbb
  refine wpAny_call (PySem.HandSPX.call_own F.excBase_ValueError (fun Y => PySem.HandSPX.refsVE_contains Y bm hbm) (I1.kIn _ _ hC) (PySem.W.looks_findIn I1.kIn iC) (fun self => PySem.W.bind_fn I1.kIn self tI) hus
    (codeAny_mono (F1.run _ X.stack _ _ ⟨Value.ref (hp.objs.size + 1) :: us, []⟩ _ _ _ (fun _ _ _ => False) (hr.make C us []) (I2.env0.make C us []) hbb r2 hq) fun r s' hq' => ?_))
  cases r with
  | error er => exact hx pins σ _ _ er s' I2 hq'
  | ok fl =>
    cases fl with
    | ret u =>
      obtain ⟨v, H2, os2, bare2, un2, hok2, rv, ev, q2⟩ := hq'
      subst ev
      exact ⟨rv, .ref (hp.objs.size + 1), H2, I2.call' (ch := []) os2 un2 hok2 bare2 (fun b z => absurd z (by simp)), rfl, q2⟩
    | next => exact False.elim hq'
    | brk => exact False.elim hq'
    | cont => exact False.elim hq'
end
/-- C(e, ..) as a value -/
def tMkV (C : Addr) (sp : Sp) (ta : TA) : TE := fun σ H Q => ta σ H fun vs H1 => vs.length ≤ 1000 ∧ ∀ a, H1 a = none → sp (.ref a :: vs) (upd H1 a (exo a C none)) (fun v H2 => v = .non ∧ Q (.ref a) H2) fun _ _ _ => False
section
variable {X : Cx} {CX : CXT} {x : Str} {C fI : Addr} {k : Nat} {fd : FuncData} {ps : List Str} {sp : Sp} {e : Expr} {es : List Expr} {ta : TA} {p pos : Pos}
theorem pe_exo (T : OexC X.K C) (iC : PySem.W.findIn X.K (.ref C) "__init__" = some (some (.ref fI))) (tI : PySem.W.typeIn X.K (.ref fI) = some (.type "function"))
    (F1 : FnOk X.prog X.w X.K X.mg X.base CX k fI fd ps sp) (hr : Room (k + 1) X.A) (hb : Binds X.K fd ps []) (hx : Passes CX X (fun _ _ _ => False)) (hg : Gl X x) (hm : X.mg x = some (.ref C)) (ha : PA X (e :: es) ta)
    (hdb : (x == ("__debug__" : Str)) = false := by decide) (he : starEach (e :: es) X.env = (false, eval e X.env) :: starEach es X.env := by rfl) (hpl : (backTo pos (starEach es X.env)).any (·.1) = false := by rfl) :
    PE X (.Call (.Name x p) (e :: es) [] pos) (tMkV C sp ta) := by
  refine ⟨fun pins s σ H Q I h => ?_⟩
  refine wpAny_Call_Name_kw (ld_glob I hg hm ?_ hdb)
  refine PySem.W.callWith_K (h₀ := X.base) I.ok.mod.kin T.kC (thn (ha.run pos pins s σ H _ I h) fun us s1 ⟨vs, H1, I1, r1, hz, q1⟩ => ⟨I1.kIn, ?_⟩) he hpl
  exact run_exo T iC tI F1 hr hb hx I1 r1 hz q1
theorem pe_exo0 (T : OexC X.K C) (iC : PySem.W.findIn X.K (.ref C) "__init__" = some (some (.ref fI))) (tI : PySem.W.typeIn X.K (.ref fI) = some (.type "function"))
    (F1 : FnOk X.prog X.w X.K X.mg X.base CX k fI fd ps sp) (hr : Room (k + 1) X.A) (hb : Binds X.K fd ps []) (hx : Passes CX X (fun _ _ _ => False)) (hg : Gl X x) (hm : X.mg x = some (.ref C))
    (hdb : (x == ("__debug__" : Str)) = false := by decide) : PE X (.Call (.Name x p) [] [] pos) (tMkV C sp tNil) := by
  refine ⟨fun pins s σ H Q I h => ?_⟩
  refine wpAny_Call_Name_kw (ld_glob I hg hm ?_ hdb)
  obtain ⟨hz, q1⟩ := h
  exact PySem.W.callWith_K0 I.kIn T.kC (run_exo T iC tI F1 hr hb hx I .nil hz q1)
/-- what isinstance asks of the class -/
structure IsC (K : PySem.W.Frag) (C : Addr) : Prop where
  cl : (PySem.W.clsIn K C).isSome = true
  ga : PySem.W.findIn K (.ref C) "__getattribute__" = some (some (.builtin "BaseException.__getattribute__"))
  gg : PySem.W.findIn K (.ref C) "__getattr__" = some none
  sb : PySem.W.subIn K (.ref C) (.type "BaseException") = some true
  ca : PySem.W.findIn K (.ref C) "__class__" = some (some (.builtin "object.__class__"))
  cn : PySem.W.specialIn K (.builtin "object.__class__") "__get__" = some (some (.builtin "getset_descriptor.__get__"))
  ct : PySem.W.takesIn K (.builtin "object.__class__") = some true
  mo : PySem.W.mroIn K C (.type "object") = some true
  hd : PySem.W.hasDictIn K C = true
def rIsX (K : PySem.W.Frag) : List V → Hp → VK → Prop := fun xs H Q => ∃ (a C : Addr) (c : V) (t : Value) (b : Bool), xs = [.ref a, c] ∧ Held H a C ∧ IsC K C ∧ ClsV c t ∧ PySem.W.kitOne K (.ref C) t = some b ∧ Q (.bl b) H
theorem call_isX : CallR X (.builtin "isinstance") (rIsX X.K) := by
  intro pins s σ H xs us Q I r h
  obtain ⟨a, C, c, t, b, rfl, hh, T, hc, e, q⟩ := h
  cases r with
  | cons rx rr =>
    cases rr with
    | cons rt rr =>
      cases rr
      cases rx
      have ec := hc.eq rt
      subst ec
      obtain ⟨ox, od, J⟩ := held_at I hh
      exact PySem.W.kia_one (PySem.W.kitx_exc T.cl T.ga T.gg T.sb T.ca T.cn T.ct T.mo) I.kIn J e (fun z => nomatch z) fun tk => ⟨.bl b, H, I.kept (t' := tk) fun _ _ z => z, rfl, q⟩
/-- e.f of such an error -/
def tFx (K : PySem.W.Frag) (f : Str) (te : TE) : TE := fun σ H Q => te σ H fun x H1 => ∃ (a C dx : Addr) (fs : List (Str × V)) (v : V), x = .ref a ∧ IsC K C ∧ PySem.W.findIn K (.ref C) f = some none ∧ H1 a = some (exo a C (some dx)) ∧ H1 dx = some (exd dx fs) ∧ fs.lookup f = some v ∧ Q v H1
theorem pe_fx {o : Expr} {te : TE} {f : Str} (he : PE X o te) (hb : attributeBase o f X.env (eval o X.env) = eval o X.env := by rfl) : PE X (.Attribute o f pos) (tFx X.K f te) := by
  refine ⟨fun pins s σ H Q I h => ?_⟩
  refine attr_of hb (thn (he.run pins s σ H _ I h) fun u s1 hh => ?_)
  obtain ⟨y, H1, I1, ry, a, C, dx, fs, v, ey, T, hno, ha, hd, hl, q⟩ := hh
  subst ey
  obtain rfl : u = Value.ref a := ry
  obtain ⟨t1, ho⟩ := exo_at I1.hok ha
  obtain ⟨mA, hns, rel⟩ := exd_at I1.hok hd
  obtain ⟨od, hod, hlk⟩ := lookIn_ns hns
  obtain ⟨u, hu, ru⟩ := RelO.some_of (v := v) (o := mA f) (by rw [← hl]; exact rel f)
  have J : PySem.W.InstAt s1.heap a _ C (some od) := ⟨ho, rfl, rfl, hod⟩
  exact HandSPX.exc_get I1.kIn J T.ga T.gg T.sb (PySem.W.findObj_own T.hd hno rfl (by rw [hlk, hu])) (handed_of ru) ⟨v, H1, I1.tok _, ru, q⟩
end
/-- an error class of the text, as the top has made it -/
structure Err (P : Program) (K : PySem.W.Frag) (mg : Str → Option Value) (x qual : Str) (st : Stmt) (ps attrs : List Str) where
  C : Addr
  f : Addr
  fd : FuncData
  F : FunS P K "__init__" qual st C f fd
  b : Binds K fd ps []
  S : SupC K C C
  T : IsC K C
  g : mg x = some (.ref C)
  ini : PySem.W.findIn K (.ref C) "__init__" = some (some (.ref f))
  tI : PySem.W.typeIn K (.ref f) = some (.type "function")
  no : ∀ y ∈ attrs, PySem.W.findIn K (.ref C) y = some none
/-- what may be written into its text -/
def Say : V → Prop
  | .str y => y.length ≤ 1000
  | .int i => 0 ≤ i ∧ i < 10 ^ 10
  | _ => False
def spI0 (C : Addr) : Sp := fun vs H Q _ => ∃ a, vs = [.ref a] ∧ H a = some (exo a C none) ∧ Q .non H
def spI1 (C : Addr) (n : Str) : Sp := fun vs H Q _ => ∃ a v, vs = [.ref a, v] ∧ H a = some (exo a C none) ∧ Say v ∧
  ∀ dx H', H dx = none → (∀ b o, b ≠ a → H b = some o → H' b = some o) → H' a = some (exo a C (some dx)) → H' dx = some (exd dx [(n, v)]) → Q .non H'
def spI2 (C : Addr) (n m : Str) : Sp := fun vs H Q _ => ∃ a v u, vs = [.ref a, v, u] ∧ H a = some (exo a C none) ∧ Say v ∧ Say u ∧
  ∀ dx H', H dx = none → (∀ b o, b ≠ a → H b = some o → H' b = some o) → H' a = some (exo a C (some dx)) → H' dx = some (exd dx [(m, u), (n, v)]) → Q .non H'
theorem fin1 {H : Hp} {a dx C : Addr} {fs : List (Str × V)} (nd : H dx = none) (ne : dx ≠ a) {R : Hp → Prop}
    (q : ∀ H', H dx = none → (∀ b o, b ≠ a → H b = some o → H' b = some o) → H' a = some (exo a C (some dx)) → H' dx = some (exd dx fs) → R H') : R (upd (upd H dx (exd dx fs)) a (exo a C (some dx))) :=
  q _ nd (fun b o nb e => by rw [upd_ne nb, upd_ne (ne_of_none e nd)]; exact e) upd_same (by rw [upd_ne ne, upd_same])
theorem fin2 {H : Hp} {a dx C : Addr} {fs gs : List (Str × V)} (nd : H dx = none) (ne : dx ≠ a) {R : Hp → Prop}
    (q : ∀ H', H dx = none → (∀ b o, b ≠ a → H b = some o → H' b = some o) → H' a = some (exo a C (some dx)) → H' dx = some (exd dx gs) → R H') : R (upd (upd (upd H dx (exd dx fs)) a (exo a C (some dx))) dx (exd dx gs)) :=
  q _ nd (fun b o nb e => by rw [upd_ne (ne_of_none e nd), upd_ne nb, upd_ne (ne_of_none e nd)]; exact e) (by rw [upd_ne ne.symm, upd_same]) upd_same
theorem digits {i : Int} (h0 : 0 ≤ i) (h : i < 10 ^ 10) : (PySem.Str.ofString (toString i)).length ≤ 10 := toString_length_le h0 (by decide) h
theorem log_of {i : Int} (h0 : 0 ≤ i) (h : i < 10 ^ 10) : i.natAbs.log2 < 1920 := by
  have h1 : i.natAbs < 2 ^ 40 := by omega
  have := PySem.Flt.log2_lt_of (by decide : 0 < 40) h1
  omega
theorem app_len (x y : Str) : (x ++ y).length = x.length + y.length := by
  show (x.cps ++ y.cps).size = x.cps.size + y.cps.size
  exact Array.size_append
theorem Say.two {v : V} (h : Say v) : (∃ y : Str, v = .str y ∧ y.length ≤ 1000) ∨ ∃ i : Int, v = .int i ∧ i.natAbs.log2 < 1920 ∧ (toString i : Str).length ≤ 10 := by
  cases v with
  | str y => exact .inl ⟨y, rfl, h⟩
  | int i =>
    obtain ⟨h0, h1⟩ : 0 ≤ i ∧ i < 10 ^ 10 := h
    exact .inr ⟨i, rfl, log_of h0 h1, digits h0 h1⟩
  | non => exact h.elim
  | bl _ => exact h.elim
  | byt _ => exact h.elim
  | flt _ => exact h.elim
  | ref _ => exact h.elim
  | ty _ => exact h.elim
theorem big {n : Nat} (h : n ≤ 5000) : n ≤ sizeLine := Nat.le_trans h (by decide)
theorem len_app {x y : Str} {a b : Nat} (hx : x.length ≤ a) (hy : y.length ≤ b) : (x ++ y).length ≤ a + b := by
  rw [app_len]
  omega
/-- what is asked of an error's class, as one test -/
def errB (K : PySem.W.Frag) (C f : Addr) (attrs : List Str) : Bool :=
  decide (PySem.W.findIn K (.ref C) "__setattr__" = some (some (.builtin "object.__setattr__"))) && (decide (PySem.W.subIn K (.ref C) (.type "BaseException") = some true) &&
  (decide (PySem.W.typeIn K (.ref C) = some (.type "type")) && (PySem.W.keepIn K (.ref C) && ((PySem.W.clsIn K C).isSome && (decide (PySem.W.mroIn K C (.ref C) = some true) &&
  (decide (PySem.W.ks_superIn K C C "__init__" = some (some (.builtin "ValueError.__init__"))) && (decide (PySem.W.subIn K (.ref C) (.type "ValueError") = some true) && (decide (PySem.W.nsIn K cStatics "thirdparty.any" = some none) &&
  (decide (PySem.W.findIn K (.ref C) "__getattribute__" = some (some (.builtin "BaseException.__getattribute__"))) && (decide (PySem.W.findIn K (.ref C) "__getattr__" = some none) &&
  (decide (PySem.W.findIn K (.ref C) "__class__" = some (some (.builtin "object.__class__"))) && (decide (PySem.W.specialIn K (.builtin "object.__class__") "__get__" = some (some (.builtin "getset_descriptor.__get__"))) &&
  (decide (PySem.W.takesIn K (.builtin "object.__class__") = some true) && (decide (PySem.W.mroIn K C (.type "object") = some true) && (PySem.W.hasDictIn K C &&
  (decide (PySem.W.typeIn K (.ref f) = some (.type "function")) && attrs.all fun y => decide (PySem.W.findIn K (.ref C) y = some none)))))))))))))))))
theorem err_of {P : Program} {K : PySem.W.Frag} {mg : Str → Option Value} {x qual : Str} {st : Stmt} {ps attrs : List Str} {C f : Addr} {fd : FuncData} (F : FunS P K "__init__" qual st C f fd) (b : Binds K fd ps []) (g : mg x = some (.ref C))
    (cls : ∃ nm q N bs bm sn sub ab col dd k0 k1 k2 k3 k5, K.lookup C = some (excClassObj nm q C N bs bm true sn sub ab col dd k0 k1 k2 k3 k5 "ValueError.__new__") ∧ PySem.HandSPX.refsVE bm = true)
    (ini : PySem.W.findIn K (.ref C) "__init__" = some (some (.ref f))) (h : errB K C f attrs = true) : Nonempty { E : Err P K mg x qual st ps attrs // E.C = C } := by
  unfold errB at h
  simp only [Bool.and_eq_true, decide_eq_true_eq, List.all_eq_true] at h
  obtain ⟨h1, h2, h3, h4, h5, h6, h7, h8, h9, h10, h11, h12, h13, h14, h15, h16, h17, h18⟩ := h
  exact ⟨⟨⟨C, f, fd, F, b, ⟨⟨cls, h1, h2, h3, h4⟩, Option.isSome_iff_exists.mp h5, h6, h7, h8, h9⟩, ⟨h5, h10, h11, h2, h12, h13, h14, h15, h16⟩, g, ini, h17, h18⟩, rfl⟩⟩
/-- isinstance between errors of the text: each is of its own class alone, of the class q and a ValueError -/
def isB (K : PySem.W.Frag) (q : Addr) (cs : List Addr) : Bool := (List.range cs.length).all fun i => decide (PySem.W.kitOne K (.ref (cs.getD i 0)) (.type "ValueError") = some true) && (decide (PySem.W.kitOne K (.ref (cs.getD i 0)) (.ref q) = some true) &&
  (List.range cs.length).all fun j => decide (PySem.W.kitOne K (.ref (cs.getD i 0)) (.ref (cs.getD j 0)) = some (decide (i = j))))
theorem isB_of {K : PySem.W.Frag} {q : Addr} {cs : List Addr} (h : isB K q cs = true) {i : Nat} (hi : i < cs.length) : PySem.W.kitOne K (.ref (cs.getD i 0)) (.type "ValueError") = some true ∧ PySem.W.kitOne K (.ref (cs.getD i 0)) (.ref q) = some true ∧
    ∀ j, j < cs.length → PySem.W.kitOne K (.ref (cs.getD i 0)) (.ref (cs.getD j 0)) = some (decide (i = j)) := by
  unfold isB at h
  rw [List.all_eq_true] at h
  have h1 := h i (List.mem_range.mpr hi)
  simp only [Bool.and_eq_true, decide_eq_true_eq, List.all_eq_true] at h1
  exact ⟨h1.1, h1.2.1, fun j hj => h1.2.2 j (List.mem_range.mpr hj)⟩
end QX

set_option Elab.async false
set_option linter.all false
set_option maxRecDepth 100000
set_option maxHeartbeats 4000000
/-! An own error raised, caught, and its field read in the suite. -/
namespace QX
open PySem PySem.Spec PyProof.Rows L2
theorem Err.xf {P : Program} {K : PySem.W.Frag} {mg : Str → Option Value} {x qual : Str} {st : Stmt} {ps attrs : List Str} (R : Err P K mg x qual st ps attrs) : XfC K R.C := ⟨R.T.ga, R.T.gg, R.T.sb, R.T.hd⟩
/-- a callee that may raise, where it is shown that it doesn't -/
theorem passF {X : Cx} : Passes (L2.CX X.prog X.w) X (fun _ _ _ => False) := fun _ _ _ _ _ _ _ c => by
  obtain ⟨_, _, _, _, _, _, _, _, _, _, _, _, z⟩ := c
  exact z.elim
/-- a callee that may raise, in a def that lets it out -/
theorem passE {X : Cx} {E : XK} {E₁ : Value → Shared → Prop} (hs : X.stack = X.env :: X.outer := by rfl) (hf : X.env.frame = some X.env.locals := by rfl) (hex : X.ex = [] := by rfl)
    (hx : X.xe = (fun e s' => wpAny (model X.prog X.w) X.A (leaving X.env e) (fun _ s'' => CX X.prog X.w X.outer X.H_0 X.s_0 E e s'') E₁ s') := by rfl) : Passes (L2.CX X.prog X.w) X E :=
  passes_call (takes_of hs hf hex hx) fun _ _ _ _ h => h
/-- what raise X(v) asks, v its one part -/
theorem mkO1_of {C : Addr} {n : Str} {v : V} {H1 : Hp} {Q : XK} (sv : Say v) (q : ∀ d G, H1 d = none → (∀ b o, H1 b = some o → G b = some o) → G d = some (.xd [(n, v)]) → Q (.ref C) (some d) G) :
    ([v] : List V).length ≤ 1000 ∧ ∀ a, H1 a = none → spI1 C n (.ref a :: ([v] ++ [])) (upd H1 a (exo a C none)) (fun x H2 => x = .non ∧ ∃ (d : Addr) (fs : List (Str × V)), H2 a = some (exo a C (some d)) ∧ H2 d = some (exd d fs) ∧ H1 d = none ∧ Q (.ref C) (some d) (upd (del H2 a) d (.xd fs))) fun _ _ _ => False := by
  refine ⟨by show 1 ≤ 1000; decide, fun a na => ⟨a, v, rfl, upd_same, sv, fun dx H' nd kp ha hd => ⟨rfl, dx, _, ha, hd, ?_, ?_⟩⟩⟩
  · by_cases e : dx = a
    · rw [e, upd_same] at nd
      cases nd
    · rwa [upd_ne e] at nd
  · have n1 : H1 dx = none := by
      by_cases e : dx = a
      · rw [e, upd_same] at nd
        cases nd
      · rwa [upd_ne e] at nd
    refine q dx _ n1 (fun b o hb => ?_) upd_same
    rw [upd_ne (ne_of_none hb n1), del_ne (ne_of_none hb na)]
    exact kp b o (ne_of_none hb na) (by rw [upd_ne (ne_of_none hb na)]; exact hb)
/-- what raise X(v, u) asks -/
theorem mkO2_of {C : Addr} {n m : Str} {v u : V} {H1 : Hp} {Q : XK} (sv : Say v) (su : Say u) (q : ∀ d G, H1 d = none → (∀ b o, H1 b = some o → G b = some o) → G d = some (.xd [(m, u), (n, v)]) → Q (.ref C) (some d) G) :
    ([v, u] : List V).length ≤ 1000 ∧ ∀ a, H1 a = none → spI2 C n m (.ref a :: ([v, u] ++ [])) (upd H1 a (exo a C none)) (fun x H2 => x = .non ∧ ∃ (d : Addr) (fs : List (Str × V)), H2 a = some (exo a C (some d)) ∧ H2 d = some (exd d fs) ∧ H1 d = none ∧ Q (.ref C) (some d) (upd (del H2 a) d (.xd fs))) fun _ _ _ => False := by
  refine ⟨by show 2 ≤ 1000; decide, fun a na => ⟨a, v, u, rfl, upd_same, sv, su, fun dx H' nd kp ha hd => ⟨rfl, dx, _, ha, hd, ?_, ?_⟩⟩⟩
  · by_cases e : dx = a
    · rw [e, upd_same] at nd
      cases nd
    · rwa [upd_ne e] at nd
  · have n1 : H1 dx = none := by
      by_cases e : dx = a
      · rw [e, upd_same] at nd
        cases nd
      · rwa [upd_ne e] at nd
    refine q dx _ n1 (fun b o hb => ?_) upd_same
    rw [upd_ne (ne_of_none hb n1), del_ne (ne_of_none hb na)]
    exact kp b o (ne_of_none hb na) (by rw [upd_ne (ne_of_none hb na)]; exact hb)
end QX

set_option Elab.async false
set_option linter.all false
set_option maxRecDepth 100000
/-! a dict of the module's top with text keys: d.get(k, x), d[k], k in d -/
namespace KDx
open PySem PySem.Spec PyProof.Rows L2
section
variable {X : Cx} {o e f : Expr} {apos cpos : Pos} {td ty tx : TE}
def tKGet2 (K : PySem.W.Frag) (w : World) (td ty tx : TE) : TE := fun σ H Q => td σ H fun x H1 => ∃ d es n, x = .ref d ∧ KDict K w d es n ∧ ty σ H1 fun y H2 => tx σ H2 fun z H3 => ∃ (q : Str) (r : Option Value), y = .str q ∧ PySem.W.nsIn K d q = some r ∧
  (r = none → Q z H3) ∧ (∀ u, r = some u → ∃ v, RelV v u ∧ Q v H3)
theorem pe_kget2 (ho : PE X o td) (he : PE X e ty) (hf : PE X f tx) (m : M2 X o "get" apos e f cpos := by exact ⟨rfl, rfl, rfl, rfl⟩) : PE X (.Call (.Attribute o "get" apos) [e, f] [] cpos) (tKGet2 X.K X.w td ty tx) := by
  refine ⟨fun pins s σ H Q I h => ?_⟩
  refine wpAny_Call_method m.base m.few m.line PySem.F.plainAttrs_dict PySem.F.slot_dict_get PySem.F.type_dict_get (thn (ho.run pins s σ H _ I h) fun u s1 ⟨x, H1, I1, rx, d, es, n, ex, D, q1⟩ => ?_)
  subst ex
  obtain rfl : u = Value.ref d := rx
  have hm1 := PySem.W.mapOf_K (prog := X.prog) (w := X.w) I1.kIn D.at_ D.lit
  refine ⟨hm1.typeIs, fun b e => by cases e; exact ⟨_, I1.kIn _ _ D.at_, rfl⟩, ?_⟩
  rw [m.trees]
  refine Calls.callWith_builtin rfl (Calls.evalArgs_plain (Calls.spliced_cons (thn (he.run pins s1 σ H1 _ I1 q1) fun iv s2 ⟨y, H2, I2, ry, q2⟩ =>
    Calls.spliced_cons (thn (hf.run pins s2 σ H2 _ I2 q2) fun fv s3 ⟨z, H3, I3, rz, q, r, ey, er, qn, qs⟩ => Calls.spliced_nil ?_))))
  subst ey
  obtain ⟨t, rfl⟩ := ry
  have hm := PySem.W.mapOf_K (prog := X.prog) (w := X.w) I3.kIn D.at_ D.lit
  refine call_meetsIn PySem.F.slot_dict_get hm.typeIs PySem.F.entry_dict_get (PySem.F.args_dict_get_3 _ _ _) (meets_dict_get_default (strKind X.prog X.w) d (strKind_is X.prog X.w q t) D.low fv) ⟨_, hm, ?_⟩
  rw [PySem.W.find_K D.at_ er]
  cases r with
  | none => exact ⟨z, H3, I3.tok _, rz, qn rfl⟩
  | some u =>
    obtain ⟨v, rv, qv⟩ := qs u rfl
    exact ⟨v, H3, I3.tok _, rv, qv⟩
end
/-- what d.get(x, dflt) gives for each x of the list -/
def getB (K : PySem.W.Frag) (a : Addr) (dflt : Int) (l : List (Str × Int)) : Bool := l.all fun q => match PySem.W.nsIn K a q.1 with
  | some none => q.2 == dflt
  | some (some (.int i _)) => i == q.2
  | _ => false
theorem getB_ok {K : PySem.W.Frag} {a : Addr} {dflt : Int} {l : List (Str × Int)} (h : getB K a dflt l = true) {x : Str} {v : Int} (hx : (x, v) ∈ l) : ∃ r, PySem.W.nsIn K a x = some r ∧ (r = none → v = dflt) ∧ (∀ u, r = some u → RelV (.int v) u) := by
  have q := List.all_eq_true.mp h _ hx
  dsimp only at q
  split at q
  · rename_i e
    exact ⟨none, e, fun _ => by simpa using q, fun u z => by cases z⟩
  · rename_i i t e
    refine ⟨_, e, fun z => (by cases z), fun u z => ?_⟩
    cases z
    have : i = v := by simpa using q
    subst this
    exact ⟨t, rfl⟩
  · cases q
/-- the values of a dict of texts -/
def strB (K : PySem.W.Frag) (a : Addr) (l : List (Str × Str)) : Bool := l.all fun q => match PySem.W.nsIn K a q.1 with
  | some (some (.str z _)) => decide (z = q.2)
  | _ => false
theorem strB_ok {K : PySem.W.Frag} {a : Addr} {l : List (Str × Str)} (h : strB K a l = true) {x z : Str} (hx : (x, z) ∈ l) : ∃ u, PySem.W.nsIn K a x = some (some u) ∧ RelV (.str z) u := by
  have q := List.all_eq_true.mp h _ hx
  dsimp only at q
  split at q
  · rename_i y t e
    have : y = z := by simpa using q
    subst this
    exact ⟨_, e, t, rfl⟩
  · cases q
def cycles25 : List (Str × Int) := [("set", 1), ("move", 1), ("add", 1), ("addc", 1), ("sub", 1), ("subc", 1), ("and", 1), ("or", 1), ("xor", 1), ("less", 1), ("down", 1), ("up", 1), ("carry", 1), ("clear", 1), ("load", 1), ("store", 1), ("below", 1), ("halt", 1),
  ("downby", 2), ("jump", 2), ("call", 2), ("ret", 2), ("div", 2), ("mul", 4), ("high", 4)]
end KDx

set_option Elab.async false
set_option linter.all false
set_option maxRecDepth 100000
/-! heaps that a law's own text works on: what it holds, as a list of addresses and objects; the two first helpers' promises -/
namespace Lw
open PySem PySem.Spec PyProof.Rows L2
theorem same_upd {H : Hp} {p : Addr} {o : HO} (h : H p = none) : Same H (upd H p o) := fun b x e => by
  rw [upd_ne (ne_of_none e h)]
  exact e
/-- what stood stands, but for the object at p -/
def Keep (H H' : Hp) (p : Addr) : Prop := ∀ b o, b ≠ p → H b = some o → H' b = some o
theorem Keep.trans {H H1 H2 : Hp} {p : Addr} (a : Keep H H1 p) (b : Keep H1 H2 p) : Keep H H2 p := fun c o n e => b c o n (a c o n e)
theorem keep_upd (H : Hp) (p : Addr) (o : HO) : Keep H (upd H p o) p := fun b u n e => by
  rw [upd_ne n]
  exact e
theorem Same.keep {H H' : Hp} {p : Addr} (s : Same H H') : Keep H H' p := fun b o _ e => s b o e
theorem Keep.new {H H1 H2 : Hp} {p : Addr} (n : H p = none) (s : Same H H1) (k : Keep H1 H2 p) : Same H H2 := fun b o e => k b o (ne_of_none e n) (s b o e)
theorem Keep.free {H H' : Hp} {p r : Addr} {o : HO} (k : Keep H H' p) (hp : H' p = some o) (hr : H' r = none) : H r = none := by
  cases e : H r with
  | none => rfl
  | some u =>
    have n : r ≠ p := fun z => by
      rw [z, hp] at hr
      cases hr
    rw [k r u n e] at hr
    cases hr
theorem at_int {ns : List Int} {i : Int} (h0 : 0 ≤ i) (h1 : i < ns.length) : ∃ z, atI (ns.map V.int) i = some (.int z) := by
  obtain ⟨j, rfl⟩ := Int.eq_ofNat_of_zero_le h0
  have hj : j < ns.length := by omega
  refine ⟨ns[j], atI_nat ?_⟩
  rw [List.getElem?_map, List.getElem?_eq_getElem hj]
  rfl
def spSource (K : PySem.W.Frag) : Sp := fun vs H Q _ => ∃ (a : Addr) (ns : List Int) (k : Int), vs = [.ref a, .int k] ∧ SqL K H a (ns.map V.int) ∧ ns.length ≤ 63 ∧ 0 ≤ k ∧
  ∀ (p : Addr) (x y : Int), H p = none → 0 ≤ x → Q (.ref p) (upd H p (.lst [.int x, .int y]))
def spDraw : Sp := fun vs H Q _ => ∃ (p : Addr) (x y m : Int), vs = [.ref p, .int m] ∧ H p = some (.lst [.int x, .int y]) ∧ 0 ≤ x ∧ 0 < m ∧ m ≤ 100000 ∧
  ∀ (v x' y' : Int), 0 ≤ v → v < m → 0 ≤ x' → Q (.int v) (upd H p (.lst [.int x', .int y']))
/-- since H0: what stood stands; L: what is new and known, each place once -/
structure Objs (H0 H : Hp) (L : List (Addr × HO)) : Prop where
  same : Same H0 H
  at_ : ∀ q ∈ L, H q.1 = some q.2
  nd : (L.map (·.1)).Nodup
  new : ∀ q ∈ L, H0 q.1 = none
section
variable {H0 H H' : Hp} {L : List (Addr × HO)} {a : Addr} {o o' : HO} {i : Nat}
theorem Objs.nil (H : Hp) : Objs H H [] := ⟨Same.refl H, fun _ h => absurd h (by simp), List.nodup_nil, fun _ h => absurd h (by simp)⟩
theorem Objs.get (h : Objs H0 H L) (i : Nat) (hi : L[i]? = some (a, o)) : H a = some o := h.at_ _ (List.mem_of_getElem? hi)
theorem Objs.mono (h : Objs H0 H L) (s : Same H H') : Objs H0 H' L := ⟨h.same.trans s, fun q hq => s _ _ (h.at_ q hq), h.nd, h.new⟩
theorem Objs.fresh (h : Objs H0 H L) (n : H a = none) : a ∉ L.map (·.1) ∧ H0 a = none :=
  ⟨fun z => (by
    obtain ⟨q, hq, e⟩ := List.mem_map.mp z
    have := h.at_ q hq
    rw [e, n] at this
    cases this), h.same.free n⟩
theorem Objs.push (h : Objs H0 H L) (n : H a = none) (s : Same H H') (e : H' a = some o) : Objs H0 H' ((a, o) :: L) := by
  obtain ⟨h1, h2⟩ := h.fresh n
  refine ⟨h.same.trans s, fun q hq => ?_, ?_, fun q hq => ?_⟩
  · rcases List.mem_cons.mp hq with z | z
    · rw [z]; exact e
    · exact s _ _ (h.at_ q z)
  · rw [List.map_cons, List.nodup_cons]
    exact ⟨h1, h.nd⟩
  · rcases List.mem_cons.mp hq with z | z
    · rw [z]; exact h2
    · exact h.new q z
theorem Objs.add (h : Objs H0 H L) (n : H a = none) : Objs H0 (upd H a o) ((a, o) :: L) := h.push n (same_upd n) upd_same
theorem Objs.skip (h : Objs H0 H L) (n : H a = none) : Objs H0 (upd H a o) L := h.mono (same_upd n)
theorem Objs.set (h : Objs H0 H L) (i : Nat) (hi : L[i]? = some (a, o)) (k : Keep H H' a) (e : H' a = some o') : Objs H0 H' (L.set i (a, o')) := by
  have hm : (a, o) ∈ L := List.mem_of_getElem? hi
  obtain ⟨hlt, hie⟩ := List.getElem?_eq_some_iff.mp hi
  have hmap : (L.set i (a, o')).map (·.1) = L.map (·.1) := by
    rw [List.map_set]
    apply List.ext_getElem?
    intro j
    by_cases hj : i = j
    · subst hj
      rw [List.getElem?_set_self (by simpa using hlt), List.getElem?_map, hi]
      rfl
    · rw [List.getElem?_set_ne hj]
  have h0 := h.new _ hm
  refine ⟨Keep.new h0 h.same k, fun q hq => ?_, by rw [hmap]; exact h.nd, fun q hq => ?_⟩
  · obtain ⟨j, hj⟩ := List.getElem?_of_mem hq
    by_cases hij : i = j
    · subst hij
      rw [List.getElem?_set_self hlt] at hj
      cases hj
      exact e
    · rw [List.getElem?_set_ne hij] at hj
      have hq2 := List.mem_of_getElem? hj
      refine k _ _ (fun z => ?_) (h.at_ q hq2)
      have e1 : (L.map (·.1))[i]? = some a := by rw [List.getElem?_map, hi]; rfl
      have e2 : (L.map (·.1))[j]? = some a := by rw [List.getElem?_map, hj, ← z]; rfl
      obtain ⟨g1, f1⟩ := List.getElem?_eq_some_iff.mp e1
      obtain ⟨g2, f2⟩ := List.getElem?_eq_some_iff.mp e2
      exact hij ((List.getElem_inj h.nd).mp (f1.trans f2.symm))
  · obtain ⟨j, hj⟩ := List.getElem?_of_mem hq
    by_cases hij : i = j
    · subst hij
      rw [List.getElem?_set_self hlt] at hj
      cases hj
      exact h0
    · rw [List.getElem?_set_ne hij] at hj
      exact h.new q (List.mem_of_getElem? hj)
theorem Objs.put (h : Objs H0 H L) (i : Nat) (hi : L[i]? = some (a, o)) : Objs H0 (upd H a o') (L.set i (a, o')) := h.set i hi (keep_upd H a o') upd_same
/-- one more, that was new at some time since -/
theorem Objs.join {b : Addr} {u : HO} (h : Objs H0 H' L) (n : b ∉ L.map (·.1)) (n0 : H0 b = none) (e : H' b = some u) : Objs H0 H' ((b, u) :: L) := by
  refine ⟨h.same, fun q hq => ?_, ?_, fun q hq => ?_⟩
  · rcases List.mem_cons.mp hq with z | z
    · rw [z]; exact e
    · exact h.at_ q z
  · rw [List.map_cons, List.nodup_cons]
    exact ⟨n, h.nd⟩
  · rcases List.mem_cons.mp hq with z | z
    · rw [z]; exact n0
    · exact h.new q z
theorem Objs.sub {L' : List (Addr × HO)} (h : Objs H0 H L) (s : List.Sublist L' L) : Objs H0 H L' :=
  ⟨h.same, fun q hq => h.at_ q (s.subset hq), h.nd.sublist (s.map _), fun q hq => h.new q (s.subset hq)⟩
theorem Objs.ne (h : Objs H0 H L) {b : Addr} {u : HO} (i j : Nat) (hi : L[i]? = some (a, o)) (hj : L[j]? = some (b, u)) (hij : i ≠ j) : a ≠ b := fun z => by
  have e1 : (L.map (·.1))[i]? = some a := by rw [List.getElem?_map, hi]; rfl
  have e2 : (L.map (·.1))[j]? = some a := by rw [List.getElem?_map, hj, z]; rfl
  obtain ⟨g1, f1⟩ := List.getElem?_eq_some_iff.mp e1
  obtain ⟨g2, f2⟩ := List.getElem?_eq_some_iff.mp e2
  exact hij ((List.getElem_inj h.nd).mp (f1.trans f2.symm))
end
theorem ixN_of {n : Nat} {i : Int} (h0 : 0 ≤ i) (h1 : i < n) : ixN n i = some i.toNat := by
  unfold ixN
  rw [if_pos h0, if_pos h1]
theorem get_at {ns : List Int} {i : Nat} (h : i < ns.length) : atI (ns.map V.int) (0 + (i : Int)) = some (.int ns[i]) := by
  rw [Int.zero_add]
  refine atI_nat ?_
  rw [List.getElem?_map, List.getElem?_eq_getElem h]
  rfl
theorem at_back {ns : List Int} {i : Nat} (h : i < ns.length) : atI (ns.map V.int) ((ns.length : Int) - 1 - (0 + (i : Int))) = some (.int (ns[ns.length - 1 - i]'(by omega))) := by
  rw [show (ns.length : Int) - 1 - (0 + (i : Int)) = ((ns.length - 1 - i : Nat) : Int) by omega]
  refine atI_nat ?_
  rw [List.getElem?_map, List.getElem?_eq_getElem (by omega)]
  rfl
theorem ne_of_none' {H : Hp} {a b : Addr} {o : HO} (h : H a = some o) (h' : H b = none) : b ≠ a := (ne_of_none h h').symm
end Lw

set_option Elab.async false
set_option linter.all false
set_option maxRecDepth 100000
namespace K30
open PySem PySem.Spec PyProof.Rows L2 QX
def topS (i : Nat) : Stmt := PySem.Challenge.pw_quietsmith_k30_cache_and_predictor.main.body.getD i (.Pass ⟨0, 0, 0, 0⟩)
abbrev s_base_cycles : Stmt := topS 8
abbrev n_base_cycles : List Str := ["name"]
theorem sc_base_cycles : FnScope ["name"] ["name"] (defScope s_base_cycles) := ⟨rfl, rfl, rfl, by decide +kernel, rfl, by decide +kernel, by decide +kernel⟩
abbrev s_Cache_init : Stmt := inClass (topS 9) 0
abbrev n_Cache_init : List Str := ["self"]
theorem sc_Cache_init : FnScope ["self"] ["self"] (defScope s_Cache_init) := ⟨rfl, rfl, rfl, by decide +kernel, rfl, by decide +kernel, by decide +kernel⟩
abbrev s_Cache_access : Stmt := inClass (topS 9) 1
abbrev n_Cache_access : List Str := ["self", "address", "number", "line"]
theorem sc_Cache_access : FnScope ["self", "address", "number", "line"] ["self", "address"] (defScope s_Cache_access) := ⟨rfl, rfl, rfl, by decide +kernel, rfl, by decide +kernel, by decide +kernel⟩
abbrev s_Cache_lines : Stmt := inClass (topS 9) 2
abbrev n_Cache_lines : List Str := ["self"]
theorem sc_Cache_lines : FnScope ["self"] ["self"] (defScope s_Cache_lines) := ⟨rfl, rfl, rfl, by decide +kernel, rfl, by decide +kernel, by decide +kernel⟩
abbrev s_Predictor_init : Stmt := inClass (topS 10) 0
abbrev n_Predictor_init : List Str := ["self"]
theorem sc_Predictor_init : FnScope ["self"] ["self"] (defScope s_Predictor_init) := ⟨rfl, rfl, rfl, by decide +kernel, rfl, by decide +kernel, by decide +kernel⟩
abbrev s_Predictor_branch : Stmt := inClass (topS 10) 1
abbrev n_Predictor_branch : List Str := ["self", "place", "jumps", "which", "mark"]
theorem sc_Predictor_branch : FnScope ["self", "place", "jumps", "which", "mark"] ["self", "place", "jumps"] (defScope s_Predictor_branch) := ⟨rfl, rfl, rfl, by decide +kernel, rfl, by decide +kernel, by decide +kernel⟩
abbrev s_Predictor_counters : Stmt := inClass (topS 10) 2
abbrev n_Predictor_counters : List Str := ["self"]
theorem sc_Predictor_counters : FnScope ["self"] ["self"] (defScope s_Predictor_counters) := ⟨rfl, rfl, rfl, by decide +kernel, rfl, by decide +kernel, by decide +kernel⟩
abbrev s_law_source : Stmt := topS 12
abbrev n_law_source : List Str := ["script", "k", "cell", "state"]
theorem sc_law_source : FnScope ["script", "k", "cell", "state"] ["script", "k"] (defScope s_law_source) := ⟨rfl, rfl, rfl, by decide +kernel, rfl, by decide +kernel, by decide +kernel⟩
abbrev s_law_draw : Stmt := topS 13
abbrev n_law_draw : List Str := ["source", "many", "worth"]
theorem sc_law_draw : FnScope ["source", "many", "worth"] ["source", "many"] (defScope s_law_draw) := ⟨rfl, rfl, rfl, by decide +kernel, rfl, by decide +kernel, by decide +kernel⟩
abbrev s_law_is_number : Stmt := topS 14
abbrev n_law_is_number : List Str := ["value", "due"]
theorem sc_law_is_number : FnScope ["value", "due"] ["value", "due"] (defScope s_law_is_number) := ⟨rfl, rfl, rfl, by decide +kernel, rfl, by decide +kernel, by decide +kernel⟩
abbrev s_law_are_numbers : Stmt := topS 15
abbrev n_law_are_numbers : List Str := ["values", "due", "k"]
theorem sc_law_are_numbers : FnScope ["values", "due", "k"] ["values", "due"] (defScope s_law_are_numbers) := ⟨rfl, rfl, rfl, by decide +kernel, rfl, by decide +kernel, by decide +kernel⟩
abbrev s_law_base_holds : Stmt := topS 16
abbrev n_law_base_holds : List Str := ["name"]
theorem sc_law_base_holds : FnScope ["name"] [] (defScope s_law_base_holds) := ⟨rfl, rfl, rfl, by decide +kernel, rfl, by decide +kernel, by decide +kernel⟩
abbrev s_law_held : Stmt := topS 17
abbrev n_law_held : List Str := ["addresses", "line", "k", "block"]
theorem sc_law_held : FnScope ["addresses", "line", "k", "block"] ["addresses", "line"] (defScope s_law_held) := ⟨rfl, rfl, rfl, by decide +kernel, rfl, by decide +kernel, by decide +kernel⟩
abbrev s_law_count : Stmt := topS 18
abbrev n_law_count : List Str := ["jumps", "number", "count", "place", "jumped"]
theorem sc_law_count : FnScope ["jumps", "number", "count", "place", "jumped"] ["jumps", "number"] (defScope s_law_count) := ⟨rfl, rfl, rfl, by decide +kernel, rfl, by decide +kernel, by decide +kernel⟩
abbrev s_law_access_holds : Stmt := topS 19
abbrev n_law_access_holds : List Str := ["cache", "addresses", "address", "due"]
theorem sc_law_access_holds : FnScope ["cache", "addresses", "address", "due"] ["cache", "addresses", "address"] (defScope s_law_access_holds) := ⟨rfl, rfl, rfl, by decide +kernel, rfl, by decide +kernel, by decide +kernel⟩
abbrev s_law_branch_holds : Stmt := topS 20
abbrev n_law_branch_holds : List Str := ["predictor", "jumps", "place", "jumped", "due", "actual"]
theorem sc_law_branch_holds : FnScope ["predictor", "jumps", "place", "jumped", "due", "actual"] ["predictor", "jumps", "place", "jumped"] (defScope s_law_branch_holds) := ⟨rfl, rfl, rfl, by decide +kernel, rfl, by decide +kernel, by decide +kernel⟩
abbrev s_law_state_holds : Stmt := topS 21
abbrev n_law_state_holds : List Str := ["cache", "addresses", "predictor", "jumps", "held", "counts", "turn", "lines", "counters", "line", "number"]
theorem sc_law_state_holds : FnScope ["cache", "addresses", "predictor", "jumps", "held", "counts", "turn", "lines", "counters", "line", "number"] ["cache", "addresses", "predictor", "jumps"] (defScope s_law_state_holds) := ⟨rfl, rfl, rfl, by decide +kernel, rfl, by decide +kernel, by decide +kernel⟩
abbrev s_law_address : Stmt := topS 22
abbrev n_law_address : List Str := ["source", "near"]
theorem sc_law_address : FnScope ["source", "near"] ["source", "near"] (defScope s_law_address) := ⟨rfl, rfl, rfl, by decide +kernel, rfl, by decide +kernel, by decide +kernel⟩
abbrev s_law_place : Stmt := topS 23
abbrev n_law_place : List Str := ["source", "near"]
theorem sc_law_place : FnScope ["source", "near"] ["source", "near"] (defScope s_law_place) := ⟨rfl, rfl, rfl, by decide +kernel, rfl, by decide +kernel, by decide +kernel⟩
abbrev s_law : Stmt := topS 24
abbrev n_law : List Str := ["script", "source", "near", "usual", "asked", "caches", "predictors", "addresses", "jumps", "deeds", "k", "cell", "which", "address", "place", "jumped", "side"]
theorem sc_law : FnScope ["script", "source", "near", "usual", "asked", "caches", "predictors", "addresses", "jumps", "deeds", "k", "cell", "which", "address", "place", "jumped", "side"] ["script"] (defScope s_law) := ⟨rfl, rfl, rfl, by decide +kernel, rfl, by decide +kernel, by decide +kernel⟩
structure Tx (w : World) (K : PySem.W.Frag) (mg : Str → Option Value) where
  c_Cache : Addr
  g_Cache : mg "Cache" = some (.ref c_Cache)
  cl_Cache : Cls K c_Cache
  no_Cache_blocks : NoAttr K c_Cache "blocks"
  c_Predictor : Addr
  g_Predictor : mg "Predictor" = some (.ref c_Predictor)
  cl_Predictor : Cls K c_Predictor
  no_Predictor_marks : NoAttr K c_Predictor "marks"
  a_base_cycles : Addr
  d_base_cycles : FuncData
  F_base_cycles : Fun K "base_cycles" "base_cycles" s_base_cycles a_base_cycles d_base_cycles
  b_base_cycles : Binds K d_base_cycles ["name"] []
  g_base_cycles : mg "base_cycles" = some (.ref a_base_cycles)
  a_Cache_init : Addr
  d_Cache_init : FuncData
  F_Cache_init : Fun K "__init__" "Cache.__init__" s_Cache_init a_Cache_init d_Cache_init
  b_Cache_init : Binds K d_Cache_init ["self"] []
  mk_Cache : Mk K c_Cache a_Cache_init
  a_Cache_access : Addr
  d_Cache_access : FuncData
  F_Cache_access : Fun K "access" "Cache.access" s_Cache_access a_Cache_access d_Cache_access
  b_Cache_access : Binds K d_Cache_access ["self", "address"] []
  m_Cache_access : Meth K c_Cache "access" a_Cache_access
  a_Cache_lines : Addr
  d_Cache_lines : FuncData
  F_Cache_lines : Fun K "lines" "Cache.lines" s_Cache_lines a_Cache_lines d_Cache_lines
  b_Cache_lines : Binds K d_Cache_lines ["self"] []
  m_Cache_lines : Meth K c_Cache "lines" a_Cache_lines
  a_Predictor_init : Addr
  d_Predictor_init : FuncData
  F_Predictor_init : Fun K "__init__" "Predictor.__init__" s_Predictor_init a_Predictor_init d_Predictor_init
  b_Predictor_init : Binds K d_Predictor_init ["self"] []
  mk_Predictor : Mk K c_Predictor a_Predictor_init
  a_Predictor_branch : Addr
  d_Predictor_branch : FuncData
  F_Predictor_branch : Fun K "branch" "Predictor.branch" s_Predictor_branch a_Predictor_branch d_Predictor_branch
  b_Predictor_branch : Binds K d_Predictor_branch ["self", "place", "jumps"] []
  m_Predictor_branch : Meth K c_Predictor "branch" a_Predictor_branch
  a_Predictor_counters : Addr
  d_Predictor_counters : FuncData
  F_Predictor_counters : Fun K "counters" "Predictor.counters" s_Predictor_counters a_Predictor_counters d_Predictor_counters
  b_Predictor_counters : Binds K d_Predictor_counters ["self"] []
  m_Predictor_counters : Meth K c_Predictor "counters" a_Predictor_counters
  a_law_source : Addr
  d_law_source : FuncData
  F_law_source : Fun K "_law_source" "_law_source" s_law_source a_law_source d_law_source
  b_law_source : Binds K d_law_source ["script", "k"] []
  g_law_source : mg "_law_source" = some (.ref a_law_source)
  a_law_draw : Addr
  d_law_draw : FuncData
  F_law_draw : Fun K "_law_draw" "_law_draw" s_law_draw a_law_draw d_law_draw
  b_law_draw : Binds K d_law_draw ["source", "many"] []
  g_law_draw : mg "_law_draw" = some (.ref a_law_draw)
  a_law_is_number : Addr
  d_law_is_number : FuncData
  F_law_is_number : Fun K "_law_is_number" "_law_is_number" s_law_is_number a_law_is_number d_law_is_number
  b_law_is_number : Binds K d_law_is_number ["value", "due"] []
  g_law_is_number : mg "_law_is_number" = some (.ref a_law_is_number)
  a_law_are_numbers : Addr
  d_law_are_numbers : FuncData
  F_law_are_numbers : Fun K "_law_are_numbers" "_law_are_numbers" s_law_are_numbers a_law_are_numbers d_law_are_numbers
  b_law_are_numbers : Binds K d_law_are_numbers ["values", "due"] []
  g_law_are_numbers : mg "_law_are_numbers" = some (.ref a_law_are_numbers)
  a_law_base_holds : Addr
  d_law_base_holds : FuncData
  F_law_base_holds : Fun K "_law_base_holds" "_law_base_holds" s_law_base_holds a_law_base_holds d_law_base_holds
  b_law_base_holds : Binds K d_law_base_holds [] []
  g_law_base_holds : mg "_law_base_holds" = some (.ref a_law_base_holds)
  a_law_held : Addr
  d_law_held : FuncData
  F_law_held : Fun K "_law_held" "_law_held" s_law_held a_law_held d_law_held
  b_law_held : Binds K d_law_held ["addresses", "line"] []
  g_law_held : mg "_law_held" = some (.ref a_law_held)
  a_law_count : Addr
  d_law_count : FuncData
  F_law_count : Fun K "_law_count" "_law_count" s_law_count a_law_count d_law_count
  b_law_count : Binds K d_law_count ["jumps", "number"] []
  g_law_count : mg "_law_count" = some (.ref a_law_count)
  a_law_access_holds : Addr
  d_law_access_holds : FuncData
  F_law_access_holds : Fun K "_law_access_holds" "_law_access_holds" s_law_access_holds a_law_access_holds d_law_access_holds
  b_law_access_holds : Binds K d_law_access_holds ["cache", "addresses", "address"] []
  g_law_access_holds : mg "_law_access_holds" = some (.ref a_law_access_holds)
  a_law_branch_holds : Addr
  d_law_branch_holds : FuncData
  F_law_branch_holds : Fun K "_law_branch_holds" "_law_branch_holds" s_law_branch_holds a_law_branch_holds d_law_branch_holds
  b_law_branch_holds : Binds K d_law_branch_holds ["predictor", "jumps", "place", "jumped"] []
  g_law_branch_holds : mg "_law_branch_holds" = some (.ref a_law_branch_holds)
  a_law_state_holds : Addr
  d_law_state_holds : FuncData
  F_law_state_holds : Fun K "_law_state_holds" "_law_state_holds" s_law_state_holds a_law_state_holds d_law_state_holds
  b_law_state_holds : Binds K d_law_state_holds ["cache", "addresses", "predictor", "jumps"] []
  g_law_state_holds : mg "_law_state_holds" = some (.ref a_law_state_holds)
  a_law_address : Addr
  d_law_address : FuncData
  F_law_address : Fun K "_law_address" "_law_address" s_law_address a_law_address d_law_address
  b_law_address : Binds K d_law_address ["source", "near"] []
  g_law_address : mg "_law_address" = some (.ref a_law_address)
  a_law_place : Addr
  d_law_place : FuncData
  F_law_place : Fun K "_law_place" "_law_place" s_law_place a_law_place d_law_place
  b_law_place : Binds K d_law_place ["source", "near"] []
  g_law_place : mg "_law_place" = some (.ref a_law_place)
  a_law : Addr
  d_law : FuncData
  F_law : Fun K "law" "law" s_law a_law d_law
  b_law : Binds K d_law ["script"] []
  g_law : mg "law" = some (.ref a_law)
  c_CYCLES : Addr
  g_CYCLES : mg "CYCLES" = some (.ref c_CYCLES)
  r_CYCLES : RelV (.ref c_CYCLES) (.ref c_CYCLES)
  es_CYCLES : Array DictEntry
  n_CYCLES : Nat
  D_CYCLES : KDict K w c_CYCLES es_CYCLES n_CYCLES
  t_LINES : Tok
  g_LINES : mg "LINES" = some (.int 8 t_LINES)
  r_LINES : RelV (.int 8) (.int 8 t_LINES)
  t_BLOCK_SIZE : Tok
  g_BLOCK_SIZE : mg "BLOCK_SIZE" = some (.int 4 t_BLOCK_SIZE)
  r_BLOCK_SIZE : RelV (.int 4) (.int 4 t_BLOCK_SIZE)
  t_HIT : Tok
  g_HIT : mg "HIT" = some (.int 1 t_HIT)
  r_HIT : RelV (.int 1) (.int 1 t_HIT)
  t_MISS : Tok
  g_MISS : mg "MISS" = some (.int 6 t_MISS)
  r_MISS : RelV (.int 6) (.int 6 t_MISS)
  t_COUNTERS : Tok
  g_COUNTERS : mg "COUNTERS" = some (.int 16 t_COUNTERS)
  r_COUNTERS : RelV (.int 16) (.int 16 t_COUNTERS)
  t_STRONGEST : Tok
  g_STRONGEST : mg "STRONGEST" = some (.int 3 t_STRONGEST)
  r_STRONGEST : RelV (.int 3) (.int 3 t_STRONGEST)
  z_abs : mg "abs" = none
  z_bool : mg "bool" = none
  z_int : mg "int" = none
  z_isinstance : mg "isinstance" = none
  z_len : mg "len" = none
  z_list : mg "list" = none
  z_max : mg "max" = none
  z_min : mg "min" = none
  z_range : mg "range" = none
  kitcy : KDx.getB K c_CYCLES 1 KDx.cycles25 = true

open Lw
/-! ### the promises -/
/-- the block that line holds behind the accesses -/
def held (as : List Int) (line : Int) : Int := as.foldl (fun h a => if a / 4 % 8 = line then a / 4 else h) (-1)
theorem held_app (as : List Int) (a line : Int) : held (as ++ [a]) line = if a / 4 % 8 = line then a / 4 else held as line := by
  unfold held
  rw [List.foldl_append]
  rfl
def blocks (as : List Int) : List Int := (List.range 8).map fun k : Nat => held as (k : Int)
def step1 (n : Int) (c : Int) (j : Int × Bool) : Int := if j.1 % 16 = n then (if j.2 = true then (if c + 1 < 3 then c + 1 else 3) else (if c - 1 < 0 then 0 else c - 1)) else c
def count (js : List (Int × Bool)) (n : Int) : Int := js.foldl (step1 n) 1
theorem count_app (js : List (Int × Bool)) (j : Int × Bool) (n : Int) : count (js ++ [j]) n = step1 n (count js n) j := by
  unfold count
  rw [List.foldl_append]
  rfl
def marks (js : List (Int × Bool)) : List Int := (List.range 16).map fun k : Nat => count js (k : Int)
theorem blocks_len (as : List Int) : (blocks as).length = 8 := by simp [blocks]
theorem marks_len (js : List (Int × Bool)) : (marks js).length = 16 := by simp [marks]
theorem blocks_at (as : List Int) {i : Int} (h0 : 0 ≤ i) (h1 : i < 8) : atI ((blocks as).map V.int) i = some (.int (held as i)) := by
  obtain ⟨j, rfl⟩ := Int.eq_ofNat_of_zero_le h0
  refine atI_nat ?_
  rw [List.getElem?_map]
  unfold blocks
  rw [List.getElem?_map, List.getElem?_range (by omega)]
  rfl
theorem marks_at (js : List (Int × Bool)) {i : Int} (h0 : 0 ≤ i) (h1 : i < 16) : atI ((marks js).map V.int) i = some (.int (count js i)) := by
  obtain ⟨j, rfl⟩ := Int.eq_ofNat_of_zero_le h0
  refine atI_nat ?_
  rw [List.getElem?_map]
  unfold marks
  rw [List.getElem?_map, List.getElem?_range (by omega)]
  rfl
theorem blocks_app (as : List Int) (a : Int) (h0 : 0 ≤ a / 4 % 8) (h1 : a / 4 % 8 < 8) : blocks (as ++ [a]) = (blocks as).set (a / 4 % 8).toNat (a / 4) := by
  apply List.ext_getElem?
  intro j
  by_cases hj : j < 8
  · have e1 : (blocks (as ++ [a]))[j]? = some (held (as ++ [a]) j) := by
      unfold blocks
      rw [List.getElem?_map, List.getElem?_range hj]
      rfl
    rw [e1, held_app]
    by_cases hl : (a / 4 % 8).toNat = j
    · rw [hl, List.getElem?_set_self (by rw [blocks_len]; exact hj), if_pos (by omega)]
    · rw [List.getElem?_set_ne hl, if_neg (by omega)]
      unfold blocks
      rw [List.getElem?_map, List.getElem?_range hj]
      rfl
  · rw [List.getElem?_eq_none (by rw [blocks_len]; omega), List.getElem?_eq_none (by rw [List.length_set, blocks_len]; omega)]
theorem marks_app (js : List (Int × Bool)) (p : Int) (b : Bool) (h0 : 0 ≤ p % 16) (h1 : p % 16 < 16) : marks (js ++ [(p, b)]) = (marks js).set (p % 16).toNat (if b = true then (if count js (p % 16) + 1 < 3 then count js (p % 16) + 1 else 3) else (if count js (p % 16) - 1 < 0 then 0 else count js (p % 16) - 1)) := by
  apply List.ext_getElem?
  intro j
  by_cases hj : j < 16
  · have e1 : (marks (js ++ [(p, b)]))[j]? = some (count (js ++ [(p, b)]) j) := by
      unfold marks
      rw [List.getElem?_map, List.getElem?_range hj]
      rfl
    rw [e1, count_app]
    unfold step1
    by_cases hl : (p % 16).toNat = j
    · have e2 : p % 16 = (j : Int) := by omega
      rw [hl, List.getElem?_set_self (by rw [marks_len]; exact hj), if_pos e2, e2]
    · rw [List.getElem?_set_ne hl, if_neg (by show ¬ (p % 16 = (j : Int)); omega)]
      unfold marks
      rw [List.getElem?_map, List.getElem?_range hj]
      rfl
  · rw [List.getElem?_eq_none (by rw [marks_len]; omega), List.getElem?_eq_none (by rw [List.length_set, marks_len]; omega)]
def spBase : Sp := fun vs H Q _ => ∃ (z : Str) (v : Int), vs = [.str z] ∧ (z, v) ∈ KDx.cycles25 ∧ Q (.int v) H
def spCInit (C : Addr) : Sp := fun vs H Q _ => ∃ (x dx : Addr), vs = [.ref x] ∧ H x = some (.ins C dx []) ∧ ∀ (b : Addr) (H' : Hp), H b = none → Keep H H' x → H' b = some (.lst ((blocks []).map V.int)) → H' x = some (.ins C dx [("blocks", .ref b)]) → Q .non H'
def spPInit (C : Addr) : Sp := fun vs H Q _ => ∃ (x dx : Addr), vs = [.ref x] ∧ H x = some (.ins C dx []) ∧ ∀ (b : Addr) (H' : Hp), H b = none → Keep H H' x → H' b = some (.lst ((marks []).map V.int)) → H' x = some (.ins C dx [("marks", .ref b)]) → Q .non H'
def spAccess (C : Addr) : Sp := fun vs H Q _ => ∃ (x dx b : Addr) (as : List Int) (a : Int), vs = [.ref x, .int a] ∧ H x = some (.ins C dx [("blocks", .ref b)]) ∧ H b = some (.lst ((blocks as).map V.int)) ∧ 0 ≤ a ∧
  ∀ H', Keep H H' b → H' b = some (.lst ((blocks (as ++ [a])).map V.int)) → Q (.int (if held as (a / 4 % 8) = a / 4 then 1 else 6)) H'
def spLines (C : Addr) : Sp := fun vs H Q _ => ∃ (x dx b : Addr) (ns : List Int), vs = [.ref x] ∧ H x = some (.ins C dx [("blocks", .ref b)]) ∧ H b = some (.lst (ns.map V.int)) ∧ ∀ p, H p = none → Q (.ref p) (upd H p (.lst (ns.map V.int)))
def spBranch (C : Addr) : Sp := fun vs H Q _ => ∃ (x dx b : Addr) (js : List (Int × Bool)) (p : Int) (j : Bool), vs = [.ref x, .int p, .bl j] ∧ H x = some (.ins C dx [("marks", .ref b)]) ∧ H b = some (.lst ((marks js).map V.int)) ∧ 0 ≤ p ∧
  ∀ H', Keep H H' b → H' b = some (.lst ((marks (js ++ [(p, j)])).map V.int)) → Q (.bl (decide (V.bl (decide (2 ≤ count js (p % 16))) = V.bl j))) H'
def spCounters (C : Addr) : Sp := fun vs H Q _ => ∃ (x dx b : Addr) (ns : List Int), vs = [.ref x] ∧ H x = some (.ins C dx [("marks", .ref b)]) ∧ H b = some (.lst (ns.map V.int)) ∧ ∀ p, H p = none → Q (.ref p) (upd H p (.lst (ns.map V.int)))
def spNum : Sp := fun vs H Q _ => ∃ (v : Int), vs = [.int v, .int v] ∧ Q (.bl true) H
def spNums : Sp := fun vs H Q _ => ∃ (a b : Addr) (ns : List Int), vs = [.ref a, .ref b] ∧ H a = some (.lst (ns.map V.int)) ∧ H b = some (.lst (ns.map V.int)) ∧ ns.length ≤ 100 ∧ Q (.bl true) H
def spBaseHolds : Sp := fun vs H Q _ => vs = [] ∧ ∀ H', Same H H' → Q (.bl true) H'
def spHeld : Sp := fun vs H Q _ => ∃ (l : Addr) (as : List Int) (n : Int), vs = [.ref l, .int n] ∧ H l = some (.lst (as.map V.int)) ∧ as.length ≤ 1000 ∧ Q (.int (held as n)) H
/-- jumps, laid as tuples -/
def Laid (H : Hp) (ts : List (Addr × Int × Bool)) : Prop := ∀ t ∈ ts, H t.1 = some (.tup [.int t.2.1, .bl t.2.2])
abbrev rfs (ts : List (Addr × Int × Bool)) : List V := ts.map fun t => .ref t.1
abbrev jss (ts : List (Addr × Int × Bool)) : List (Int × Bool) := ts.map (·.2)
def spCount : Sp := fun vs H Q _ => ∃ (l : Addr) (ts : List (Addr × Int × Bool)) (n : Int), vs = [.ref l, .int n] ∧ H l = some (.lst (rfs ts)) ∧ Laid H ts ∧ ts.length ≤ 1000 ∧ Q (.int (count (jss ts) n)) H
section
variable {P : Program} {w : World} {K : PySem.W.Frag} {mg : Str → Option Value} {base : Heap}
theorem ok_source (T : Tx w K mg) : FnOk P w K mg base CX0 1 T.a_law_source T.d_law_source ["script", "k"] (spSource K) := by
  refine T.F_law_source.ok sc_law_source (fun vs H Q E h => ?_) (fun cdv A outer s H vs Q E hr h => ?_)
  · obtain ⟨a, ns, k, rfl, _⟩ := h
    rfl
  · obtain ⟨a, ns, k, rfl, hS, hl, hk, q⟩ := h
    refine ⟨_, (pss_cons (ps_set (i := 2) sc_law_source.nd rfl (.inl rfl) pe_int)
        (pss_cons (ps_if (pt_cmpR op_gt (pe_callB call_len_seq (by rfl) T.z_len (by decide +kernel) (pa_cons (pv 0) pa_nil)) pe_int (nomark _))
        (pss_one (ps_set (i := 2) sc_law_source.nd rfl (.inl rfl) (pe_callB call_abs (by rfl) T.z_abs (by decide +kernel) (pa_cons (pe_ix ix_list (pv 0) (pe_op op_mod (pv 1) (pe_callB call_len_seq (by rfl) T.z_len (by decide +kernel) (pa_cons (pv 0) pa_nil))) (fun _ _ => rfl)) pa_nil))))
        pss_nil)
        (pss_cons (ps_set (i := 3) sc_law_source.nd rfl (.inl rfl) (pe_op op_mod (pe_callTy call_int1 (by rfl) T.z_int (by decide +kernel) (pa_cons (pe_op op_add (pe_op op_add (pe_op op_mul (pv 2) pe_int) (pe_op op_mul (pv 1) pe_int)) pe_int) pa_nil)) pe_int))
        (pss_cons (ps_if (pt_cmpR op_lt (pv 2) (pe_op op_pow pe_int pe_int) (nomark _))
        (pss_one (ps_ret (pe_lst (pa_cons pe_int (pa_cons (pv 3) pa_nil)))))
        pss_nil)
        (pss_one (ps_ret (pe_lst (pa_cons (pv 2) (pa_cons (pv 3) pa_nil))))))))), ?_⟩
    refine ⟨.ref a, rfl, a, _, rfl, .inl hS, _, _, rfl, rfl, _, rfl, ite2 (fun e => ?_) (fun e => ?_)⟩
    · have e1 : (0 : Int) < ((ns.map V.int).length : Int) := of_decide_eq_true e
      have hm : 0 ≤ k % ((ns.map V.int).length : Int) := Int.emod_nonneg _ (by omega)
      have hm2 : k % ((ns.map V.int).length : Int) < (ns.length : Int) := by
        have := Int.emod_lt_of_pos k e1
        rw [List.length_map] at this ⊢
        exact this
      obtain ⟨z, hz⟩ := at_int hm hm2
      refine ⟨.ref a, rfl, .int k, rfl, .ref a, rfl, a, _, rfl, .inl hS, _, _, rfl, rfl, e1, a, _, _, _, rfl, rfl, hS, hz, _, rfl, ?_⟩
      have hc : 0 ≤ (if z < 0 then -z else z) := by split <;> omega
      generalize (if z < 0 then -z else z) = c at hc
      (repeat (first | refine ⟨_, rfl, ?_⟩ | refine ⟨_, _, rfl, rfl, ?_⟩ | refine ⟨rfl, ?_⟩ | refine .inl ⟨_, rfl, ?_⟩ | refine .inr ⟨_, rfl, ?_⟩ | refine ⟨.inr ⟨by decide, by decide⟩, ?_⟩ | refine ⟨⟨by decide, by decide⟩, ?_⟩ | refine ⟨⟨by decide, by decide, by decide⟩, ?_⟩ | refine ⟨.inr ⟨by omega, by omega⟩, ?_⟩ | refine ⟨(by show (0 : Int) < _; first | decide | omega), ?_⟩ | refine ⟨Nat.le_trans (Nat.le_of_ble_eq_true rfl : _ ≤ 50) (by decide), ?_⟩ | refine ⟨_, _, _, _, rfl, rfl, upd_same, rfl, ?_⟩ | refine ⟨_, _, _, _, rfl, rfl, SqL.of upd_same, rfl, ?_⟩ | refine ⟨_, _, _, _, rfl, rfl, SqT.of upd_same, rfl, ?_⟩ | refine ⟨_, _, rfl, .inl (SqL.of upd_same), ?_⟩ | refine ⟨_, _, rfl, .inr (SqT.of upd_same), ?_⟩ | (refine' ⟨_, _, _, _, rfl, rfl, _, _, _⟩; rotate_left 2; (focus (first | assumption | exact SqL.of (by assumption) | exact SqT.of (by assumption) | exact Same.seq (by assumption) (by assumption))); (focus (exact rfl))) | (refine' ⟨_, _, rfl, _, _⟩; rotate_left 1; (focus (first | exact .inl (by assumption) | exact .inl (SqL.of (by assumption)) | exact .inr (by assumption) | exact .inr (SqT.of (by assumption)))))))
      refine ite2 (fun _ => ?_) (fun _ => ?_)
      · (repeat (first | refine ⟨_, rfl, ?_⟩ | refine ⟨_, _, rfl, rfl, ?_⟩ | refine ⟨rfl, ?_⟩ | refine .inl ⟨_, rfl, ?_⟩ | refine .inr ⟨_, rfl, ?_⟩ | refine ⟨.inr ⟨by decide, by decide⟩, ?_⟩ | refine ⟨⟨by decide, by decide⟩, ?_⟩ | refine ⟨⟨by decide, by decide, by decide⟩, ?_⟩ | refine ⟨.inr ⟨by omega, by omega⟩, ?_⟩ | refine ⟨(by show (0 : Int) < _; first | decide | omega), ?_⟩ | refine ⟨Nat.le_trans (Nat.le_of_ble_eq_true rfl : _ ≤ 50) (by decide), ?_⟩ | refine ⟨_, _, _, _, rfl, rfl, upd_same, rfl, ?_⟩ | refine ⟨_, _, _, _, rfl, rfl, SqL.of upd_same, rfl, ?_⟩ | refine ⟨_, _, _, _, rfl, rfl, SqT.of upd_same, rfl, ?_⟩ | refine ⟨_, _, rfl, .inl (SqL.of upd_same), ?_⟩ | refine ⟨_, _, rfl, .inr (SqT.of upd_same), ?_⟩ | (refine' ⟨_, _, _, _, rfl, rfl, _, _, _⟩; rotate_left 2; (focus (first | assumption | exact SqL.of (by assumption) | exact SqT.of (by assumption) | exact Same.seq (by assumption) (by assumption))); (focus (exact rfl))) | (refine' ⟨_, _, rfl, _, _⟩; rotate_left 1; (focus (first | exact .inl (by assumption) | exact .inl (SqL.of (by assumption)) | exact .inr (by assumption) | exact .inr (SqT.of (by assumption)))))))
        exact fun p hp => q p _ _ hp (by omega)
      · (repeat (first | refine ⟨_, rfl, ?_⟩ | refine ⟨_, _, rfl, rfl, ?_⟩ | refine ⟨rfl, ?_⟩ | refine .inl ⟨_, rfl, ?_⟩ | refine .inr ⟨_, rfl, ?_⟩ | refine ⟨.inr ⟨by decide, by decide⟩, ?_⟩ | refine ⟨⟨by decide, by decide⟩, ?_⟩ | refine ⟨⟨by decide, by decide, by decide⟩, ?_⟩ | refine ⟨.inr ⟨by omega, by omega⟩, ?_⟩ | refine ⟨(by show (0 : Int) < _; first | decide | omega), ?_⟩ | refine ⟨Nat.le_trans (Nat.le_of_ble_eq_true rfl : _ ≤ 50) (by decide), ?_⟩ | refine ⟨_, _, _, _, rfl, rfl, upd_same, rfl, ?_⟩ | refine ⟨_, _, _, _, rfl, rfl, SqL.of upd_same, rfl, ?_⟩ | refine ⟨_, _, _, _, rfl, rfl, SqT.of upd_same, rfl, ?_⟩ | refine ⟨_, _, rfl, .inl (SqL.of upd_same), ?_⟩ | refine ⟨_, _, rfl, .inr (SqT.of upd_same), ?_⟩ | (refine' ⟨_, _, _, _, rfl, rfl, _, _, _⟩; rotate_left 2; (focus (first | assumption | exact SqL.of (by assumption) | exact SqT.of (by assumption) | exact Same.seq (by assumption) (by assumption))); (focus (exact rfl))) | (refine' ⟨_, _, rfl, _, _⟩; rotate_left 1; (focus (first | exact .inl (by assumption) | exact .inl (SqL.of (by assumption)) | exact .inr (by assumption) | exact .inr (SqT.of (by assumption)))))))
        exact fun p hp => q p _ _ hp (by omega)
    · (repeat (first | refine ⟨_, rfl, ?_⟩ | refine ⟨_, _, rfl, rfl, ?_⟩ | refine ⟨rfl, ?_⟩ | refine .inl ⟨_, rfl, ?_⟩ | refine .inr ⟨_, rfl, ?_⟩ | refine ⟨.inr ⟨by decide, by decide⟩, ?_⟩ | refine ⟨⟨by decide, by decide⟩, ?_⟩ | refine ⟨⟨by decide, by decide, by decide⟩, ?_⟩ | refine ⟨.inr ⟨by omega, by omega⟩, ?_⟩ | refine ⟨(by show (0 : Int) < _; first | decide | omega), ?_⟩ | refine ⟨Nat.le_trans (Nat.le_of_ble_eq_true rfl : _ ≤ 50) (by decide), ?_⟩ | refine ⟨_, _, _, _, rfl, rfl, upd_same, rfl, ?_⟩ | refine ⟨_, _, _, _, rfl, rfl, SqL.of upd_same, rfl, ?_⟩ | refine ⟨_, _, _, _, rfl, rfl, SqT.of upd_same, rfl, ?_⟩ | refine ⟨_, _, rfl, .inl (SqL.of upd_same), ?_⟩ | refine ⟨_, _, rfl, .inr (SqT.of upd_same), ?_⟩ | (refine' ⟨_, _, _, _, rfl, rfl, _, _, _⟩; rotate_left 2; (focus (first | assumption | exact SqL.of (by assumption) | exact SqT.of (by assumption) | exact Same.seq (by assumption) (by assumption))); (focus (exact rfl))) | (refine' ⟨_, _, rfl, _, _⟩; rotate_left 1; (focus (first | exact .inl (by assumption) | exact .inl (SqL.of (by assumption)) | exact .inr (by assumption) | exact .inr (SqT.of (by assumption)))))))
      exact fun p hp => q p _ _ hp (by omega)
theorem ok_draw (T : Tx w K mg) : FnOk P w K mg base CX0 1 T.a_law_draw T.d_law_draw ["source", "many"] spDraw := by
  refine T.F_law_draw.ok sc_law_draw (fun vs H Q E h => ?_) (fun cdv A outer s H vs Q E hr h => ?_)
  · obtain ⟨p, x, y, m, rfl, _⟩ := h
    rfl
  · obtain ⟨p, x, y, m, rfl, hp, hx, hm, hm2, q⟩ := h
    refine ⟨_, (pss_cons (ps_if (pt_cmpR op_gt (pe_ix ix_list (pv 0) pe_int (fun _ _ => rfl)) pe_int (nomark _))
        (pss_cons (ps_set (i := 2) sc_law_draw.nd rfl (.inl rfl) (pe_op op_mod (pe_callTy call_int1 (by rfl) T.z_int (by decide +kernel) (pa_cons (pe_ix ix_list (pv 0) pe_int (fun _ _ => rfl)) pa_nil)) (pv 1)))
        (pss_cons (ps_asg (pe_op op_fdiv (pe_ix ix_list (pv 0) pe_int (fun _ _ => rfl)) (pv 1)) (pg_sub (pv 0) pe_int set_list))
        (pss_one (ps_ret (pv 2)))))
        pss_nil)
        (pss_cons (ps_asg (pe_op op_mod (pe_callTy call_int1 (by rfl) T.z_int (by decide +kernel) (pa_cons (pe_op op_add (pe_op op_mul (pe_ix ix_list (pv 0) pe_int (fun _ _ => rfl)) pe_int) pe_int) pa_nil)) pe_int) (pg_sub (pv 0) pe_int set_list))
        (pss_one (ps_ret (pe_op op_mod (pe_op op_mod (pe_callTy call_int1 (by rfl) T.z_int (by decide +kernel) (pa_cons (pe_op op_add (pe_op op_mul (pe_op op_fdiv (pe_ix ix_list (pv 0) pe_int (fun _ _ => rfl)) pe_int) pe_int) (pe_op op_mul (pe_op op_mod (pe_ix ix_list (pv 0) pe_int (fun _ _ => rfl)) pe_int) pe_int)) pa_nil)) pe_int) (pv 1)))))), ?_⟩
    (repeat (first | refine ⟨_, rfl, ?_⟩ | refine ⟨_, _, rfl, rfl, ?_⟩ | refine ⟨rfl, ?_⟩ | refine .inl ⟨_, rfl, ?_⟩ | refine .inr ⟨_, rfl, ?_⟩ | refine ⟨.inr ⟨by decide, by decide⟩, ?_⟩ | refine ⟨⟨by decide, by decide⟩, ?_⟩ | refine ⟨⟨by decide, by decide, by decide⟩, ?_⟩ | refine ⟨.inr ⟨by omega, by omega⟩, ?_⟩ | refine ⟨(by show (0 : Int) < _; first | decide | omega), ?_⟩ | refine ⟨Nat.le_trans (Nat.le_of_ble_eq_true rfl : _ ≤ 50) (by decide), ?_⟩ | refine ⟨_, _, _, _, rfl, rfl, upd_same, rfl, ?_⟩ | refine ⟨_, _, _, _, rfl, rfl, SqL.of upd_same, rfl, ?_⟩ | refine ⟨_, _, _, _, rfl, rfl, SqT.of upd_same, rfl, ?_⟩ | refine ⟨_, _, rfl, .inl (SqL.of upd_same), ?_⟩ | refine ⟨_, _, rfl, .inr (SqT.of upd_same), ?_⟩ | (refine' ⟨_, _, _, _, rfl, rfl, _, _, _⟩; rotate_left 2; (focus (first | assumption | exact SqL.of (by assumption) | exact SqT.of (by assumption) | exact Same.seq (by assumption) (by assumption))); (focus (exact rfl))) | (refine' ⟨_, _, rfl, _, _⟩; rotate_left 1; (focus (first | exact .inl (by assumption) | exact .inl (SqL.of (by assumption)) | exact .inr (by assumption) | exact .inr (SqT.of (by assumption)))))))
    refine ite2 (fun e => ?_) (fun e => ?_)
    · (repeat (first | refine ⟨_, rfl, ?_⟩ | refine ⟨_, _, rfl, rfl, ?_⟩ | refine ⟨rfl, ?_⟩ | refine .inl ⟨_, rfl, ?_⟩ | refine .inr ⟨_, rfl, ?_⟩ | refine ⟨.inr ⟨by decide, by decide⟩, ?_⟩ | refine ⟨⟨by decide, by decide⟩, ?_⟩ | refine ⟨⟨by decide, by decide, by decide⟩, ?_⟩ | refine ⟨.inr ⟨by omega, by omega⟩, ?_⟩ | refine ⟨(by show (0 : Int) < _; first | decide | omega), ?_⟩ | refine ⟨Nat.le_trans (Nat.le_of_ble_eq_true rfl : _ ≤ 50) (by decide), ?_⟩ | refine ⟨_, _, _, _, rfl, rfl, upd_same, rfl, ?_⟩ | refine ⟨_, _, _, _, rfl, rfl, SqL.of upd_same, rfl, ?_⟩ | refine ⟨_, _, _, _, rfl, rfl, SqT.of upd_same, rfl, ?_⟩ | refine ⟨_, _, rfl, .inl (SqL.of upd_same), ?_⟩ | refine ⟨_, _, rfl, .inr (SqT.of upd_same), ?_⟩ | (refine' ⟨_, _, _, _, rfl, rfl, _, _, _⟩; rotate_left 2; (focus (first | assumption | exact SqL.of (by assumption) | exact SqT.of (by assumption) | exact Same.seq (by assumption) (by assumption))); (focus (exact rfl))) | (refine' ⟨_, _, rfl, _, _⟩; rotate_left 1; (focus (first | exact .inl (by assumption) | exact .inl (SqL.of (by assumption)) | exact .inr (by assumption) | exact .inr (SqT.of (by assumption)))))))
      refine ⟨⟨hm, by omega⟩, ?_⟩
      (repeat (first | refine ⟨_, rfl, ?_⟩ | refine ⟨_, _, rfl, rfl, ?_⟩ | refine ⟨rfl, ?_⟩ | refine .inl ⟨_, rfl, ?_⟩ | refine .inr ⟨_, rfl, ?_⟩ | refine ⟨.inr ⟨by decide, by decide⟩, ?_⟩ | refine ⟨⟨by decide, by decide⟩, ?_⟩ | refine ⟨⟨by decide, by decide, by decide⟩, ?_⟩ | refine ⟨.inr ⟨by omega, by omega⟩, ?_⟩ | refine ⟨(by show (0 : Int) < _; first | decide | omega), ?_⟩ | refine ⟨Nat.le_trans (Nat.le_of_ble_eq_true rfl : _ ≤ 50) (by decide), ?_⟩ | refine ⟨_, _, _, _, rfl, rfl, upd_same, rfl, ?_⟩ | refine ⟨_, _, _, _, rfl, rfl, SqL.of upd_same, rfl, ?_⟩ | refine ⟨_, _, _, _, rfl, rfl, SqT.of upd_same, rfl, ?_⟩ | refine ⟨_, _, rfl, .inl (SqL.of upd_same), ?_⟩ | refine ⟨_, _, rfl, .inr (SqT.of upd_same), ?_⟩ | (refine' ⟨_, _, _, _, rfl, rfl, _, _, _⟩; rotate_left 2; (focus (first | assumption | exact SqL.of (by assumption) | exact SqT.of (by assumption) | exact Same.seq (by assumption) (by assumption))); (focus (exact rfl))) | (refine' ⟨_, _, rfl, _, _⟩; rotate_left 1; (focus (first | exact .inl (by assumption) | exact .inl (SqL.of (by assumption)) | exact .inr (by assumption) | exact .inr (SqT.of (by assumption)))))))
      exact q _ _ _ (Int.emod_nonneg _ (by omega)) (Int.emod_lt_of_pos _ hm) (Int.ediv_nonneg hx (by omega))
    · (repeat (first | refine ⟨_, rfl, ?_⟩ | refine ⟨_, _, rfl, rfl, ?_⟩ | refine ⟨rfl, ?_⟩ | refine .inl ⟨_, rfl, ?_⟩ | refine .inr ⟨_, rfl, ?_⟩ | refine ⟨.inr ⟨by decide, by decide⟩, ?_⟩ | refine ⟨⟨by decide, by decide⟩, ?_⟩ | refine ⟨⟨by decide, by decide, by decide⟩, ?_⟩ | refine ⟨.inr ⟨by omega, by omega⟩, ?_⟩ | refine ⟨(by show (0 : Int) < _; first | decide | omega), ?_⟩ | refine ⟨Nat.le_trans (Nat.le_of_ble_eq_true rfl : _ ≤ 50) (by decide), ?_⟩ | refine ⟨_, _, _, _, rfl, rfl, upd_same, rfl, ?_⟩ | refine ⟨_, _, _, _, rfl, rfl, SqL.of upd_same, rfl, ?_⟩ | refine ⟨_, _, _, _, rfl, rfl, SqT.of upd_same, rfl, ?_⟩ | refine ⟨_, _, rfl, .inl (SqL.of upd_same), ?_⟩ | refine ⟨_, _, rfl, .inr (SqT.of upd_same), ?_⟩ | (refine' ⟨_, _, _, _, rfl, rfl, _, _, _⟩; rotate_left 2; (focus (first | assumption | exact SqL.of (by assumption) | exact SqT.of (by assumption) | exact Same.seq (by assumption) (by assumption))); (focus (exact rfl))) | (refine' ⟨_, _, rfl, _, _⟩; rotate_left 1; (focus (first | exact .inl (by assumption) | exact .inl (SqL.of (by assumption)) | exact .inr (by assumption) | exact .inr (SqT.of (by assumption)))))))
      exact q _ _ _ (Int.emod_nonneg _ (by omega)) (Int.emod_lt_of_pos _ hm) hx
theorem ok_base (T : Tx w K mg) : FnOk P w K mg base CX0 1 T.a_base_cycles T.d_base_cycles ["name"] spBase := by
  refine T.F_base_cycles.ok sc_base_cycles (fun vs H Q E h => ?_) (fun cdv A outer s H vs Q E hr h => ?_)
  · obtain ⟨z, v, rfl, _⟩ := h
    rfl
  · obtain ⟨z, v, rfl, hz, q⟩ := h
    refine ⟨_, (pss_one (ps_ret (KDx.pe_kget2 (pe_glob rfl T.g_CYCLES T.r_CYCLES) (pv 0) pe_int))), ?_⟩
    obtain ⟨r, e, h1, h2⟩ := KDx.getB_ok T.kitcy hz
    refine ⟨T.c_CYCLES, _, _, rfl, T.D_CYCLES, _, rfl, z, r, rfl, e, fun er => ?_, fun u er => ⟨_, h2 u er, q⟩⟩
    rw [← h1 er]
    exact q
theorem ok_cinit (T : Tx w K mg) : FnOk P w K mg base CX0 1 T.a_Cache_init T.d_Cache_init ["self"] (spCInit T.c_Cache) := by
  refine T.F_Cache_init.ok sc_Cache_init (fun vs H Q E h => ?_) (fun cdv A outer s H vs Q E hr h => ?_)
  · obtain ⟨x, dx, rfl, _⟩ := h
    rfl
  · obtain ⟨x, dx, rfl, hx, q⟩ := h
    refine ⟨_, (pss_one (ps_fld (pv 0) (pe_op op_rep (pe_lst (pa_cons (pe_un un_neg pe_int) pa_nil)) (pe_glob rfl T.g_LINES T.r_LINES)) rfl)), ?_⟩
    refine ⟨_, rfl, Nat.le_of_ble_eq_true rfl, fun l hl => ⟨l, 8, [.int (-1)], rfl, rfl, upd_same, by decide, by decide, by decide, fun b hb => ?_⟩⟩
    have nl : x ≠ l := ne_of_none hx hl
    have nb : x ≠ b := ne_of_none (same_upd hl _ _ hx) hb
    have nlb : l ≠ b := ne_of_none upd_same hb
    refine ⟨_, rfl, x, _, dx, _, rfl, (by rw [upd_ne nb, upd_ne nl]; exact hx), T.cl_Cache, T.no_Cache_blocks, (by decide), ?_⟩
    refine q b _ ((same_upd hl).free hb) (fun c o n e => ?_) (by rw [upd_ne nb.symm, upd_same]; rfl) upd_same
    rw [upd_ne n, upd_ne (ne_of_none (same_upd hl _ _ e) hb), upd_ne (ne_of_none e hl)]
    exact e
theorem ok_pinit (T : Tx w K mg) : FnOk P w K mg base CX0 1 T.a_Predictor_init T.d_Predictor_init ["self"] (spPInit T.c_Predictor) := by
  refine T.F_Predictor_init.ok sc_Predictor_init (fun vs H Q E h => ?_) (fun cdv A outer s H vs Q E hr h => ?_)
  · obtain ⟨x, dx, rfl, _⟩ := h
    rfl
  · obtain ⟨x, dx, rfl, hx, q⟩ := h
    refine ⟨_, (pss_one (ps_fld (pv 0) (pe_op op_rep (pe_lst (pa_cons pe_int pa_nil)) (pe_glob rfl T.g_COUNTERS T.r_COUNTERS)) rfl)), ?_⟩
    refine ⟨Nat.le_of_ble_eq_true rfl, fun l hl => ⟨l, 16, [.int 1], rfl, rfl, upd_same, by decide, by decide, by decide, fun b hb => ?_⟩⟩
    have nl : x ≠ l := ne_of_none hx hl
    have nb : x ≠ b := ne_of_none (same_upd hl _ _ hx) hb
    have nlb : l ≠ b := ne_of_none upd_same hb
    refine ⟨_, rfl, x, _, dx, _, rfl, (by rw [upd_ne nb, upd_ne nl]; exact hx), T.cl_Predictor, T.no_Predictor_marks, (by decide), ?_⟩
    refine q b _ ((same_upd hl).free hb) (fun c o n e => ?_) (by rw [upd_ne nb.symm, upd_same]; rfl) upd_same
    rw [upd_ne n, upd_ne (ne_of_none (same_upd hl _ _ e) hb), upd_ne (ne_of_none e hl)]
    exact e
theorem ok_access (T : Tx w K mg) : FnOk P w K mg base CX0 1 T.a_Cache_access T.d_Cache_access ["self", "address"] (spAccess T.c_Cache) := by
  refine T.F_Cache_access.ok sc_Cache_access (fun vs H Q E h => ?_) (fun cdv A outer s H vs Q E hr h => ?_)
  · obtain ⟨x, dx, b, as, a, rfl, _⟩ := h
    rfl
  · obtain ⟨x, dx, b, as, a, rfl, hx, hb, ha, q⟩ := h
    refine ⟨_, (pss_cons (ps_set (i := 2) sc_Cache_access.nd rfl (.inl rfl) (pe_op op_fdiv (pv 1) (pe_glob rfl T.g_BLOCK_SIZE T.r_BLOCK_SIZE)))
        (pss_cons (ps_set (i := 3) sc_Cache_access.nd rfl (.inl rfl) (pe_op op_mod (pv 2) (pe_glob rfl T.g_LINES T.r_LINES)))
        (pss_cons (ps_if (pt_cmpR op_eq (pe_ix ix_list (pe_fld (pv 0) rfl) (pv 3) (fun _ _ => rfl)) (pv 2) (nomark _))
        (pss_one (ps_ret (pe_glob rfl T.g_HIT T.r_HIT)))
        pss_nil)
        (pss_cons (ps_asg (pv 2) (pg_sub (pe_fld (pv 0) rfl) (pv 3) set_list))
        (pss_one (ps_ret (pe_glob rfl T.g_MISS T.r_MISS))))))), ?_⟩
    have m0 : 0 ≤ a / 4 % 8 := Int.emod_nonneg _ (by decide)
    have m1 : a / 4 % 8 < 8 := Int.emod_lt_of_pos _ (by decide)
    (repeat (first | refine ⟨_, rfl, ?_⟩ | refine ⟨_, _, rfl, rfl, ?_⟩ | refine ⟨rfl, ?_⟩ | refine .inl ⟨_, rfl, ?_⟩ | refine .inr ⟨_, rfl, ?_⟩ | refine ⟨.inr ⟨by decide, by decide⟩, ?_⟩ | refine ⟨⟨by decide, by decide⟩, ?_⟩ | refine ⟨⟨by decide, by decide, by decide⟩, ?_⟩ | refine ⟨.inr ⟨by omega, by omega⟩, ?_⟩ | refine ⟨(by show (0 : Int) < _; first | decide | omega), ?_⟩ | refine ⟨Nat.le_trans (Nat.le_of_ble_eq_true rfl : _ ≤ 50) (by decide), ?_⟩ | refine ⟨_, _, _, _, rfl, rfl, upd_same, rfl, ?_⟩ | refine ⟨_, _, _, _, rfl, rfl, SqL.of upd_same, rfl, ?_⟩ | refine ⟨_, _, _, _, rfl, rfl, SqT.of upd_same, rfl, ?_⟩ | refine ⟨_, _, rfl, .inl (SqL.of upd_same), ?_⟩ | refine ⟨_, _, rfl, .inr (SqT.of upd_same), ?_⟩ | (refine' ⟨_, _, _, _, rfl, rfl, _, _, _⟩; rotate_left 2; (focus (first | assumption | exact SqL.of (by assumption) | exact SqT.of (by assumption) | exact Same.seq (by assumption) (by assumption))); (focus (exact rfl))) | (refine' ⟨_, _, rfl, _, _⟩; rotate_left 1; (focus (first | exact .inl (by assumption) | exact .inl (SqL.of (by assumption)) | exact .inr (by assumption) | exact .inr (SqT.of (by assumption)))))))
    refine ⟨x, _, dx, _, _, rfl, hx, T.cl_Cache, T.no_Cache_blocks, rfl, ?_⟩
    refine ⟨_, rfl, b, _, _, _, rfl, rfl, SqL.of hb, blocks_at as m0 m1, ?_⟩
    (repeat (first | refine ⟨_, rfl, ?_⟩ | refine ⟨_, _, rfl, rfl, ?_⟩ | refine ⟨rfl, ?_⟩ | refine .inl ⟨_, rfl, ?_⟩ | refine .inr ⟨_, rfl, ?_⟩ | refine ⟨.inr ⟨by decide, by decide⟩, ?_⟩ | refine ⟨⟨by decide, by decide⟩, ?_⟩ | refine ⟨⟨by decide, by decide, by decide⟩, ?_⟩ | refine ⟨.inr ⟨by omega, by omega⟩, ?_⟩ | refine ⟨(by show (0 : Int) < _; first | decide | omega), ?_⟩ | refine ⟨Nat.le_trans (Nat.le_of_ble_eq_true rfl : _ ≤ 50) (by decide), ?_⟩ | refine ⟨_, _, _, _, rfl, rfl, upd_same, rfl, ?_⟩ | refine ⟨_, _, _, _, rfl, rfl, SqL.of upd_same, rfl, ?_⟩ | refine ⟨_, _, _, _, rfl, rfl, SqT.of upd_same, rfl, ?_⟩ | refine ⟨_, _, rfl, .inl (SqL.of upd_same), ?_⟩ | refine ⟨_, _, rfl, .inr (SqT.of upd_same), ?_⟩ | (refine' ⟨_, _, _, _, rfl, rfl, _, _, _⟩; rotate_left 2; (focus (first | assumption | exact SqL.of (by assumption) | exact SqT.of (by assumption) | exact Same.seq (by assumption) (by assumption))); (focus (exact rfl))) | (refine' ⟨_, _, rfl, _, _⟩; rotate_left 1; (focus (first | exact .inl (by assumption) | exact .inl (SqL.of (by assumption)) | exact .inr (by assumption) | exact .inr (SqT.of (by assumption)))))))
    refine ite2 (fun e => ?_) (fun e => ?_)
    · have e1 : held as (a / 4 % 8) = a / 4 := by
        have := of_decide_eq_true e
        injection this
      have q1 := q H (fun _ _ _ z => z) (by
        rw [blocks_app as a m0 m1, List.map_set, hb]
        congr 2
        have h8 : (a / 4 % 8).toNat < (blocks as).length := by rw [blocks_len]; omega
        apply List.ext_getElem?
        intro j
        by_cases hj : (a / 4 % 8).toNat = j
        · subst hj
          rw [List.getElem?_set_self (by rw [List.length_map]; exact h8), List.getElem?_map]
          unfold blocks
          rw [List.getElem?_map, List.getElem?_range (by omega)]
          show some (V.int (held as ((a / 4 % 8).toNat : Int))) = _
          rw [Int.toNat_of_nonneg m0, e1]
        · rw [List.getElem?_set_ne hj])
      rw [if_pos e1] at q1
      exact q1
    · have e1 : ¬ held as (a / 4 % 8) = a / 4 := fun z => e (decide_eq_true (by rw [z]))
      (repeat (first | refine ⟨_, rfl, ?_⟩ | refine ⟨_, _, rfl, rfl, ?_⟩ | refine ⟨rfl, ?_⟩ | refine .inl ⟨_, rfl, ?_⟩ | refine .inr ⟨_, rfl, ?_⟩ | refine ⟨.inr ⟨by decide, by decide⟩, ?_⟩ | refine ⟨⟨by decide, by decide⟩, ?_⟩ | refine ⟨⟨by decide, by decide, by decide⟩, ?_⟩ | refine ⟨.inr ⟨by omega, by omega⟩, ?_⟩ | refine ⟨(by show (0 : Int) < _; first | decide | omega), ?_⟩ | refine ⟨Nat.le_trans (Nat.le_of_ble_eq_true rfl : _ ≤ 50) (by decide), ?_⟩ | refine ⟨_, _, _, _, rfl, rfl, upd_same, rfl, ?_⟩ | refine ⟨_, _, _, _, rfl, rfl, SqL.of upd_same, rfl, ?_⟩ | refine ⟨_, _, _, _, rfl, rfl, SqT.of upd_same, rfl, ?_⟩ | refine ⟨_, _, rfl, .inl (SqL.of upd_same), ?_⟩ | refine ⟨_, _, rfl, .inr (SqT.of upd_same), ?_⟩ | (refine' ⟨_, _, _, _, rfl, rfl, _, _, _⟩; rotate_left 2; (focus (first | assumption | exact SqL.of (by assumption) | exact SqT.of (by assumption) | exact Same.seq (by assumption) (by assumption))); (focus (exact rfl))) | (refine' ⟨_, _, rfl, _, _⟩; rotate_left 1; (focus (first | exact .inl (by assumption) | exact .inl (SqL.of (by assumption)) | exact .inr (by assumption) | exact .inr (SqT.of (by assumption)))))))
      refine ⟨x, _, dx, _, _, rfl, hx, T.cl_Cache, T.no_Cache_blocks, rfl, ?_⟩
      refine ⟨_, rfl, b, _, _, (a / 4 % 8).toNat, rfl, rfl, hb, ?_, ?_⟩
      · exact ixN_of m0 (by rw [List.length_map, blocks_len]; exact m1)
      · have q1 := q (upd H b (.lst (((blocks as).map V.int).set (a / 4 % 8).toNat (.int (a / 4))))) (keep_upd _ _ _) (by rw [upd_same, blocks_app as a m0 m1, List.map_set])
        rw [if_neg e1] at q1
        exact q1
theorem ok_lines (T : Tx w K mg) : FnOk P w K mg base CX0 1 T.a_Cache_lines T.d_Cache_lines ["self"] (spLines T.c_Cache) := by
  refine T.F_Cache_lines.ok sc_Cache_lines (fun vs H Q E h => ?_) (fun cdv A outer s H vs Q E hr h => ?_)
  · obtain ⟨x, dx, b, ns, rfl, _⟩ := h
    rfl
  · obtain ⟨x, dx, b, ns, rfl, hx, hb, q⟩ := h
    refine ⟨_, (pss_one (ps_ret (pe_callTy call_list_of (by rfl) T.z_list (by decide +kernel) (pa_cons (pe_fld (pv 0) rfl) pa_nil)))), ?_⟩
    refine ⟨_, rfl, x, _, dx, _, _, rfl, hx, T.cl_Cache, T.no_Cache_blocks, rfl, b, _, rfl, .inl (SqL.of hb), q⟩
theorem ok_counters (T : Tx w K mg) : FnOk P w K mg base CX0 1 T.a_Predictor_counters T.d_Predictor_counters ["self"] (spCounters T.c_Predictor) := by
  refine T.F_Predictor_counters.ok sc_Predictor_counters (fun vs H Q E h => ?_) (fun cdv A outer s H vs Q E hr h => ?_)
  · obtain ⟨x, dx, b, ns, rfl, _⟩ := h
    rfl
  · obtain ⟨x, dx, b, ns, rfl, hx, hb, q⟩ := h
    refine ⟨_, (pss_one (ps_ret (pe_callTy call_list_of (by rfl) T.z_list (by decide +kernel) (pa_cons (pe_fld (pv 0) rfl) pa_nil)))), ?_⟩
    refine ⟨_, rfl, x, _, dx, _, _, rfl, hx, T.cl_Predictor, T.no_Predictor_marks, rfl, b, _, rfl, .inl (SqL.of hb), q⟩
theorem ok_branch (T : Tx w K mg) : FnOk P w K mg base CX0 1 T.a_Predictor_branch T.d_Predictor_branch ["self", "place", "jumps"] (spBranch T.c_Predictor) := by
  refine T.F_Predictor_branch.ok sc_Predictor_branch (fun vs H Q E h => ?_) (fun cdv A outer s H vs Q E hr h => ?_)
  · obtain ⟨x, dx, b, js, p, j, rfl, _⟩ := h
    rfl
  · obtain ⟨x, dx, b, js, p, j, rfl, hx, hb, hp, q⟩ := h
    refine ⟨_, (pss_cons (ps_set (i := 3) sc_Predictor_branch.nd rfl (.inl rfl) (pe_op op_mod (pv 1) (pe_glob rfl T.g_COUNTERS T.r_COUNTERS)))
        (pss_cons (ps_set (i := 4) sc_Predictor_branch.nd rfl (.inl rfl) (pe_ix ix_list (pe_fld (pv 0) rfl) (pv 3) (fun _ _ => rfl)))
        (pss_cons (ps_asg (pe_ifExp (pt_val (pv 2)) (pe_callB (call_min2 rfl) (by rfl) T.z_min (by decide +kernel) (pa_cons (pe_op op_add (pv 4) pe_int) (pa_cons (pe_glob rfl T.g_STRONGEST T.r_STRONGEST) pa_nil))) (pe_callB (call_max2 rfl) (by rfl) T.z_max (by decide +kernel) (pa_cons (pe_op op_sub (pv 4) pe_int) (pa_cons pe_int pa_nil)))) (pg_sub (pe_fld (pv 0) rfl) (pv 3) set_list))
        (pss_one (ps_ret (pe_cmpR op_eq (pe_cmpR op_ge (pv 4) pe_int (nomark _)) (pv 2) (nomark _))))))), ?_⟩
    have m0 : 0 ≤ p % 16 := Int.emod_nonneg _ (by decide)
    have m1 : p % 16 < 16 := Int.emod_lt_of_pos _ (by decide)
    (repeat (first | refine ⟨_, rfl, ?_⟩ | refine ⟨_, _, rfl, rfl, ?_⟩ | refine ⟨rfl, ?_⟩ | refine .inl ⟨_, rfl, ?_⟩ | refine .inr ⟨_, rfl, ?_⟩ | refine ⟨.inr ⟨by decide, by decide⟩, ?_⟩ | refine ⟨⟨by decide, by decide⟩, ?_⟩ | refine ⟨⟨by decide, by decide, by decide⟩, ?_⟩ | refine ⟨.inr ⟨by omega, by omega⟩, ?_⟩ | refine ⟨(by show (0 : Int) < _; first | decide | omega), ?_⟩ | refine ⟨Nat.le_trans (Nat.le_of_ble_eq_true rfl : _ ≤ 50) (by decide), ?_⟩ | refine ⟨_, _, _, _, rfl, rfl, upd_same, rfl, ?_⟩ | refine ⟨_, _, _, _, rfl, rfl, SqL.of upd_same, rfl, ?_⟩ | refine ⟨_, _, _, _, rfl, rfl, SqT.of upd_same, rfl, ?_⟩ | refine ⟨_, _, rfl, .inl (SqL.of upd_same), ?_⟩ | refine ⟨_, _, rfl, .inr (SqT.of upd_same), ?_⟩ | (refine' ⟨_, _, _, _, rfl, rfl, _, _, _⟩; rotate_left 2; (focus (first | assumption | exact SqL.of (by assumption) | exact SqT.of (by assumption) | exact Same.seq (by assumption) (by assumption))); (focus (exact rfl))) | (refine' ⟨_, _, rfl, _, _⟩; rotate_left 1; (focus (first | exact .inl (by assumption) | exact .inl (SqL.of (by assumption)) | exact .inr (by assumption) | exact .inr (SqT.of (by assumption)))))))
    refine ⟨x, _, dx, _, _, rfl, hx, T.cl_Predictor, T.no_Predictor_marks, rfl, ?_⟩
    refine ⟨_, rfl, b, _, _, _, rfl, rfl, SqL.of hb, marks_at js m0 m1, ?_⟩
    (repeat (first | refine ⟨_, rfl, ?_⟩ | refine ⟨_, _, rfl, rfl, ?_⟩ | refine ⟨rfl, ?_⟩ | refine .inl ⟨_, rfl, ?_⟩ | refine .inr ⟨_, rfl, ?_⟩ | refine ⟨.inr ⟨by decide, by decide⟩, ?_⟩ | refine ⟨⟨by decide, by decide⟩, ?_⟩ | refine ⟨⟨by decide, by decide, by decide⟩, ?_⟩ | refine ⟨.inr ⟨by omega, by omega⟩, ?_⟩ | refine ⟨(by show (0 : Int) < _; first | decide | omega), ?_⟩ | refine ⟨Nat.le_trans (Nat.le_of_ble_eq_true rfl : _ ≤ 50) (by decide), ?_⟩ | refine ⟨_, _, _, _, rfl, rfl, upd_same, rfl, ?_⟩ | refine ⟨_, _, _, _, rfl, rfl, SqL.of upd_same, rfl, ?_⟩ | refine ⟨_, _, _, _, rfl, rfl, SqT.of upd_same, rfl, ?_⟩ | refine ⟨_, _, rfl, .inl (SqL.of upd_same), ?_⟩ | refine ⟨_, _, rfl, .inr (SqT.of upd_same), ?_⟩ | (refine' ⟨_, _, _, _, rfl, rfl, _, _, _⟩; rotate_left 2; (focus (first | assumption | exact SqL.of (by assumption) | exact SqT.of (by assumption) | exact Same.seq (by assumption) (by assumption))); (focus (exact rfl))) | (refine' ⟨_, _, rfl, _, _⟩; rotate_left 1; (focus (first | exact .inl (by assumption) | exact .inl (SqL.of (by assumption)) | exact .inr (by assumption) | exact .inr (SqT.of (by assumption)))))))
    have fin : ∀ (H' : Hp) (v : Int), H' = upd H b (.lst (((marks js).map V.int).set (p % 16).toNat (.int v))) → v = (if j = true then (if count js (p % 16) + 1 < 3 then count js (p % 16) + 1 else 3) else (if count js (p % 16) - 1 < 0 then 0 else count js (p % 16) - 1)) →
        Q (.bl (decide (V.bl (decide (2 ≤ count js (p % 16))) = V.bl j))) H' := fun H' v eH ev => by
      refine q H' (by rw [eH]; exact keep_upd _ _ _) ?_
      rw [eH, upd_same, marks_app js p j m0 m1, List.map_set, ev]
    cases j with
    | true =>
      refine iteT ?_
      (repeat (first | refine ⟨_, rfl, ?_⟩ | refine ⟨_, _, rfl, rfl, ?_⟩ | refine ⟨rfl, ?_⟩ | refine .inl ⟨_, rfl, ?_⟩ | refine .inr ⟨_, rfl, ?_⟩ | refine ⟨.inr ⟨by decide, by decide⟩, ?_⟩ | refine ⟨⟨by decide, by decide⟩, ?_⟩ | refine ⟨⟨by decide, by decide, by decide⟩, ?_⟩ | refine ⟨.inr ⟨by omega, by omega⟩, ?_⟩ | refine ⟨(by show (0 : Int) < _; first | decide | omega), ?_⟩ | refine ⟨Nat.le_trans (Nat.le_of_ble_eq_true rfl : _ ≤ 50) (by decide), ?_⟩ | refine ⟨_, _, _, _, rfl, rfl, upd_same, rfl, ?_⟩ | refine ⟨_, _, _, _, rfl, rfl, SqL.of upd_same, rfl, ?_⟩ | refine ⟨_, _, _, _, rfl, rfl, SqT.of upd_same, rfl, ?_⟩ | refine ⟨_, _, rfl, .inl (SqL.of upd_same), ?_⟩ | refine ⟨_, _, rfl, .inr (SqT.of upd_same), ?_⟩ | (refine' ⟨_, _, _, _, rfl, rfl, _, _, _⟩; rotate_left 2; (focus (first | assumption | exact SqL.of (by assumption) | exact SqT.of (by assumption) | exact Same.seq (by assumption) (by assumption))); (focus (exact rfl))) | (refine' ⟨_, _, rfl, _, _⟩; rotate_left 1; (focus (first | exact .inl (by assumption) | exact .inl (SqL.of (by assumption)) | exact .inr (by assumption) | exact .inr (SqT.of (by assumption)))))))
      refine ⟨_, _, rfl, ?_⟩
      (repeat (first | refine ⟨_, rfl, ?_⟩ | refine ⟨_, _, rfl, rfl, ?_⟩ | refine ⟨rfl, ?_⟩ | refine .inl ⟨_, rfl, ?_⟩ | refine .inr ⟨_, rfl, ?_⟩ | refine ⟨.inr ⟨by decide, by decide⟩, ?_⟩ | refine ⟨⟨by decide, by decide⟩, ?_⟩ | refine ⟨⟨by decide, by decide, by decide⟩, ?_⟩ | refine ⟨.inr ⟨by omega, by omega⟩, ?_⟩ | refine ⟨(by show (0 : Int) < _; first | decide | omega), ?_⟩ | refine ⟨Nat.le_trans (Nat.le_of_ble_eq_true rfl : _ ≤ 50) (by decide), ?_⟩ | refine ⟨_, _, _, _, rfl, rfl, upd_same, rfl, ?_⟩ | refine ⟨_, _, _, _, rfl, rfl, SqL.of upd_same, rfl, ?_⟩ | refine ⟨_, _, _, _, rfl, rfl, SqT.of upd_same, rfl, ?_⟩ | refine ⟨_, _, rfl, .inl (SqL.of upd_same), ?_⟩ | refine ⟨_, _, rfl, .inr (SqT.of upd_same), ?_⟩ | (refine' ⟨_, _, _, _, rfl, rfl, _, _, _⟩; rotate_left 2; (focus (first | assumption | exact SqL.of (by assumption) | exact SqT.of (by assumption) | exact Same.seq (by assumption) (by assumption))); (focus (exact rfl))) | (refine' ⟨_, _, rfl, _, _⟩; rotate_left 1; (focus (first | exact .inl (by assumption) | exact .inl (SqL.of (by assumption)) | exact .inr (by assumption) | exact .inr (SqT.of (by assumption)))))))
      refine ⟨x, _, dx, _, _, rfl, hx, T.cl_Predictor, T.no_Predictor_marks, rfl, ?_⟩
      refine ⟨_, rfl, b, _, _, (p % 16).toNat, rfl, rfl, hb, ixN_of m0 (by rw [List.length_map, marks_len]; exact m1), ?_⟩
      (repeat (first | refine ⟨_, rfl, ?_⟩ | refine ⟨_, _, rfl, rfl, ?_⟩ | refine ⟨rfl, ?_⟩ | refine .inl ⟨_, rfl, ?_⟩ | refine .inr ⟨_, rfl, ?_⟩ | refine ⟨.inr ⟨by decide, by decide⟩, ?_⟩ | refine ⟨⟨by decide, by decide⟩, ?_⟩ | refine ⟨⟨by decide, by decide, by decide⟩, ?_⟩ | refine ⟨.inr ⟨by omega, by omega⟩, ?_⟩ | refine ⟨(by show (0 : Int) < _; first | decide | omega), ?_⟩ | refine ⟨Nat.le_trans (Nat.le_of_ble_eq_true rfl : _ ≤ 50) (by decide), ?_⟩ | refine ⟨_, _, _, _, rfl, rfl, upd_same, rfl, ?_⟩ | refine ⟨_, _, _, _, rfl, rfl, SqL.of upd_same, rfl, ?_⟩ | refine ⟨_, _, _, _, rfl, rfl, SqT.of upd_same, rfl, ?_⟩ | refine ⟨_, _, rfl, .inl (SqL.of upd_same), ?_⟩ | refine ⟨_, _, rfl, .inr (SqT.of upd_same), ?_⟩ | (refine' ⟨_, _, _, _, rfl, rfl, _, _, _⟩; rotate_left 2; (focus (first | assumption | exact SqL.of (by assumption) | exact SqT.of (by assumption) | exact Same.seq (by assumption) (by assumption))); (focus (exact rfl))) | (refine' ⟨_, _, rfl, _, _⟩; rotate_left 1; (focus (first | exact .inl (by assumption) | exact .inl (SqL.of (by assumption)) | exact .inr (by assumption) | exact .inr (SqT.of (by assumption)))))))
      exact fin _ _ rfl (by rw [if_pos rfl]; split <;> split <;> omega)
    | false =>
      refine iteF ?_
      (repeat (first | refine ⟨_, rfl, ?_⟩ | refine ⟨_, _, rfl, rfl, ?_⟩ | refine ⟨rfl, ?_⟩ | refine .inl ⟨_, rfl, ?_⟩ | refine .inr ⟨_, rfl, ?_⟩ | refine ⟨.inr ⟨by decide, by decide⟩, ?_⟩ | refine ⟨⟨by decide, by decide⟩, ?_⟩ | refine ⟨⟨by decide, by decide, by decide⟩, ?_⟩ | refine ⟨.inr ⟨by omega, by omega⟩, ?_⟩ | refine ⟨(by show (0 : Int) < _; first | decide | omega), ?_⟩ | refine ⟨Nat.le_trans (Nat.le_of_ble_eq_true rfl : _ ≤ 50) (by decide), ?_⟩ | refine ⟨_, _, _, _, rfl, rfl, upd_same, rfl, ?_⟩ | refine ⟨_, _, _, _, rfl, rfl, SqL.of upd_same, rfl, ?_⟩ | refine ⟨_, _, _, _, rfl, rfl, SqT.of upd_same, rfl, ?_⟩ | refine ⟨_, _, rfl, .inl (SqL.of upd_same), ?_⟩ | refine ⟨_, _, rfl, .inr (SqT.of upd_same), ?_⟩ | (refine' ⟨_, _, _, _, rfl, rfl, _, _, _⟩; rotate_left 2; (focus (first | assumption | exact SqL.of (by assumption) | exact SqT.of (by assumption) | exact Same.seq (by assumption) (by assumption))); (focus (exact rfl))) | (refine' ⟨_, _, rfl, _, _⟩; rotate_left 1; (focus (first | exact .inl (by assumption) | exact .inl (SqL.of (by assumption)) | exact .inr (by assumption) | exact .inr (SqT.of (by assumption)))))))
      refine ⟨_, _, rfl, ?_⟩
      (repeat (first | refine ⟨_, rfl, ?_⟩ | refine ⟨_, _, rfl, rfl, ?_⟩ | refine ⟨rfl, ?_⟩ | refine .inl ⟨_, rfl, ?_⟩ | refine .inr ⟨_, rfl, ?_⟩ | refine ⟨.inr ⟨by decide, by decide⟩, ?_⟩ | refine ⟨⟨by decide, by decide⟩, ?_⟩ | refine ⟨⟨by decide, by decide, by decide⟩, ?_⟩ | refine ⟨.inr ⟨by omega, by omega⟩, ?_⟩ | refine ⟨(by show (0 : Int) < _; first | decide | omega), ?_⟩ | refine ⟨Nat.le_trans (Nat.le_of_ble_eq_true rfl : _ ≤ 50) (by decide), ?_⟩ | refine ⟨_, _, _, _, rfl, rfl, upd_same, rfl, ?_⟩ | refine ⟨_, _, _, _, rfl, rfl, SqL.of upd_same, rfl, ?_⟩ | refine ⟨_, _, _, _, rfl, rfl, SqT.of upd_same, rfl, ?_⟩ | refine ⟨_, _, rfl, .inl (SqL.of upd_same), ?_⟩ | refine ⟨_, _, rfl, .inr (SqT.of upd_same), ?_⟩ | (refine' ⟨_, _, _, _, rfl, rfl, _, _, _⟩; rotate_left 2; (focus (first | assumption | exact SqL.of (by assumption) | exact SqT.of (by assumption) | exact Same.seq (by assumption) (by assumption))); (focus (exact rfl))) | (refine' ⟨_, _, rfl, _, _⟩; rotate_left 1; (focus (first | exact .inl (by assumption) | exact .inl (SqL.of (by assumption)) | exact .inr (by assumption) | exact .inr (SqT.of (by assumption)))))))
      refine ⟨x, _, dx, _, _, rfl, hx, T.cl_Predictor, T.no_Predictor_marks, rfl, ?_⟩
      refine ⟨_, rfl, b, _, _, (p % 16).toNat, rfl, rfl, hb, ixN_of m0 (by rw [List.length_map, marks_len]; exact m1), ?_⟩
      (repeat (first | refine ⟨_, rfl, ?_⟩ | refine ⟨_, _, rfl, rfl, ?_⟩ | refine ⟨rfl, ?_⟩ | refine .inl ⟨_, rfl, ?_⟩ | refine .inr ⟨_, rfl, ?_⟩ | refine ⟨.inr ⟨by decide, by decide⟩, ?_⟩ | refine ⟨⟨by decide, by decide⟩, ?_⟩ | refine ⟨⟨by decide, by decide, by decide⟩, ?_⟩ | refine ⟨.inr ⟨by omega, by omega⟩, ?_⟩ | refine ⟨(by show (0 : Int) < _; first | decide | omega), ?_⟩ | refine ⟨Nat.le_trans (Nat.le_of_ble_eq_true rfl : _ ≤ 50) (by decide), ?_⟩ | refine ⟨_, _, _, _, rfl, rfl, upd_same, rfl, ?_⟩ | refine ⟨_, _, _, _, rfl, rfl, SqL.of upd_same, rfl, ?_⟩ | refine ⟨_, _, _, _, rfl, rfl, SqT.of upd_same, rfl, ?_⟩ | refine ⟨_, _, rfl, .inl (SqL.of upd_same), ?_⟩ | refine ⟨_, _, rfl, .inr (SqT.of upd_same), ?_⟩ | (refine' ⟨_, _, _, _, rfl, rfl, _, _, _⟩; rotate_left 2; (focus (first | assumption | exact SqL.of (by assumption) | exact SqT.of (by assumption) | exact Same.seq (by assumption) (by assumption))); (focus (exact rfl))) | (refine' ⟨_, _, rfl, _, _⟩; rotate_left 1; (focus (first | exact .inl (by assumption) | exact .inl (SqL.of (by assumption)) | exact .inr (by assumption) | exact .inr (SqT.of (by assumption)))))))
      exact fin _ _ rfl (by rw [if_neg Bool.false_ne_true])
theorem ok_num (T : Tx w K mg) : FnOk P w K mg base CX0 1 T.a_law_is_number T.d_law_is_number ["value", "due"] spNum := by
  refine T.F_law_is_number.ok sc_law_is_number (fun vs H Q E h => ?_) (fun cdv A outer s H vs Q E hr h => ?_)
  · obtain ⟨v, rfl, _⟩ := h
    rfl
  · obtain ⟨v, rfl, q⟩ := h
    refine ⟨_, (pss_one (ps_ret (pe_and (pe_callB call_isi (by rfl) T.z_isinstance (by decide +kernel) (pa_cons (pv 0) (pa_cons (pe_bltn (v := .ty "int") (u := .type "int") (by rfl) T.z_int (by decide +kernel) rfl) pa_nil))) (pe_and (pe_not (pe_callB call_isi (by rfl) T.z_isinstance (by decide +kernel) (pa_cons (pv 0) (pa_cons (pe_bltn (v := .ty "bool") (u := .type "bool") (by rfl) T.z_bool (by decide +kernel) rfl) pa_nil)))) (pe_one (pe_cmpR op_eq (pv 0) (pv 1) (nomark _))))))), ?_⟩
    refine ⟨_, rfl, _, _, _, _, true, rfl, .ty "int", .base (.int v), kit_ty (by decide +kernel), true, rfl, iteT ?_⟩
    refine ⟨_, rfl, _, _, _, _, false, rfl, .ty "bool", .base (.int v), kit_ty (by decide +kernel), false, rfl, true, rfl, iteT ?_⟩
    (repeat (first | refine ⟨_, rfl, ?_⟩ | refine ⟨_, _, rfl, rfl, ?_⟩ | refine ⟨rfl, ?_⟩ | refine .inl ⟨_, rfl, ?_⟩ | refine .inr ⟨_, rfl, ?_⟩ | refine ⟨.inr ⟨by decide, by decide⟩, ?_⟩ | refine ⟨⟨by decide, by decide⟩, ?_⟩ | refine ⟨⟨by decide, by decide, by decide⟩, ?_⟩ | refine ⟨.inr ⟨by omega, by omega⟩, ?_⟩ | refine ⟨(by show (0 : Int) < _; first | decide | omega), ?_⟩ | refine ⟨Nat.le_trans (Nat.le_of_ble_eq_true rfl : _ ≤ 50) (by decide), ?_⟩ | refine ⟨_, _, _, _, rfl, rfl, upd_same, rfl, ?_⟩ | refine ⟨_, _, _, _, rfl, rfl, SqL.of upd_same, rfl, ?_⟩ | refine ⟨_, _, _, _, rfl, rfl, SqT.of upd_same, rfl, ?_⟩ | refine ⟨_, _, rfl, .inl (SqL.of upd_same), ?_⟩ | refine ⟨_, _, rfl, .inr (SqT.of upd_same), ?_⟩ | (refine' ⟨_, _, _, _, rfl, rfl, _, _, _⟩; rotate_left 2; (focus (first | assumption | exact SqL.of (by assumption) | exact SqT.of (by assumption) | exact Same.seq (by assumption) (by assumption))); (focus (exact rfl))) | (refine' ⟨_, _, rfl, _, _⟩; rotate_left 1; (focus (first | exact .inl (by assumption) | exact .inl (SqL.of (by assumption)) | exact .inr (by assumption) | exact .inr (SqT.of (by assumption)))))))
    show Q (V.bl (decide (V.int v = V.int v))) H
    rw [decide_eq_true rfl]
    exact q
theorem ok_nums (T : Tx w K mg) : FnOk P w K mg base CX0 2 T.a_law_are_numbers T.d_law_are_numbers ["values", "due"] spNums := by
  have G_law_is_number : FnOk P w K mg base CX0 1 T.a_law_is_number T.d_law_is_number ["value", "due"] spNum := ok_num T
  refine T.F_law_are_numbers.ok sc_law_are_numbers (fun vs H Q E h => ?_) (fun cdv A outer s H vs Q E hr h => ?_)
  · obtain ⟨a, b, ns, rfl, _⟩ := h
    rfl
  · obtain ⟨a, b, ns, rfl, ha, hb, hl, q⟩ := h
    have hr_law_is_number : Room 1 _ := hr
    refine ⟨_, (pss_cons (ps_if (PW.pt (pw_or (pt_not (pt_val (pe_callB call_isi (by rfl) T.z_isinstance (by decide +kernel) (pa_cons (pv 0) (pa_cons (pe_bltn (v := .ty "list") (u := .type "list") (by rfl) T.z_list (by decide +kernel) rfl) pa_nil))))) (pw_or1 (pt_cmpR op_ne (pe_callB call_len_seq (by rfl) T.z_len (by decide +kernel) (pa_cons (pv 0) pa_nil)) (pe_callB call_len_seq (by rfl) T.z_len (by decide +kernel) (pa_cons (pv 1) pa_nil)) (nomark _)))))
        (pss_one (ps_ret pe_bl))
        pss_nil)
        (pss_cons (ps_for PassesOwn.never rfl (pi_range1 rfl T.z_range (pa_cons (pe_callB call_len_seq (by rfl) T.z_len (by decide +kernel) (pa_cons (pv 1) pa_nil)) pa_nil)) (pg_name (i := 2) sc_law_are_numbers.nd rfl (.inl rfl))
        (pss_one (ps_if (pt_not (pt_val (pe_call G_law_is_number hr_law_is_number (by rfl) T.g_law_is_number T.F_law_is_number.kp T.b_law_is_number .nil pass0 (pa_cons (pe_ix ix_list (pv 0) (pv 2) (fun _ _ => rfl)) (pa_cons (pe_ix ix_list (pv 1) (pv 2) (fun _ _ => rfl)) pa_nil)))))
        (pss_one (ps_ret pe_bl))
        pss_nil)))
        (pss_one (ps_ret pe_bl)))), ?_⟩
    refine ⟨_, rfl, _, _, _, _, true, rfl, .ty "list", .base (.lst ha), kit_ty (by decide +kernel), ?_⟩
    (repeat (first | refine ⟨_, rfl, ?_⟩ | refine ⟨_, _, rfl, rfl, ?_⟩ | refine ⟨rfl, ?_⟩ | refine .inl ⟨_, rfl, ?_⟩ | refine .inr ⟨_, rfl, ?_⟩ | refine ⟨.inr ⟨by decide, by decide⟩, ?_⟩ | refine ⟨⟨by decide, by decide⟩, ?_⟩ | refine ⟨⟨by decide, by decide, by decide⟩, ?_⟩ | refine ⟨.inr ⟨by omega, by omega⟩, ?_⟩ | refine ⟨(by show (0 : Int) < _; first | decide | omega), ?_⟩ | refine ⟨Nat.le_trans (Nat.le_of_ble_eq_true rfl : _ ≤ 50) (by decide), ?_⟩ | refine ⟨_, _, _, _, rfl, rfl, upd_same, rfl, ?_⟩ | refine ⟨_, _, _, _, rfl, rfl, SqL.of upd_same, rfl, ?_⟩ | refine ⟨_, _, _, _, rfl, rfl, SqT.of upd_same, rfl, ?_⟩ | refine ⟨_, _, rfl, .inl (SqL.of upd_same), ?_⟩ | refine ⟨_, _, rfl, .inr (SqT.of upd_same), ?_⟩ | (refine' ⟨_, _, _, _, rfl, rfl, _, _, _⟩; rotate_left 2; (focus (first | assumption | exact SqL.of (by assumption) | exact SqT.of (by assumption) | exact Same.seq (by assumption) (by assumption))); (focus (exact rfl))) | (refine' ⟨_, _, rfl, _, _⟩; rotate_left 1; (focus (first | exact .inl (by assumption) | exact .inl (SqL.of (by assumption)) | exact .inr (by assumption) | exact .inr (SqT.of (by assumption)))))))
    refine iteNS rfl ?_
    (repeat (first | refine ⟨_, rfl, ?_⟩ | refine ⟨_, _, rfl, rfl, ?_⟩ | refine ⟨rfl, ?_⟩ | refine .inl ⟨_, rfl, ?_⟩ | refine .inr ⟨_, rfl, ?_⟩ | refine ⟨.inr ⟨by decide, by decide⟩, ?_⟩ | refine ⟨⟨by decide, by decide⟩, ?_⟩ | refine ⟨⟨by decide, by decide, by decide⟩, ?_⟩ | refine ⟨.inr ⟨by omega, by omega⟩, ?_⟩ | refine ⟨(by show (0 : Int) < _; first | decide | omega), ?_⟩ | refine ⟨Nat.le_trans (Nat.le_of_ble_eq_true rfl : _ ≤ 50) (by decide), ?_⟩ | refine ⟨_, _, _, _, rfl, rfl, upd_same, rfl, ?_⟩ | refine ⟨_, _, _, _, rfl, rfl, SqL.of upd_same, rfl, ?_⟩ | refine ⟨_, _, _, _, rfl, rfl, SqT.of upd_same, rfl, ?_⟩ | refine ⟨_, _, rfl, .inl (SqL.of upd_same), ?_⟩ | refine ⟨_, _, rfl, .inr (SqT.of upd_same), ?_⟩ | (refine' ⟨_, _, _, _, rfl, rfl, _, _, _⟩; rotate_left 2; (focus (first | assumption | exact SqL.of (by assumption) | exact SqT.of (by assumption) | exact Same.seq (by assumption) (by assumption))); (focus (exact rfl))) | (refine' ⟨_, _, rfl, _, _⟩; rotate_left 1; (focus (first | exact .inl (by assumption) | exact .inl (SqL.of (by assumption)) | exact .inr (by assumption) | exact .inr (SqT.of (by assumption)))))))
    rw [List.length_map]
    refine ⟨by omega, by omega, for_range (lo := 0) (n := ns.length) (fun i σ H2 => ∃ v, σ = [some (.ref a), some (.ref b), v] ∧ H2 = H) ⟨none, rfl, rfl⟩ ?_ ?_⟩
    · rintro i σ H2 hi ⟨v, rfl, rfl⟩
      refine ⟨_, rfl, _, rfl, a, _, _, _, rfl, rfl, SqL.of ha, get_at hi, _, rfl, _, rfl, b, _, _, _, rfl, rfl, SqL.of hb, get_at hi, ?_⟩
      refine ⟨ns[i], rfl, ?_⟩
      (repeat (first | refine ⟨_, rfl, ?_⟩ | refine ⟨_, _, rfl, rfl, ?_⟩ | refine ⟨rfl, ?_⟩ | refine .inl ⟨_, rfl, ?_⟩ | refine .inr ⟨_, rfl, ?_⟩ | refine ⟨.inr ⟨by decide, by decide⟩, ?_⟩ | refine ⟨⟨by decide, by decide⟩, ?_⟩ | refine ⟨⟨by decide, by decide, by decide⟩, ?_⟩ | refine ⟨.inr ⟨by omega, by omega⟩, ?_⟩ | refine ⟨(by show (0 : Int) < _; first | decide | omega), ?_⟩ | refine ⟨Nat.le_trans (Nat.le_of_ble_eq_true rfl : _ ≤ 50) (by decide), ?_⟩ | refine ⟨_, _, _, _, rfl, rfl, upd_same, rfl, ?_⟩ | refine ⟨_, _, _, _, rfl, rfl, SqL.of upd_same, rfl, ?_⟩ | refine ⟨_, _, _, _, rfl, rfl, SqT.of upd_same, rfl, ?_⟩ | refine ⟨_, _, rfl, .inl (SqL.of upd_same), ?_⟩ | refine ⟨_, _, rfl, .inr (SqT.of upd_same), ?_⟩ | (refine' ⟨_, _, _, _, rfl, rfl, _, _, _⟩; rotate_left 2; (focus (first | assumption | exact SqL.of (by assumption) | exact SqT.of (by assumption) | exact Same.seq (by assumption) (by assumption))); (focus (exact rfl))) | (refine' ⟨_, _, rfl, _, _⟩; rotate_left 1; (focus (first | exact .inl (by assumption) | exact .inl (SqL.of (by assumption)) | exact .inr (by assumption) | exact .inr (SqT.of (by assumption)))))))
      exact rfl
    · rintro σ H2 ⟨v, rfl, rfl⟩
      exact q
end
end K30

set_option Elab.async false
set_option linter.all false
set_option maxRecDepth 100000
set_option maxHeartbeats 4000000
namespace K30
open PySem PySem.Spec PyProof.Rows L2 QX Lw
section
variable {P : Program} {w : World} {K : PySem.W.Frag} {mg : Str → Option Value} {base : Heap}
def names13 : List Str := ["set", "move", "add", "addc", "sub", "subc", "and", "or", "xor", "less", "down", "up", "carry"]
def names5 : List Str := ["clear", "load", "store", "below", "halt"]
def names5b : List Str := ["downby", "jump", "call", "ret", "div"]
theorem in13 : ∀ z ∈ names13, (z, (1 : Int)) ∈ KDx.cycles25 := by decide +kernel
theorem in5 : ∀ z ∈ names5, (z, (1 : Int)) ∈ KDx.cycles25 := by decide +kernel
theorem in5b : ∀ z ∈ names5b, (z, (2 : Int)) ∈ KDx.cycles25 := by decide +kernel
theorem ok_baseholds (T : Tx w K mg) : FnOk P w K mg base CX0 2 T.a_law_base_holds T.d_law_base_holds [] spBaseHolds := by
  have G_law_is_number : FnOk P w K mg base CX0 1 T.a_law_is_number T.d_law_is_number ["value", "due"] spNum := ok_num T
  have G_base_cycles : FnOk P w K mg base CX0 1 T.a_base_cycles T.d_base_cycles ["name"] spBase := ok_base T
  refine T.F_law_base_holds.ok sc_law_base_holds (fun vs H Q E h => ?_) (fun cdv A outer s H vs Q E hr h => ?_)
  · obtain ⟨rfl, _⟩ := h
    rfl
  · obtain ⟨rfl, q⟩ := h
    have hr_law_is_number : Room 1 _ := hr
    have hr_base_cycles : Room 1 _ := hr
    refine ⟨_, (pss_cons (ps_for PassesOwn.never rfl (pi_list (pe_lst (pa_cons pe_str (pa_cons pe_str (pa_cons pe_str (pa_cons pe_str (pa_cons pe_str (pa_cons pe_str (pa_cons pe_str (pa_cons pe_str (pa_cons pe_str (pa_cons pe_str (pa_cons pe_str (pa_cons pe_str (pa_cons pe_str pa_nil))))))))))))))) (pg_name (i := 0) sc_law_base_holds.nd rfl (.inl rfl))
        (pss_one (ps_if (pt_not (pt_val (pe_call G_law_is_number hr_law_is_number (by rfl) T.g_law_is_number T.F_law_is_number.kp T.b_law_is_number .nil pass0 (pa_cons (pe_call G_base_cycles hr_base_cycles (by rfl) T.g_base_cycles T.F_base_cycles.kp T.b_base_cycles .nil pass0 (pa_cons (pv 0) pa_nil)) (pa_cons pe_int pa_nil)))))
        (pss_one (ps_ret pe_bl))
        pss_nil)))
        (pss_cons (ps_for PassesOwn.never rfl (pi_list (pe_lst (pa_cons pe_str (pa_cons pe_str (pa_cons pe_str (pa_cons pe_str (pa_cons pe_str pa_nil))))))) (pg_name (i := 0) sc_law_base_holds.nd rfl (.inl rfl))
        (pss_one (ps_if (pt_not (pt_val (pe_call G_law_is_number hr_law_is_number (by rfl) T.g_law_is_number T.F_law_is_number.kp T.b_law_is_number .nil pass0 (pa_cons (pe_call G_base_cycles hr_base_cycles (by rfl) T.g_base_cycles T.F_base_cycles.kp T.b_base_cycles .nil pass0 (pa_cons (pv 0) pa_nil)) (pa_cons pe_int pa_nil)))))
        (pss_one (ps_ret pe_bl))
        pss_nil)))
        (pss_cons (ps_for PassesOwn.never rfl (pi_list (pe_lst (pa_cons pe_str (pa_cons pe_str (pa_cons pe_str (pa_cons pe_str (pa_cons pe_str pa_nil))))))) (pg_name (i := 0) sc_law_base_holds.nd rfl (.inl rfl))
        (pss_one (ps_if (pt_not (pt_val (pe_call G_law_is_number hr_law_is_number (by rfl) T.g_law_is_number T.F_law_is_number.kp T.b_law_is_number .nil pass0 (pa_cons (pe_call G_base_cycles hr_base_cycles (by rfl) T.g_base_cycles T.F_base_cycles.kp T.b_base_cycles .nil pass0 (pa_cons (pv 0) pa_nil)) (pa_cons pe_int pa_nil)))))
        (pss_one (ps_ret pe_bl))
        pss_nil)))
        (pss_one (ps_ret (pe_and (pe_call G_law_is_number hr_law_is_number (by rfl) T.g_law_is_number T.F_law_is_number.kp T.b_law_is_number .nil pass0 (pa_cons (pe_call G_base_cycles hr_base_cycles (by rfl) T.g_base_cycles T.F_base_cycles.kp T.b_base_cycles .nil pass0 (pa_cons pe_str pa_nil)) (pa_cons pe_int pa_nil))) (pe_one (pe_call G_law_is_number hr_law_is_number (by rfl) T.g_law_is_number T.F_law_is_number.kp T.b_law_is_number .nil pass0 (pa_cons (pe_call G_base_cycles hr_base_cycles (by rfl) T.g_base_cycles T.F_base_cycles.kp T.b_base_cycles .nil pass0 (pa_cons pe_str pa_nil)) (pa_cons pe_int pa_nil)))))))))), ?_⟩
    refine ⟨Nat.le_of_ble_eq_true rfl, fun r hr0 => ?_⟩
    have one : ∀ (z : Str) (l : List Str), z ∈ l → True := fun _ _ _ => trivial
    refine ⟨r, rfl, ⟨_, SqL.of upd_same⟩, for_list (K := K) (a := r) (xs := names13.map V.str) (fun i σ H2 => ∃ v, σ = [v] ∧ Same H H2 ∧ H2 r = some (.lst (names13.map V.str)))
      ⟨none, rfl, same_upd hr0, upd_same⟩ (fun i σ H2 _ ⟨_, _, _, h2⟩ => SqL.of h2) ?_ ?_⟩
    · rintro i y σ H2 hi ⟨v, rfl, s2, h2⟩
      rw [List.getElem?_map] at hi
      obtain ⟨z, hz, rfl⟩ := Option.map_eq_some_iff.mp hi
      refine ⟨_, rfl, z, 1, rfl, in13 z (List.mem_of_getElem? hz), ?_⟩
      refine ⟨1, rfl, ?_⟩
      (repeat (first | refine ⟨_, rfl, ?_⟩ | refine ⟨_, _, rfl, rfl, ?_⟩ | refine ⟨rfl, ?_⟩ | refine .inl ⟨_, rfl, ?_⟩ | refine .inr ⟨_, rfl, ?_⟩ | refine ⟨.inr ⟨by decide, by decide⟩, ?_⟩ | refine ⟨⟨by decide, by decide⟩, ?_⟩ | refine ⟨⟨by decide, by decide, by decide⟩, ?_⟩ | refine ⟨.inr ⟨by omega, by omega⟩, ?_⟩ | refine ⟨(by show (0 : Int) < _; first | decide | omega), ?_⟩ | refine ⟨Nat.le_trans (Nat.le_of_ble_eq_true rfl : _ ≤ 50) (by decide), ?_⟩ | refine ⟨_, _, _, _, rfl, rfl, upd_same, rfl, ?_⟩ | refine ⟨_, _, _, _, rfl, rfl, SqL.of upd_same, rfl, ?_⟩ | refine ⟨_, _, _, _, rfl, rfl, SqT.of upd_same, rfl, ?_⟩ | refine ⟨_, _, rfl, .inl (SqL.of upd_same), ?_⟩ | refine ⟨_, _, rfl, .inr (SqT.of upd_same), ?_⟩ | (refine' ⟨_, _, _, _, rfl, rfl, _, _, _⟩; rotate_left 2; (focus (first | assumption | exact SqL.of (by assumption) | exact SqT.of (by assumption) | exact Same.seq (by assumption) (by assumption))); (focus (exact rfl))) | (refine' ⟨_, _, rfl, _, _⟩; rotate_left 1; (focus (first | exact .inl (by assumption) | exact .inl (SqL.of (by assumption)) | exact .inr (by assumption) | exact .inr (SqT.of (by assumption)))))))
      exact ⟨s2, h2⟩
    · rintro σ H2 ⟨v, rfl, s2, h2⟩
      refine ⟨Nat.le_of_ble_eq_true rfl, fun r2 hr2 => ?_⟩
      refine ⟨r2, rfl, ⟨_, SqL.of upd_same⟩, for_list (K := K) (a := r2) (xs := names5.map V.str) (fun i σ H3 => ∃ v, σ = [v] ∧ Same H H3 ∧ H3 r2 = some (.lst (names5.map V.str)))
        ⟨_, rfl, s2.trans (same_upd hr2), upd_same⟩ (fun i σ H2 _ ⟨_, _, _, h2⟩ => SqL.of h2) ?_ ?_⟩
      · rintro i y σ H3 hi ⟨v, rfl, s3, h3⟩
        rw [List.getElem?_map] at hi
        obtain ⟨z, hz, rfl⟩ := Option.map_eq_some_iff.mp hi
        refine ⟨_, rfl, z, 1, rfl, in5 z (List.mem_of_getElem? hz), ?_⟩
        refine ⟨1, rfl, ?_⟩
        (repeat (first | refine ⟨_, rfl, ?_⟩ | refine ⟨_, _, rfl, rfl, ?_⟩ | refine ⟨rfl, ?_⟩ | refine .inl ⟨_, rfl, ?_⟩ | refine .inr ⟨_, rfl, ?_⟩ | refine ⟨.inr ⟨by decide, by decide⟩, ?_⟩ | refine ⟨⟨by decide, by decide⟩, ?_⟩ | refine ⟨⟨by decide, by decide, by decide⟩, ?_⟩ | refine ⟨.inr ⟨by omega, by omega⟩, ?_⟩ | refine ⟨(by show (0 : Int) < _; first | decide | omega), ?_⟩ | refine ⟨Nat.le_trans (Nat.le_of_ble_eq_true rfl : _ ≤ 50) (by decide), ?_⟩ | refine ⟨_, _, _, _, rfl, rfl, upd_same, rfl, ?_⟩ | refine ⟨_, _, _, _, rfl, rfl, SqL.of upd_same, rfl, ?_⟩ | refine ⟨_, _, _, _, rfl, rfl, SqT.of upd_same, rfl, ?_⟩ | refine ⟨_, _, rfl, .inl (SqL.of upd_same), ?_⟩ | refine ⟨_, _, rfl, .inr (SqT.of upd_same), ?_⟩ | (refine' ⟨_, _, _, _, rfl, rfl, _, _, _⟩; rotate_left 2; (focus (first | assumption | exact SqL.of (by assumption) | exact SqT.of (by assumption) | exact Same.seq (by assumption) (by assumption))); (focus (exact rfl))) | (refine' ⟨_, _, rfl, _, _⟩; rotate_left 1; (focus (first | exact .inl (by assumption) | exact .inl (SqL.of (by assumption)) | exact .inr (by assumption) | exact .inr (SqT.of (by assumption)))))))
        exact ⟨s3, h3⟩
      · rintro σ H3 ⟨v, rfl, s3, h3⟩
        refine ⟨Nat.le_of_ble_eq_true rfl, fun r3 hr3 => ?_⟩
        refine ⟨r3, rfl, ⟨_, SqL.of upd_same⟩, for_list (K := K) (a := r3) (xs := names5b.map V.str) (fun i σ H4 => ∃ v, σ = [v] ∧ Same H H4 ∧ H4 r3 = some (.lst (names5b.map V.str)))
          ⟨_, rfl, s3.trans (same_upd hr3), upd_same⟩ (fun i σ H2 _ ⟨_, _, _, h2⟩ => SqL.of h2) ?_ ?_⟩
        · rintro i y σ H4 hi ⟨v, rfl, s4, h4⟩
          rw [List.getElem?_map] at hi
          obtain ⟨z, hz, rfl⟩ := Option.map_eq_some_iff.mp hi
          refine ⟨_, rfl, z, 2, rfl, in5b z (List.mem_of_getElem? hz), ?_⟩
          refine ⟨2, rfl, ?_⟩
          (repeat (first | refine ⟨_, rfl, ?_⟩ | refine ⟨_, _, rfl, rfl, ?_⟩ | refine ⟨rfl, ?_⟩ | refine .inl ⟨_, rfl, ?_⟩ | refine .inr ⟨_, rfl, ?_⟩ | refine ⟨.inr ⟨by decide, by decide⟩, ?_⟩ | refine ⟨⟨by decide, by decide⟩, ?_⟩ | refine ⟨⟨by decide, by decide, by decide⟩, ?_⟩ | refine ⟨.inr ⟨by omega, by omega⟩, ?_⟩ | refine ⟨(by show (0 : Int) < _; first | decide | omega), ?_⟩ | refine ⟨Nat.le_trans (Nat.le_of_ble_eq_true rfl : _ ≤ 50) (by decide), ?_⟩ | refine ⟨_, _, _, _, rfl, rfl, upd_same, rfl, ?_⟩ | refine ⟨_, _, _, _, rfl, rfl, SqL.of upd_same, rfl, ?_⟩ | refine ⟨_, _, _, _, rfl, rfl, SqT.of upd_same, rfl, ?_⟩ | refine ⟨_, _, rfl, .inl (SqL.of upd_same), ?_⟩ | refine ⟨_, _, rfl, .inr (SqT.of upd_same), ?_⟩ | (refine' ⟨_, _, _, _, rfl, rfl, _, _, _⟩; rotate_left 2; (focus (first | assumption | exact SqL.of (by assumption) | exact SqT.of (by assumption) | exact Same.seq (by assumption) (by assumption))); (focus (exact rfl))) | (refine' ⟨_, _, rfl, _, _⟩; rotate_left 1; (focus (first | exact .inl (by assumption) | exact .inl (SqL.of (by assumption)) | exact .inr (by assumption) | exact .inr (SqT.of (by assumption)))))))
          exact ⟨s4, h4⟩
        · rintro σ H4 ⟨v, rfl, s4, h4⟩
          refine ⟨"mul", 4, rfl, by decide +kernel, 4, rfl, ?_⟩
          (repeat (first | refine ⟨_, rfl, ?_⟩ | refine ⟨_, _, rfl, rfl, ?_⟩ | refine ⟨rfl, ?_⟩ | refine .inl ⟨_, rfl, ?_⟩ | refine .inr ⟨_, rfl, ?_⟩ | refine ⟨.inr ⟨by decide, by decide⟩, ?_⟩ | refine ⟨⟨by decide, by decide⟩, ?_⟩ | refine ⟨⟨by decide, by decide, by decide⟩, ?_⟩ | refine ⟨.inr ⟨by omega, by omega⟩, ?_⟩ | refine ⟨(by show (0 : Int) < _; first | decide | omega), ?_⟩ | refine ⟨Nat.le_trans (Nat.le_of_ble_eq_true rfl : _ ≤ 50) (by decide), ?_⟩ | refine ⟨_, _, _, _, rfl, rfl, upd_same, rfl, ?_⟩ | refine ⟨_, _, _, _, rfl, rfl, SqL.of upd_same, rfl, ?_⟩ | refine ⟨_, _, _, _, rfl, rfl, SqT.of upd_same, rfl, ?_⟩ | refine ⟨_, _, rfl, .inl (SqL.of upd_same), ?_⟩ | refine ⟨_, _, rfl, .inr (SqT.of upd_same), ?_⟩ | (refine' ⟨_, _, _, _, rfl, rfl, _, _, _⟩; rotate_left 2; (focus (first | assumption | exact SqL.of (by assumption) | exact SqT.of (by assumption) | exact Same.seq (by assumption) (by assumption))); (focus (exact rfl))) | (refine' ⟨_, _, rfl, _, _⟩; rotate_left 1; (focus (first | exact .inl (by assumption) | exact .inl (SqL.of (by assumption)) | exact .inr (by assumption) | exact .inr (SqT.of (by assumption)))))))
          refine iteT ⟨"high", 4, rfl, by decide +kernel, 4, rfl, ?_⟩
          exact q _ s4
theorem ok_held (T : Tx w K mg) : FnOk P w K mg base CX0 1 T.a_law_held T.d_law_held ["addresses", "line"] spHeld := by
  refine T.F_law_held.ok sc_law_held (fun vs H Q E h => ?_) (fun cdv A outer s H vs Q E hr h => ?_)
  · obtain ⟨l, as, n, rfl, _⟩ := h
    rfl
  · obtain ⟨l, as, n, rfl, hl, hlen, q⟩ := h
    refine ⟨_, (pss_cons (ps_for PassesOwn.never rfl (pi_range1 rfl T.z_range (pa_cons (pe_callB call_len_seq (by rfl) T.z_len (by decide +kernel) (pa_cons (pv 0) pa_nil)) pa_nil)) (pg_name (i := 2) sc_law_held.nd rfl (.inl rfl))
        (pss_cons (ps_set (i := 3) sc_law_held.nd rfl (.inl rfl) (pe_op op_fdiv (pe_ix ix_list (pv 0) (pe_op op_sub (pe_op op_sub (pe_callB call_len_seq (by rfl) T.z_len (by decide +kernel) (pa_cons (pv 0) pa_nil)) pe_int) (pv 2)) (fun _ _ => rfl)) pe_int))
        (pss_one (ps_if (pt_cmpR op_eq (pe_op op_mod (pv 3) pe_int) (pv 1) (nomark _))
        (pss_one (ps_ret (pv 3)))
        pss_nil))))
        (pss_one (ps_ret (pe_un un_neg pe_int)))), ?_⟩
    (repeat (first | refine ⟨_, rfl, ?_⟩ | refine ⟨_, _, rfl, rfl, ?_⟩ | refine ⟨rfl, ?_⟩ | refine .inl ⟨_, rfl, ?_⟩ | refine .inr ⟨_, rfl, ?_⟩ | refine ⟨.inr ⟨by decide, by decide⟩, ?_⟩ | refine ⟨⟨by decide, by decide⟩, ?_⟩ | refine ⟨⟨by decide, by decide, by decide⟩, ?_⟩ | refine ⟨.inr ⟨by omega, by omega⟩, ?_⟩ | refine ⟨(by show (0 : Int) < _; first | decide | omega), ?_⟩ | refine ⟨Nat.le_trans (Nat.le_of_ble_eq_true rfl : _ ≤ 50) (by decide), ?_⟩ | refine ⟨_, _, _, _, rfl, rfl, upd_same, rfl, ?_⟩ | refine ⟨_, _, _, _, rfl, rfl, SqL.of upd_same, rfl, ?_⟩ | refine ⟨_, _, _, _, rfl, rfl, SqT.of upd_same, rfl, ?_⟩ | refine ⟨_, _, rfl, .inl (SqL.of upd_same), ?_⟩ | refine ⟨_, _, rfl, .inr (SqT.of upd_same), ?_⟩ | (refine' ⟨_, _, _, _, rfl, rfl, _, _, _⟩; rotate_left 2; (focus (first | assumption | exact SqL.of (by assumption) | exact SqT.of (by assumption) | exact Same.seq (by assumption) (by assumption))); (focus (exact rfl))) | (refine' ⟨_, _, rfl, _, _⟩; rotate_left 1; (focus (first | exact .inl (by assumption) | exact .inl (SqL.of (by assumption)) | exact .inr (by assumption) | exact .inr (SqT.of (by assumption)))))))
    rw [List.length_map]
    refine ⟨by omega, by omega, for_range (lo := 0) (n := as.length) (fun i σ H2 => ∃ v2 v3, σ = [some (.ref l), some (.int n), v2, v3] ∧ H2 = H ∧ held (as.take (as.length - i)) n = held as n) ⟨none, none, rfl, rfl, by rw [Nat.sub_zero, List.take_length]⟩ ?_ ?_⟩
    · rintro i σ H2 hi ⟨v2, v3, rfl, rfl, hh⟩
      (repeat (first | refine ⟨_, rfl, ?_⟩ | refine ⟨_, _, rfl, rfl, ?_⟩ | refine ⟨rfl, ?_⟩ | refine .inl ⟨_, rfl, ?_⟩ | refine .inr ⟨_, rfl, ?_⟩ | refine ⟨.inr ⟨by decide, by decide⟩, ?_⟩ | refine ⟨⟨by decide, by decide⟩, ?_⟩ | refine ⟨⟨by decide, by decide, by decide⟩, ?_⟩ | refine ⟨.inr ⟨by omega, by omega⟩, ?_⟩ | refine ⟨(by show (0 : Int) < _; first | decide | omega), ?_⟩ | refine ⟨Nat.le_trans (Nat.le_of_ble_eq_true rfl : _ ≤ 50) (by decide), ?_⟩ | refine ⟨_, _, _, _, rfl, rfl, upd_same, rfl, ?_⟩ | refine ⟨_, _, _, _, rfl, rfl, SqL.of upd_same, rfl, ?_⟩ | refine ⟨_, _, _, _, rfl, rfl, SqT.of upd_same, rfl, ?_⟩ | refine ⟨_, _, rfl, .inl (SqL.of upd_same), ?_⟩ | refine ⟨_, _, rfl, .inr (SqT.of upd_same), ?_⟩ | (refine' ⟨_, _, _, _, rfl, rfl, _, _, _⟩; rotate_left 2; (focus (first | assumption | exact SqL.of (by assumption) | exact SqT.of (by assumption) | exact Same.seq (by assumption) (by assumption))); (focus (exact rfl))) | (refine' ⟨_, _, rfl, _, _⟩; rotate_left 1; (focus (first | exact .inl (by assumption) | exact .inl (SqL.of (by assumption)) | exact .inr (by assumption) | exact .inr (SqT.of (by assumption)))))))
      rw [List.length_map]
      refine ⟨l, _, _, _, rfl, rfl, SqL.of hl, at_back hi, ?_⟩
      (repeat (first | refine ⟨_, rfl, ?_⟩ | refine ⟨_, _, rfl, rfl, ?_⟩ | refine ⟨rfl, ?_⟩ | refine .inl ⟨_, rfl, ?_⟩ | refine .inr ⟨_, rfl, ?_⟩ | refine ⟨.inr ⟨by decide, by decide⟩, ?_⟩ | refine ⟨⟨by decide, by decide⟩, ?_⟩ | refine ⟨⟨by decide, by decide, by decide⟩, ?_⟩ | refine ⟨.inr ⟨by omega, by omega⟩, ?_⟩ | refine ⟨(by show (0 : Int) < _; first | decide | omega), ?_⟩ | refine ⟨Nat.le_trans (Nat.le_of_ble_eq_true rfl : _ ≤ 50) (by decide), ?_⟩ | refine ⟨_, _, _, _, rfl, rfl, upd_same, rfl, ?_⟩ | refine ⟨_, _, _, _, rfl, rfl, SqL.of upd_same, rfl, ?_⟩ | refine ⟨_, _, _, _, rfl, rfl, SqT.of upd_same, rfl, ?_⟩ | refine ⟨_, _, rfl, .inl (SqL.of upd_same), ?_⟩ | refine ⟨_, _, rfl, .inr (SqT.of upd_same), ?_⟩ | (refine' ⟨_, _, _, _, rfl, rfl, _, _, _⟩; rotate_left 2; (focus (first | assumption | exact SqL.of (by assumption) | exact SqT.of (by assumption) | exact Same.seq (by assumption) (by assumption))); (focus (exact rfl))) | (refine' ⟨_, _, rfl, _, _⟩; rotate_left 1; (focus (first | exact .inl (by assumption) | exact .inl (SqL.of (by assumption)) | exact .inr (by assumption) | exact .inr (SqT.of (by assumption)))))))
      have e1 : as.take (as.length - i) = as.take (as.length - (i + 1)) ++ [as[as.length - 1 - i]'(by omega)] := by
        have e2 : as.length - i = (as.length - (i + 1)) + 1 := by omega
        rw [e2, List.take_add_one, List.getElem?_eq_getElem (by omega)]
        have e3 : as.length - (i + 1) = as.length - 1 - i := by omega
        simp only [e3]
        rfl
      rw [e1, held_app] at hh
      refine ite2 (fun e => ?_) (fun e => ?_)
      · have e4 : as[as.length - 1 - i]'(by omega) / 4 % 8 = n := by
          have := of_decide_eq_true e
          injection this
        rw [if_pos e4] at hh
        refine ⟨_, rfl, ?_⟩
        show Q (V.int (as[as.length - 1 - i]'(by omega) / 4)) H2
        rw [hh]
        exact q
      · have e4 : ¬ as[as.length - 1 - i]'(by omega) / 4 % 8 = n := fun z => e (decide_eq_true (congrArg V.int z))
        rw [if_neg e4] at hh
        exact ⟨_, _, rfl, rfl, hh⟩
    · rintro σ H2 ⟨v2, v3, rfl, rfl, hh⟩
      rw [Nat.sub_self, List.take_zero] at hh
      (repeat (first | refine ⟨_, rfl, ?_⟩ | refine ⟨_, _, rfl, rfl, ?_⟩ | refine ⟨rfl, ?_⟩ | refine .inl ⟨_, rfl, ?_⟩ | refine .inr ⟨_, rfl, ?_⟩ | refine ⟨.inr ⟨by decide, by decide⟩, ?_⟩ | refine ⟨⟨by decide, by decide⟩, ?_⟩ | refine ⟨⟨by decide, by decide, by decide⟩, ?_⟩ | refine ⟨.inr ⟨by omega, by omega⟩, ?_⟩ | refine ⟨(by show (0 : Int) < _; first | decide | omega), ?_⟩ | refine ⟨Nat.le_trans (Nat.le_of_ble_eq_true rfl : _ ≤ 50) (by decide), ?_⟩ | refine ⟨_, _, _, _, rfl, rfl, upd_same, rfl, ?_⟩ | refine ⟨_, _, _, _, rfl, rfl, SqL.of upd_same, rfl, ?_⟩ | refine ⟨_, _, _, _, rfl, rfl, SqT.of upd_same, rfl, ?_⟩ | refine ⟨_, _, rfl, .inl (SqL.of upd_same), ?_⟩ | refine ⟨_, _, rfl, .inr (SqT.of upd_same), ?_⟩ | (refine' ⟨_, _, _, _, rfl, rfl, _, _, _⟩; rotate_left 2; (focus (first | assumption | exact SqL.of (by assumption) | exact SqT.of (by assumption) | exact Same.seq (by assumption) (by assumption))); (focus (exact rfl))) | (refine' ⟨_, _, rfl, _, _⟩; rotate_left 1; (focus (first | exact .inl (by assumption) | exact .inl (SqL.of (by assumption)) | exact .inr (by assumption) | exact .inr (SqT.of (by assumption)))))))
      rw [← hh] at q
      exact q
theorem ok_count (T : Tx w K mg) : FnOk P w K mg base CX0 1 T.a_law_count T.d_law_count ["jumps", "number"] spCount := by
  refine T.F_law_count.ok sc_law_count (fun vs H Q E h => ?_) (fun cdv A outer s H vs Q E hr h => ?_)
  · obtain ⟨l, ts, n, rfl, _⟩ := h
    rfl
  · obtain ⟨l, ts, n, rfl, hl, hL, hlen, q⟩ := h
    refine ⟨_, (pss_cons (ps_set (i := 2) sc_law_count.nd rfl (.inl rfl) pe_int)
        (pss_cons (ps_for PassesOwn.never rfl (pi_list (pv 0)) (pg_tup rfl (pgs_cons (pg_name (i := 3) sc_law_count.nd rfl (.inl rfl)) (pgs_cons (pg_name (i := 4) sc_law_count.nd rfl (.inl rfl)) pgs_nil)))
        (pss_one (ps_if (PW.pt (pw_and (pt_cmpR op_eq (pe_op op_mod (pv 3) pe_int) (pv 1) (nomark _)) (pw_and1 (pt_val (pv 4)))))
        (pss_one (ps_set (i := 2) sc_law_count.nd rfl (.inl rfl) (pe_callB (call_min2 rfl) (by rfl) T.z_min (by decide +kernel) (pa_cons pe_int (pa_cons (pe_op op_add (pv 2) pe_int) pa_nil)))))
        (pss_one (ps_if (pt_cmpR op_eq (pe_op op_mod (pv 3) pe_int) (pv 1) (nomark _))
        (pss_one (ps_set (i := 2) sc_law_count.nd rfl (.inl rfl) (pe_callB (call_max2 rfl) (by rfl) T.z_max (by decide +kernel) (pa_cons pe_int (pa_cons (pe_op op_sub (pv 2) pe_int) pa_nil)))))
        pss_nil)))))
        (pss_one (ps_ret (pv 2))))), ?_⟩
    refine ⟨_, rfl, l, rfl, ⟨_, SqL.of hl⟩, for_list (K := K) (a := l) (xs := rfs ts) (fun i σ H2 => ∃ v3 v4, σ = [some (.ref l), some (.int n), some (.int (count (jss (ts.take i)) n)), v3, v4] ∧ H2 = H)
      ⟨none, none, rfl, rfl⟩ (fun i σ H2 _ ⟨_, _, _, h2⟩ => by rw [h2]; exact SqL.of hl) ?_ ?_⟩
    · rintro i y σ H2 hi ⟨v3, v4, rfl, rfl⟩
      rw [List.getElem?_map] at hi
      obtain ⟨t, ht, rfl⟩ := Option.map_eq_some_iff.mp hi
      have hilt : i < ts.length := (List.getElem?_eq_some_iff.mp ht).1
      have htup := hL t (List.mem_of_getElem? ht)
      have e1 : count (jss (ts.take (i + 1))) n = step1 n (count (jss (ts.take i)) n) t.2 := by
        rw [List.take_add_one, ht]
        unfold jss
        rw [List.map_append]
        exact count_app _ _ _
      rw [e1]
      unfold step1
      generalize count (jss (ts.take i)) n = c
      refine ⟨t.1, _, rfl, SqT.of htup, rfl, ?_⟩
      (repeat (first | refine ⟨_, rfl, ?_⟩ | refine ⟨_, _, rfl, rfl, ?_⟩ | refine ⟨rfl, ?_⟩ | refine .inl ⟨_, rfl, ?_⟩ | refine .inr ⟨_, rfl, ?_⟩ | refine ⟨.inr ⟨by decide, by decide⟩, ?_⟩ | refine ⟨⟨by decide, by decide⟩, ?_⟩ | refine ⟨⟨by decide, by decide, by decide⟩, ?_⟩ | refine ⟨.inr ⟨by omega, by omega⟩, ?_⟩ | refine ⟨(by show (0 : Int) < _; first | decide | omega), ?_⟩ | refine ⟨Nat.le_trans (Nat.le_of_ble_eq_true rfl : _ ≤ 50) (by decide), ?_⟩ | refine ⟨_, _, _, _, rfl, rfl, upd_same, rfl, ?_⟩ | refine ⟨_, _, _, _, rfl, rfl, SqL.of upd_same, rfl, ?_⟩ | refine ⟨_, _, _, _, rfl, rfl, SqT.of upd_same, rfl, ?_⟩ | refine ⟨_, _, rfl, .inl (SqL.of upd_same), ?_⟩ | refine ⟨_, _, rfl, .inr (SqT.of upd_same), ?_⟩ | (refine' ⟨_, _, _, _, rfl, rfl, _, _, _⟩; rotate_left 2; (focus (first | assumption | exact SqL.of (by assumption) | exact SqT.of (by assumption) | exact Same.seq (by assumption) (by assumption))); (focus (exact rfl))) | (refine' ⟨_, _, rfl, _, _⟩; rotate_left 1; (focus (first | exact .inl (by assumption) | exact .inl (SqL.of (by assumption)) | exact .inr (by assumption) | exact .inr (SqT.of (by assumption)))))))
      refine ⟨_, _, rfl, _, _, rfl, rfl, ?_⟩
      (repeat (first | refine ⟨_, rfl, ?_⟩ | refine ⟨_, _, rfl, rfl, ?_⟩ | refine ⟨rfl, ?_⟩ | refine .inl ⟨_, rfl, ?_⟩ | refine .inr ⟨_, rfl, ?_⟩ | refine ⟨.inr ⟨by decide, by decide⟩, ?_⟩ | refine ⟨⟨by decide, by decide⟩, ?_⟩ | refine ⟨⟨by decide, by decide, by decide⟩, ?_⟩ | refine ⟨.inr ⟨by omega, by omega⟩, ?_⟩ | refine ⟨(by show (0 : Int) < _; first | decide | omega), ?_⟩ | refine ⟨Nat.le_trans (Nat.le_of_ble_eq_true rfl : _ ≤ 50) (by decide), ?_⟩ | refine ⟨_, _, _, _, rfl, rfl, upd_same, rfl, ?_⟩ | refine ⟨_, _, _, _, rfl, rfl, SqL.of upd_same, rfl, ?_⟩ | refine ⟨_, _, _, _, rfl, rfl, SqT.of upd_same, rfl, ?_⟩ | refine ⟨_, _, rfl, .inl (SqL.of upd_same), ?_⟩ | refine ⟨_, _, rfl, .inr (SqT.of upd_same), ?_⟩ | (refine' ⟨_, _, _, _, rfl, rfl, _, _, _⟩; rotate_left 2; (focus (first | assumption | exact SqL.of (by assumption) | exact SqT.of (by assumption) | exact Same.seq (by assumption) (by assumption))); (focus (exact rfl))) | (refine' ⟨_, _, rfl, _, _⟩; rotate_left 1; (focus (first | exact .inl (by assumption) | exact .inl (SqL.of (by assumption)) | exact .inr (by assumption) | exact .inr (SqT.of (by assumption)))))))
      obtain ⟨ta, tp, tb⟩ := t
      dsimp only
      by_cases e : tp % 16 = n
      · have e0 : V.int (tp % 16) = V.int n := congrArg V.int e
        refine ite2 (fun _ => ?_) (fun z => absurd (decide_eq_true e0) z)
        rw [if_pos e]
        refine ⟨_, rfl, _, rfl, ?_⟩
        cases tb with
        | true =>
          refine iteT ?_
          (repeat (first | refine ⟨_, rfl, ?_⟩ | refine ⟨_, _, rfl, rfl, ?_⟩ | refine ⟨rfl, ?_⟩ | refine .inl ⟨_, rfl, ?_⟩ | refine .inr ⟨_, rfl, ?_⟩ | refine ⟨.inr ⟨by decide, by decide⟩, ?_⟩ | refine ⟨⟨by decide, by decide⟩, ?_⟩ | refine ⟨⟨by decide, by decide, by decide⟩, ?_⟩ | refine ⟨.inr ⟨by omega, by omega⟩, ?_⟩ | refine ⟨(by show (0 : Int) < _; first | decide | omega), ?_⟩ | refine ⟨Nat.le_trans (Nat.le_of_ble_eq_true rfl : _ ≤ 50) (by decide), ?_⟩ | refine ⟨_, _, _, _, rfl, rfl, upd_same, rfl, ?_⟩ | refine ⟨_, _, _, _, rfl, rfl, SqL.of upd_same, rfl, ?_⟩ | refine ⟨_, _, _, _, rfl, rfl, SqT.of upd_same, rfl, ?_⟩ | refine ⟨_, _, rfl, .inl (SqL.of upd_same), ?_⟩ | refine ⟨_, _, rfl, .inr (SqT.of upd_same), ?_⟩ | (refine' ⟨_, _, _, _, rfl, rfl, _, _, _⟩; rotate_left 2; (focus (first | assumption | exact SqL.of (by assumption) | exact SqT.of (by assumption) | exact Same.seq (by assumption) (by assumption))); (focus (exact rfl))) | (refine' ⟨_, _, rfl, _, _⟩; rotate_left 1; (focus (first | exact .inl (by assumption) | exact .inl (SqL.of (by assumption)) | exact .inr (by assumption) | exact .inr (SqT.of (by assumption)))))))
          exact ⟨_, _, rfl, _, _, rfl, rfl⟩
        | false =>
          refine iteF ?_
          (repeat (first | refine ⟨_, rfl, ?_⟩ | refine ⟨_, _, rfl, rfl, ?_⟩ | refine ⟨rfl, ?_⟩ | refine .inl ⟨_, rfl, ?_⟩ | refine .inr ⟨_, rfl, ?_⟩ | refine ⟨.inr ⟨by decide, by decide⟩, ?_⟩ | refine ⟨⟨by decide, by decide⟩, ?_⟩ | refine ⟨⟨by decide, by decide, by decide⟩, ?_⟩ | refine ⟨.inr ⟨by omega, by omega⟩, ?_⟩ | refine ⟨(by show (0 : Int) < _; first | decide | omega), ?_⟩ | refine ⟨Nat.le_trans (Nat.le_of_ble_eq_true rfl : _ ≤ 50) (by decide), ?_⟩ | refine ⟨_, _, _, _, rfl, rfl, upd_same, rfl, ?_⟩ | refine ⟨_, _, _, _, rfl, rfl, SqL.of upd_same, rfl, ?_⟩ | refine ⟨_, _, _, _, rfl, rfl, SqT.of upd_same, rfl, ?_⟩ | refine ⟨_, _, rfl, .inl (SqL.of upd_same), ?_⟩ | refine ⟨_, _, rfl, .inr (SqT.of upd_same), ?_⟩ | (refine' ⟨_, _, _, _, rfl, rfl, _, _, _⟩; rotate_left 2; (focus (first | assumption | exact SqL.of (by assumption) | exact SqT.of (by assumption) | exact Same.seq (by assumption) (by assumption))); (focus (exact rfl))) | (refine' ⟨_, _, rfl, _, _⟩; rotate_left 1; (focus (first | exact .inl (by assumption) | exact .inl (SqL.of (by assumption)) | exact .inr (by assumption) | exact .inr (SqT.of (by assumption)))))))
          refine ite2 (fun _ => ?_) (fun z => absurd (decide_eq_true e0) z)
          (repeat (first | refine ⟨_, rfl, ?_⟩ | refine ⟨_, _, rfl, rfl, ?_⟩ | refine ⟨rfl, ?_⟩ | refine .inl ⟨_, rfl, ?_⟩ | refine .inr ⟨_, rfl, ?_⟩ | refine ⟨.inr ⟨by decide, by decide⟩, ?_⟩ | refine ⟨⟨by decide, by decide⟩, ?_⟩ | refine ⟨⟨by decide, by decide, by decide⟩, ?_⟩ | refine ⟨.inr ⟨by omega, by omega⟩, ?_⟩ | refine ⟨(by show (0 : Int) < _; first | decide | omega), ?_⟩ | refine ⟨Nat.le_trans (Nat.le_of_ble_eq_true rfl : _ ≤ 50) (by decide), ?_⟩ | refine ⟨_, _, _, _, rfl, rfl, upd_same, rfl, ?_⟩ | refine ⟨_, _, _, _, rfl, rfl, SqL.of upd_same, rfl, ?_⟩ | refine ⟨_, _, _, _, rfl, rfl, SqT.of upd_same, rfl, ?_⟩ | refine ⟨_, _, rfl, .inl (SqL.of upd_same), ?_⟩ | refine ⟨_, _, rfl, .inr (SqT.of upd_same), ?_⟩ | (refine' ⟨_, _, _, _, rfl, rfl, _, _, _⟩; rotate_left 2; (focus (first | assumption | exact SqL.of (by assumption) | exact SqT.of (by assumption) | exact Same.seq (by assumption) (by assumption))); (focus (exact rfl))) | (refine' ⟨_, _, rfl, _, _⟩; rotate_left 1; (focus (first | exact .inl (by assumption) | exact .inl (SqL.of (by assumption)) | exact .inr (by assumption) | exact .inr (SqT.of (by assumption)))))))
          have e3 : (if c - 1 > 0 then c - 1 else 0) = (if c - 1 < 0 then 0 else c - 1) := by split <;> split <;> omega
          refine ⟨_, _, rfl, some (.int tp), some (.bl false), ?_, rfl⟩
          rw [if_neg Bool.false_ne_true, ← e3]
          rfl
      · have e0 : ¬ V.int (tp % 16) = V.int n := fun z => e (by injection z)
        refine ite2 (fun z => absurd (of_decide_eq_true z) e0) (fun _ => ?_)
        rw [if_neg e]
        refine iteF ?_
        (repeat (first | refine ⟨_, rfl, ?_⟩ | refine ⟨_, _, rfl, rfl, ?_⟩ | refine ⟨rfl, ?_⟩ | refine .inl ⟨_, rfl, ?_⟩ | refine .inr ⟨_, rfl, ?_⟩ | refine ⟨.inr ⟨by decide, by decide⟩, ?_⟩ | refine ⟨⟨by decide, by decide⟩, ?_⟩ | refine ⟨⟨by decide, by decide, by decide⟩, ?_⟩ | refine ⟨.inr ⟨by omega, by omega⟩, ?_⟩ | refine ⟨(by show (0 : Int) < _; first | decide | omega), ?_⟩ | refine ⟨Nat.le_trans (Nat.le_of_ble_eq_true rfl : _ ≤ 50) (by decide), ?_⟩ | refine ⟨_, _, _, _, rfl, rfl, upd_same, rfl, ?_⟩ | refine ⟨_, _, _, _, rfl, rfl, SqL.of upd_same, rfl, ?_⟩ | refine ⟨_, _, _, _, rfl, rfl, SqT.of upd_same, rfl, ?_⟩ | refine ⟨_, _, rfl, .inl (SqL.of upd_same), ?_⟩ | refine ⟨_, _, rfl, .inr (SqT.of upd_same), ?_⟩ | (refine' ⟨_, _, _, _, rfl, rfl, _, _, _⟩; rotate_left 2; (focus (first | assumption | exact SqL.of (by assumption) | exact SqT.of (by assumption) | exact Same.seq (by assumption) (by assumption))); (focus (exact rfl))) | (refine' ⟨_, _, rfl, _, _⟩; rotate_left 1; (focus (first | exact .inl (by assumption) | exact .inl (SqL.of (by assumption)) | exact .inr (by assumption) | exact .inr (SqT.of (by assumption)))))))
        refine ite2 (fun z => absurd (of_decide_eq_true z) e0) (fun _ => ?_)
        exact ⟨_, _, rfl, rfl⟩
    · rintro σ H2 ⟨v3, v4, rfl, rfl⟩
      have e2 : (rfs ts).length = ts.length := by simp
      rw [e2, List.take_length]
      exact ⟨_, rfl, q⟩
def spAccHolds (C : Addr) : Sp := fun vs H Q _ => ∃ (x dx b l : Addr) (as : List Int) (a : Int), vs = [.ref x, .ref l, .int a] ∧ H x = some (.ins C dx [("blocks", .ref b)]) ∧ H b = some (.lst ((blocks as).map V.int)) ∧ H l = some (.lst (as.map V.int)) ∧ as.length ≤ 1000 ∧ 0 ≤ a ∧
  ∀ H', Keep H H' b → H' b = some (.lst ((blocks (as ++ [a])).map V.int)) → Q (.bl true) H'
def spBrHolds (C : Addr) : Sp := fun vs H Q _ => ∃ (x dx b l : Addr) (ts : List (Addr × Int × Bool)) (p : Int) (j : Bool), vs = [.ref x, .ref l, .int p, .bl j] ∧ H x = some (.ins C dx [("marks", .ref b)]) ∧ H b = some (.lst ((marks (jss ts)).map V.int)) ∧ H l = some (.lst (rfs ts)) ∧ Laid H ts ∧ ts.length ≤ 1000 ∧ 0 ≤ p ∧
  ∀ H', Keep H H' b → H' b = some (.lst ((marks (jss ts ++ [(p, j)])).map V.int)) → Q (.bl true) H'
def spStHolds (C1 C2 : Addr) : Sp := fun vs H Q _ => ∃ (x dx b l y dy m k : Addr) (as : List Int) (ts : List (Addr × Int × Bool)), vs = [.ref x, .ref l, .ref y, .ref k] ∧ H x = some (.ins C1 dx [("blocks", .ref b)]) ∧ H b = some (.lst ((blocks as).map V.int)) ∧ H l = some (.lst (as.map V.int)) ∧ as.length ≤ 1000 ∧
  H y = some (.ins C2 dy [("marks", .ref m)]) ∧ H m = some (.lst ((marks (jss ts)).map V.int)) ∧ H k = some (.lst (rfs ts)) ∧ Laid H ts ∧ ts.length ≤ 1000 ∧ ∀ H', Same H H' → Q (.bl true) H'
theorem ok_accholds (T : Tx w K mg) : FnOk P w K mg base CX0 2 T.a_law_access_holds T.d_law_access_holds ["cache", "addresses", "address"] (spAccHolds T.c_Cache) := by
  have G_law_is_number : FnOk P w K mg base CX0 1 T.a_law_is_number T.d_law_is_number ["value", "due"] spNum := ok_num T
  have G_law_held : FnOk P w K mg base CX0 1 T.a_law_held T.d_law_held ["addresses", "line"] spHeld := ok_held T
  have G_Cache_access : FnOk P w K mg base CX0 1 T.a_Cache_access T.d_Cache_access ["self", "address"] (spAccess T.c_Cache) := ok_access T
  refine T.F_law_access_holds.ok sc_law_access_holds (fun vs H Q E h => ?_) (fun cdv A outer s H vs Q E hr h => ?_)
  · obtain ⟨x, dx, b, l, as, a, rfl, _⟩ := h
    rfl
  · obtain ⟨x, dx, b, l, as, a, rfl, hx, hb, hl, hlen, ha, q⟩ := h
    have hr_law_is_number : Room 1 _ := hr
    have hr_law_held : Room 1 _ := hr
    have hr_Cache_access : Room 1 _ := hr
    refine ⟨_, (pss_cons (ps_set (i := 3) sc_law_access_holds.nd rfl (.inl rfl) pe_int)
        (pss_cons (ps_if (pt_cmpR op_eq (pe_call G_law_held hr_law_held (by rfl) T.g_law_held T.F_law_held.kp T.b_law_held .nil pass0 (pa_cons (pv 1) (pa_cons (pe_op op_mod (pe_op op_fdiv (pv 2) pe_int) pe_int) pa_nil))) (pe_op op_fdiv (pv 2) pe_int) (nomark _))
        (pss_one (ps_set (i := 3) sc_law_access_holds.nd rfl (.inl rfl) pe_int))
        pss_nil)
        (pss_one (ps_ret (pe_call G_law_is_number hr_law_is_number (by rfl) T.g_law_is_number T.F_law_is_number.kp T.b_law_is_number .nil pass0 (pa_cons (pe_meth (pv 0) T.cl_Cache T.m_Cache_access G_Cache_access hr_Cache_access T.b_Cache_access .nil pass0 (pa_cons (pv 2) pa_nil)) (pa_cons (pv 3) pa_nil))))))), ?_⟩
    (repeat (first | refine ⟨_, rfl, ?_⟩ | refine ⟨_, _, rfl, rfl, ?_⟩ | refine ⟨rfl, ?_⟩ | refine .inl ⟨_, rfl, ?_⟩ | refine .inr ⟨_, rfl, ?_⟩ | refine ⟨.inr ⟨by decide, by decide⟩, ?_⟩ | refine ⟨⟨by decide, by decide⟩, ?_⟩ | refine ⟨⟨by decide, by decide, by decide⟩, ?_⟩ | refine ⟨.inr ⟨by omega, by omega⟩, ?_⟩ | refine ⟨(by show (0 : Int) < _; first | decide | omega), ?_⟩ | refine ⟨Nat.le_trans (Nat.le_of_ble_eq_true rfl : _ ≤ 50) (by decide), ?_⟩ | refine ⟨_, _, _, _, rfl, rfl, upd_same, rfl, ?_⟩ | refine ⟨_, _, _, _, rfl, rfl, SqL.of upd_same, rfl, ?_⟩ | refine ⟨_, _, _, _, rfl, rfl, SqT.of upd_same, rfl, ?_⟩ | refine ⟨_, _, rfl, .inl (SqL.of upd_same), ?_⟩ | refine ⟨_, _, rfl, .inr (SqT.of upd_same), ?_⟩ | (refine' ⟨_, _, _, _, rfl, rfl, _, _, _⟩; rotate_left 2; (focus (first | assumption | exact SqL.of (by assumption) | exact SqT.of (by assumption) | exact Same.seq (by assumption) (by assumption))); (focus (exact rfl))) | (refine' ⟨_, _, rfl, _, _⟩; rotate_left 1; (focus (first | exact .inl (by assumption) | exact .inl (SqL.of (by assumption)) | exact .inr (by assumption) | exact .inr (SqT.of (by assumption)))))))
    refine ⟨l, as, a / 4 % 8, rfl, hl, hlen, ?_⟩
    (repeat (first | refine ⟨_, rfl, ?_⟩ | refine ⟨_, _, rfl, rfl, ?_⟩ | refine ⟨rfl, ?_⟩ | refine .inl ⟨_, rfl, ?_⟩ | refine .inr ⟨_, rfl, ?_⟩ | refine ⟨.inr ⟨by decide, by decide⟩, ?_⟩ | refine ⟨⟨by decide, by decide⟩, ?_⟩ | refine ⟨⟨by decide, by decide, by decide⟩, ?_⟩ | refine ⟨.inr ⟨by omega, by omega⟩, ?_⟩ | refine ⟨(by show (0 : Int) < _; first | decide | omega), ?_⟩ | refine ⟨Nat.le_trans (Nat.le_of_ble_eq_true rfl : _ ≤ 50) (by decide), ?_⟩ | refine ⟨_, _, _, _, rfl, rfl, upd_same, rfl, ?_⟩ | refine ⟨_, _, _, _, rfl, rfl, SqL.of upd_same, rfl, ?_⟩ | refine ⟨_, _, _, _, rfl, rfl, SqT.of upd_same, rfl, ?_⟩ | refine ⟨_, _, rfl, .inl (SqL.of upd_same), ?_⟩ | refine ⟨_, _, rfl, .inr (SqT.of upd_same), ?_⟩ | (refine' ⟨_, _, _, _, rfl, rfl, _, _, _⟩; rotate_left 2; (focus (first | assumption | exact SqL.of (by assumption) | exact SqT.of (by assumption) | exact Same.seq (by assumption) (by assumption))); (focus (exact rfl))) | (refine' ⟨_, _, rfl, _, _⟩; rotate_left 1; (focus (first | exact .inl (by assumption) | exact .inl (SqL.of (by assumption)) | exact .inr (by assumption) | exact .inr (SqT.of (by assumption)))))))
    refine ite2 (fun e => ?_) (fun e => ?_)
    · have e1 : held as (a / 4 % 8) = a / 4 := by
        have := of_decide_eq_true e
        injection this
      (repeat (first | refine ⟨_, rfl, ?_⟩ | refine ⟨_, _, rfl, rfl, ?_⟩ | refine ⟨rfl, ?_⟩ | refine .inl ⟨_, rfl, ?_⟩ | refine .inr ⟨_, rfl, ?_⟩ | refine ⟨.inr ⟨by decide, by decide⟩, ?_⟩ | refine ⟨⟨by decide, by decide⟩, ?_⟩ | refine ⟨⟨by decide, by decide, by decide⟩, ?_⟩ | refine ⟨.inr ⟨by omega, by omega⟩, ?_⟩ | refine ⟨(by show (0 : Int) < _; first | decide | omega), ?_⟩ | refine ⟨Nat.le_trans (Nat.le_of_ble_eq_true rfl : _ ≤ 50) (by decide), ?_⟩ | refine ⟨_, _, _, _, rfl, rfl, upd_same, rfl, ?_⟩ | refine ⟨_, _, _, _, rfl, rfl, SqL.of upd_same, rfl, ?_⟩ | refine ⟨_, _, _, _, rfl, rfl, SqT.of upd_same, rfl, ?_⟩ | refine ⟨_, _, rfl, .inl (SqL.of upd_same), ?_⟩ | refine ⟨_, _, rfl, .inr (SqT.of upd_same), ?_⟩ | (refine' ⟨_, _, _, _, rfl, rfl, _, _, _⟩; rotate_left 2; (focus (first | assumption | exact SqL.of (by assumption) | exact SqT.of (by assumption) | exact Same.seq (by assumption) (by assumption))); (focus (exact rfl))) | (refine' ⟨_, _, rfl, _, _⟩; rotate_left 1; (focus (first | exact .inl (by assumption) | exact .inl (SqL.of (by assumption)) | exact .inr (by assumption) | exact .inr (SqT.of (by assumption)))))))
      refine ⟨x, dx, _, rfl, hx, rfl, _, rfl, x, dx, b, as, a, rfl, hx, hb, ha, fun H' k1 hb' => ?_⟩
      rw [if_pos e1]
      (repeat (first | refine ⟨_, rfl, ?_⟩ | refine ⟨_, _, rfl, rfl, ?_⟩ | refine ⟨rfl, ?_⟩ | refine .inl ⟨_, rfl, ?_⟩ | refine .inr ⟨_, rfl, ?_⟩ | refine ⟨.inr ⟨by decide, by decide⟩, ?_⟩ | refine ⟨⟨by decide, by decide⟩, ?_⟩ | refine ⟨⟨by decide, by decide, by decide⟩, ?_⟩ | refine ⟨.inr ⟨by omega, by omega⟩, ?_⟩ | refine ⟨(by show (0 : Int) < _; first | decide | omega), ?_⟩ | refine ⟨Nat.le_trans (Nat.le_of_ble_eq_true rfl : _ ≤ 50) (by decide), ?_⟩ | refine ⟨_, _, _, _, rfl, rfl, upd_same, rfl, ?_⟩ | refine ⟨_, _, _, _, rfl, rfl, SqL.of upd_same, rfl, ?_⟩ | refine ⟨_, _, _, _, rfl, rfl, SqT.of upd_same, rfl, ?_⟩ | refine ⟨_, _, rfl, .inl (SqL.of upd_same), ?_⟩ | refine ⟨_, _, rfl, .inr (SqT.of upd_same), ?_⟩ | (refine' ⟨_, _, _, _, rfl, rfl, _, _, _⟩; rotate_left 2; (focus (first | assumption | exact SqL.of (by assumption) | exact SqT.of (by assumption) | exact Same.seq (by assumption) (by assumption))); (focus (exact rfl))) | (refine' ⟨_, _, rfl, _, _⟩; rotate_left 1; (focus (first | exact .inl (by assumption) | exact .inl (SqL.of (by assumption)) | exact .inr (by assumption) | exact .inr (SqT.of (by assumption)))))))
      exact q H' k1 hb'
    · have e1 : ¬ held as (a / 4 % 8) = a / 4 := fun z => e (decide_eq_true (congrArg V.int z))
      (repeat (first | refine ⟨_, rfl, ?_⟩ | refine ⟨_, _, rfl, rfl, ?_⟩ | refine ⟨rfl, ?_⟩ | refine .inl ⟨_, rfl, ?_⟩ | refine .inr ⟨_, rfl, ?_⟩ | refine ⟨.inr ⟨by decide, by decide⟩, ?_⟩ | refine ⟨⟨by decide, by decide⟩, ?_⟩ | refine ⟨⟨by decide, by decide, by decide⟩, ?_⟩ | refine ⟨.inr ⟨by omega, by omega⟩, ?_⟩ | refine ⟨(by show (0 : Int) < _; first | decide | omega), ?_⟩ | refine ⟨Nat.le_trans (Nat.le_of_ble_eq_true rfl : _ ≤ 50) (by decide), ?_⟩ | refine ⟨_, _, _, _, rfl, rfl, upd_same, rfl, ?_⟩ | refine ⟨_, _, _, _, rfl, rfl, SqL.of upd_same, rfl, ?_⟩ | refine ⟨_, _, _, _, rfl, rfl, SqT.of upd_same, rfl, ?_⟩ | refine ⟨_, _, rfl, .inl (SqL.of upd_same), ?_⟩ | refine ⟨_, _, rfl, .inr (SqT.of upd_same), ?_⟩ | (refine' ⟨_, _, _, _, rfl, rfl, _, _, _⟩; rotate_left 2; (focus (first | assumption | exact SqL.of (by assumption) | exact SqT.of (by assumption) | exact Same.seq (by assumption) (by assumption))); (focus (exact rfl))) | (refine' ⟨_, _, rfl, _, _⟩; rotate_left 1; (focus (first | exact .inl (by assumption) | exact .inl (SqL.of (by assumption)) | exact .inr (by assumption) | exact .inr (SqT.of (by assumption)))))))
      refine ⟨x, dx, _, rfl, hx, rfl, _, rfl, x, dx, b, as, a, rfl, hx, hb, ha, fun H' k1 hb' => ?_⟩
      rw [if_neg e1]
      (repeat (first | refine ⟨_, rfl, ?_⟩ | refine ⟨_, _, rfl, rfl, ?_⟩ | refine ⟨rfl, ?_⟩ | refine .inl ⟨_, rfl, ?_⟩ | refine .inr ⟨_, rfl, ?_⟩ | refine ⟨.inr ⟨by decide, by decide⟩, ?_⟩ | refine ⟨⟨by decide, by decide⟩, ?_⟩ | refine ⟨⟨by decide, by decide, by decide⟩, ?_⟩ | refine ⟨.inr ⟨by omega, by omega⟩, ?_⟩ | refine ⟨(by show (0 : Int) < _; first | decide | omega), ?_⟩ | refine ⟨Nat.le_trans (Nat.le_of_ble_eq_true rfl : _ ≤ 50) (by decide), ?_⟩ | refine ⟨_, _, _, _, rfl, rfl, upd_same, rfl, ?_⟩ | refine ⟨_, _, _, _, rfl, rfl, SqL.of upd_same, rfl, ?_⟩ | refine ⟨_, _, _, _, rfl, rfl, SqT.of upd_same, rfl, ?_⟩ | refine ⟨_, _, rfl, .inl (SqL.of upd_same), ?_⟩ | refine ⟨_, _, rfl, .inr (SqT.of upd_same), ?_⟩ | (refine' ⟨_, _, _, _, rfl, rfl, _, _, _⟩; rotate_left 2; (focus (first | assumption | exact SqL.of (by assumption) | exact SqT.of (by assumption) | exact Same.seq (by assumption) (by assumption))); (focus (exact rfl))) | (refine' ⟨_, _, rfl, _, _⟩; rotate_left 1; (focus (first | exact .inl (by assumption) | exact .inl (SqL.of (by assumption)) | exact .inr (by assumption) | exact .inr (SqT.of (by assumption)))))))
      exact q H' k1 hb'
theorem ok_brholds (T : Tx w K mg) : FnOk P w K mg base CX0 2 T.a_law_branch_holds T.d_law_branch_holds ["predictor", "jumps", "place", "jumped"] (spBrHolds T.c_Predictor) := by
  have G_law_count : FnOk P w K mg base CX0 1 T.a_law_count T.d_law_count ["jumps", "number"] spCount := ok_count T
  have G_Predictor_branch : FnOk P w K mg base CX0 1 T.a_Predictor_branch T.d_Predictor_branch ["self", "place", "jumps"] (spBranch T.c_Predictor) := ok_branch T
  refine T.F_law_branch_holds.ok sc_law_branch_holds (fun vs H Q E h => ?_) (fun cdv A outer s H vs Q E hr h => ?_)
  · obtain ⟨x, dx, b, l, ts, p, j, rfl, _⟩ := h
    rfl
  · obtain ⟨x, dx, b, l, ts, p, j, rfl, hx, hb, hl, hL, hlen, hp, q⟩ := h
    have hr_law_count : Room 1 _ := hr
    have hr_Predictor_branch : Room 1 _ := hr
    refine ⟨_, (pss_cons (ps_set (i := 4) sc_law_branch_holds.nd rfl (.inl rfl) (pe_cmpR op_eq (pe_cmpR op_ge (pe_call G_law_count hr_law_count (by rfl) T.g_law_count T.F_law_count.kp T.b_law_count .nil pass0 (pa_cons (pv 1) (pa_cons (pe_op op_mod (pv 2) pe_int) pa_nil))) pe_int (nomark _)) (pv 3) (nomark _)))
        (pss_cons (ps_set (i := 5) sc_law_branch_holds.nd rfl (.inl rfl) (pe_meth (pv 0) T.cl_Predictor T.m_Predictor_branch G_Predictor_branch hr_Predictor_branch T.b_Predictor_branch .nil pass0 (pa_cons (pv 2) (pa_cons (pv 3) pa_nil))))
        (pss_one (ps_ret (pe_and (pe_callB call_isi (by rfl) T.z_isinstance (by decide +kernel) (pa_cons (pv 5) (pa_cons (pe_bltn (v := .ty "bool") (u := .type "bool") (by rfl) T.z_bool (by decide +kernel) rfl) pa_nil))) (pe_one (pe_cmpR op_eq (pv 5) (pv 4) (nomark _)))))))), ?_⟩
    (repeat (first | refine ⟨_, rfl, ?_⟩ | refine ⟨_, _, rfl, rfl, ?_⟩ | refine ⟨rfl, ?_⟩ | refine .inl ⟨_, rfl, ?_⟩ | refine .inr ⟨_, rfl, ?_⟩ | refine ⟨.inr ⟨by decide, by decide⟩, ?_⟩ | refine ⟨⟨by decide, by decide⟩, ?_⟩ | refine ⟨⟨by decide, by decide, by decide⟩, ?_⟩ | refine ⟨.inr ⟨by omega, by omega⟩, ?_⟩ | refine ⟨(by show (0 : Int) < _; first | decide | omega), ?_⟩ | refine ⟨Nat.le_trans (Nat.le_of_ble_eq_true rfl : _ ≤ 50) (by decide), ?_⟩ | refine ⟨_, _, _, _, rfl, rfl, upd_same, rfl, ?_⟩ | refine ⟨_, _, _, _, rfl, rfl, SqL.of upd_same, rfl, ?_⟩ | refine ⟨_, _, _, _, rfl, rfl, SqT.of upd_same, rfl, ?_⟩ | refine ⟨_, _, rfl, .inl (SqL.of upd_same), ?_⟩ | refine ⟨_, _, rfl, .inr (SqT.of upd_same), ?_⟩ | (refine' ⟨_, _, _, _, rfl, rfl, _, _, _⟩; rotate_left 2; (focus (first | assumption | exact SqL.of (by assumption) | exact SqT.of (by assumption) | exact Same.seq (by assumption) (by assumption))); (focus (exact rfl))) | (refine' ⟨_, _, rfl, _, _⟩; rotate_left 1; (focus (first | exact .inl (by assumption) | exact .inl (SqL.of (by assumption)) | exact .inr (by assumption) | exact .inr (SqT.of (by assumption)))))))
    refine ⟨l, ts, p % 16, rfl, hl, hL, hlen, ?_⟩
    (repeat (first | refine ⟨_, rfl, ?_⟩ | refine ⟨_, _, rfl, rfl, ?_⟩ | refine ⟨rfl, ?_⟩ | refine .inl ⟨_, rfl, ?_⟩ | refine .inr ⟨_, rfl, ?_⟩ | refine ⟨.inr ⟨by decide, by decide⟩, ?_⟩ | refine ⟨⟨by decide, by decide⟩, ?_⟩ | refine ⟨⟨by decide, by decide, by decide⟩, ?_⟩ | refine ⟨.inr ⟨by omega, by omega⟩, ?_⟩ | refine ⟨(by show (0 : Int) < _; first | decide | omega), ?_⟩ | refine ⟨Nat.le_trans (Nat.le_of_ble_eq_true rfl : _ ≤ 50) (by decide), ?_⟩ | refine ⟨_, _, _, _, rfl, rfl, upd_same, rfl, ?_⟩ | refine ⟨_, _, _, _, rfl, rfl, SqL.of upd_same, rfl, ?_⟩ | refine ⟨_, _, _, _, rfl, rfl, SqT.of upd_same, rfl, ?_⟩ | refine ⟨_, _, rfl, .inl (SqL.of upd_same), ?_⟩ | refine ⟨_, _, rfl, .inr (SqT.of upd_same), ?_⟩ | (refine' ⟨_, _, _, _, rfl, rfl, _, _, _⟩; rotate_left 2; (focus (first | assumption | exact SqL.of (by assumption) | exact SqT.of (by assumption) | exact Same.seq (by assumption) (by assumption))); (focus (exact rfl))) | (refine' ⟨_, _, rfl, _, _⟩; rotate_left 1; (focus (first | exact .inl (by assumption) | exact .inl (SqL.of (by assumption)) | exact .inr (by assumption) | exact .inr (SqT.of (by assumption)))))))
    refine ⟨x, dx, _, rfl, hx, rfl, _, rfl, _, rfl, x, dx, b, jss ts, p, j, rfl, hx, hb, hp, fun H' k1 hb' => ?_⟩
    (repeat (first | refine ⟨_, rfl, ?_⟩ | refine ⟨_, _, rfl, rfl, ?_⟩ | refine ⟨rfl, ?_⟩ | refine .inl ⟨_, rfl, ?_⟩ | refine .inr ⟨_, rfl, ?_⟩ | refine ⟨.inr ⟨by decide, by decide⟩, ?_⟩ | refine ⟨⟨by decide, by decide⟩, ?_⟩ | refine ⟨⟨by decide, by decide, by decide⟩, ?_⟩ | refine ⟨.inr ⟨by omega, by omega⟩, ?_⟩ | refine ⟨(by show (0 : Int) < _; first | decide | omega), ?_⟩ | refine ⟨Nat.le_trans (Nat.le_of_ble_eq_true rfl : _ ≤ 50) (by decide), ?_⟩ | refine ⟨_, _, _, _, rfl, rfl, upd_same, rfl, ?_⟩ | refine ⟨_, _, _, _, rfl, rfl, SqL.of upd_same, rfl, ?_⟩ | refine ⟨_, _, _, _, rfl, rfl, SqT.of upd_same, rfl, ?_⟩ | refine ⟨_, _, rfl, .inl (SqL.of upd_same), ?_⟩ | refine ⟨_, _, rfl, .inr (SqT.of upd_same), ?_⟩ | (refine' ⟨_, _, _, _, rfl, rfl, _, _, _⟩; rotate_left 2; (focus (first | assumption | exact SqL.of (by assumption) | exact SqT.of (by assumption) | exact Same.seq (by assumption) (by assumption))); (focus (exact rfl))) | (refine' ⟨_, _, rfl, _, _⟩; rotate_left 1; (focus (first | exact .inl (by assumption) | exact .inl (SqL.of (by assumption)) | exact .inr (by assumption) | exact .inr (SqT.of (by assumption)))))))
    refine ⟨_, _, _, _, true, rfl, .ty "bool", .base (.bl _), kit_ty (by decide +kernel), true, rfl, iteT ?_⟩
    (repeat (first | refine ⟨_, rfl, ?_⟩ | refine ⟨_, _, rfl, rfl, ?_⟩ | refine ⟨rfl, ?_⟩ | refine .inl ⟨_, rfl, ?_⟩ | refine .inr ⟨_, rfl, ?_⟩ | refine ⟨.inr ⟨by decide, by decide⟩, ?_⟩ | refine ⟨⟨by decide, by decide⟩, ?_⟩ | refine ⟨⟨by decide, by decide, by decide⟩, ?_⟩ | refine ⟨.inr ⟨by omega, by omega⟩, ?_⟩ | refine ⟨(by show (0 : Int) < _; first | decide | omega), ?_⟩ | refine ⟨Nat.le_trans (Nat.le_of_ble_eq_true rfl : _ ≤ 50) (by decide), ?_⟩ | refine ⟨_, _, _, _, rfl, rfl, upd_same, rfl, ?_⟩ | refine ⟨_, _, _, _, rfl, rfl, SqL.of upd_same, rfl, ?_⟩ | refine ⟨_, _, _, _, rfl, rfl, SqT.of upd_same, rfl, ?_⟩ | refine ⟨_, _, rfl, .inl (SqL.of upd_same), ?_⟩ | refine ⟨_, _, rfl, .inr (SqT.of upd_same), ?_⟩ | (refine' ⟨_, _, _, _, rfl, rfl, _, _, _⟩; rotate_left 2; (focus (first | assumption | exact SqL.of (by assumption) | exact SqT.of (by assumption) | exact Same.seq (by assumption) (by assumption))); (focus (exact rfl))) | (refine' ⟨_, _, rfl, _, _⟩; rotate_left 1; (focus (first | exact .inl (by assumption) | exact .inl (SqL.of (by assumption)) | exact .inr (by assumption) | exact .inr (SqT.of (by assumption)))))))
    rw [decide_eq_true rfl]
    exact q H' k1 hb'
theorem ok_stholds (T : Tx w K mg) : FnOk P w K mg base CX0 3 T.a_law_state_holds T.d_law_state_holds ["cache", "addresses", "predictor", "jumps"] (spStHolds T.c_Cache T.c_Predictor) := by
  have G_law_held : FnOk P w K mg base CX0 1 T.a_law_held T.d_law_held ["addresses", "line"] spHeld := ok_held T
  have G_law_count : FnOk P w K mg base CX0 1 T.a_law_count T.d_law_count ["jumps", "number"] spCount := ok_count T
  have G_law_are_numbers : FnOk P w K mg base CX0 2 T.a_law_are_numbers T.d_law_are_numbers ["values", "due"] spNums := ok_nums T
  have G_Cache_lines : FnOk P w K mg base CX0 1 T.a_Cache_lines T.d_Cache_lines ["self"] (spLines T.c_Cache) := ok_lines T
  have G_Predictor_counters : FnOk P w K mg base CX0 1 T.a_Predictor_counters T.d_Predictor_counters ["self"] (spCounters T.c_Predictor) := ok_counters T
  refine T.F_law_state_holds.ok sc_law_state_holds (fun vs H Q E h => ?_) (fun cdv A outer s H vs Q E hr h => ?_)
  · obtain ⟨x, dx, b, l, y, dy, m, k, as, ts, rfl, _⟩ := h
    rfl
  · obtain ⟨x, dx, b, l, y, dy, m, k, as, ts, rfl, hx, hb, hl, hlen, hy, hm, hk, hL, hlen2, q⟩ := h
    have hr_law_held : Room 1 _ := hr.mono (by decide)
    have hr_law_count : Room 1 _ := hr.mono (by decide)
    have hr_law_are_numbers : Room 2 _ := hr
    have hr_Cache_lines : Room 1 _ := hr.mono (by decide)
    have hr_Predictor_counters : Room 1 _ := hr.mono (by decide)
    refine ⟨_, (pss_cons (ps_setLc (i := 4) (own := [("line", 9)]) (g := gName 9) (by rfl) sc_law_state_holds.nd rfl rfl (sw_true rfl rfl rfl (by decide +kernel)) (pi_range1 rfl T.z_range (pa_cons pe_int pa_nil)) (blkOk_by (N := n_law_state_holds) (sc := defScope s_law_state_holds) (by decide +kernel)) (fun _ _ _ _ _ => pg_name (i := 9) sc_law_state_holds.nd rfl (Or.inl rfl)) (fun _ _ _ _ _ => pts_nil) (fun _ _ _ _ _ => (pe_call G_law_held hr_law_held (by rfl) T.g_law_held T.F_law_held.kp T.b_law_held .nil pass0 (pa_cons (pv 1) (pa_cons (pv 9) pa_nil)))))
        (pss_cons (ps_setLc (i := 5) (own := [("number", 10)]) (g := gName 10) (by rfl) sc_law_state_holds.nd rfl rfl (sw_true rfl rfl rfl (by decide +kernel)) (pi_range1 rfl T.z_range (pa_cons pe_int pa_nil)) (blkOk_by (N := n_law_state_holds) (sc := defScope s_law_state_holds) (by decide +kernel)) (fun _ _ _ _ _ => pg_name (i := 10) sc_law_state_holds.nd rfl (Or.inl rfl)) (fun _ _ _ _ _ => pts_nil) (fun _ _ _ _ _ => (pe_call G_law_count hr_law_count (by rfl) T.g_law_count T.F_law_count.kp T.b_law_count .nil pass0 (pa_cons (pv 3) (pa_cons (pv 10) pa_nil)))))
        (pss_cons (ps_for PassesOwn.never rfl (pi_range1 rfl T.z_range (pa_cons pe_int pa_nil)) (pg_name (i := 6) sc_law_state_holds.nd rfl (.inl rfl))
        (pss_cons (ps_set (i := 7) sc_law_state_holds.nd rfl (.inl rfl) (pe_meth0 (pv 0) T.cl_Cache T.m_Cache_lines G_Cache_lines hr_Cache_lines T.b_Cache_lines .nil pass0 ))
        (pss_cons (ps_set (i := 8) sc_law_state_holds.nd rfl (.inl rfl) (pe_meth0 (pv 2) T.cl_Predictor T.m_Predictor_counters G_Predictor_counters hr_Predictor_counters T.b_Predictor_counters .nil pass0 ))
        (pss_cons (ps_if (PW.pt (pw_or (pt_not (pt_val (pe_call G_law_are_numbers hr_law_are_numbers (by rfl) T.g_law_are_numbers T.F_law_are_numbers.kp T.b_law_are_numbers .nil pass0 (pa_cons (pv 7) (pa_cons (pv 4) pa_nil))))) (pw_or1 (pt_not (pt_val (pe_call G_law_are_numbers hr_law_are_numbers (by rfl) T.g_law_are_numbers T.F_law_are_numbers.kp T.b_law_are_numbers .nil pass0 (pa_cons (pv 8) (pa_cons (pv 5) pa_nil))))))))
        (pss_one (ps_ret pe_bl))
        pss_nil)
        (pss_cons (ps_asg pe_int (pg_sub (pv 7) pe_int set_list))
        (pss_one (ps_asg pe_int (pg_sub (pv 8) pe_int set_list))))))))
        (pss_one (ps_ret pe_bl))))), ?_⟩
    (repeat (first | refine ⟨_, rfl, ?_⟩ | refine ⟨_, _, rfl, rfl, ?_⟩ | refine ⟨rfl, ?_⟩ | refine .inl ⟨_, rfl, ?_⟩ | refine .inr ⟨_, rfl, ?_⟩ | refine ⟨.inr ⟨by decide, by decide⟩, ?_⟩ | refine ⟨⟨by decide, by decide⟩, ?_⟩ | refine ⟨⟨by decide, by decide, by decide⟩, ?_⟩ | refine ⟨.inr ⟨by omega, by omega⟩, ?_⟩ | refine ⟨(by show (0 : Int) < _; first | decide | omega), ?_⟩ | refine ⟨Nat.le_trans (Nat.le_of_ble_eq_true rfl : _ ≤ 50) (by decide), ?_⟩ | refine ⟨_, _, _, _, rfl, rfl, upd_same, rfl, ?_⟩ | refine ⟨_, _, _, _, rfl, rfl, SqL.of upd_same, rfl, ?_⟩ | refine ⟨_, _, _, _, rfl, rfl, SqT.of upd_same, rfl, ?_⟩ | refine ⟨_, _, rfl, .inl (SqL.of upd_same), ?_⟩ | refine ⟨_, _, rfl, .inr (SqT.of upd_same), ?_⟩ | (refine' ⟨_, _, _, _, rfl, rfl, _, _, _⟩; rotate_left 2; (focus (first | assumption | exact SqL.of (by assumption) | exact SqT.of (by assumption) | exact Same.seq (by assumption) (by assumption))); (focus (exact rfl))) | (refine' ⟨_, _, rfl, _, _⟩; rotate_left 1; (focus (first | exact .inl (by assumption) | exact .inl (SqL.of (by assumption)) | exact .inr (by assumption) | exact .inr (SqT.of (by assumption)))))))
    refine ⟨by decide, by decide, fun D hD => lc_range (lo := 0) (n := 8) (fun i H2 => Same H H2 ∧ H2 D = some (.lst (((blocks as).take i).map V.int))) ⟨same_upd hD, upd_same⟩ ?_ ?_⟩
    · rintro i H2 hi ⟨s2, h2⟩
      refine ⟨rfl, ?_⟩
      unfold tYes
      dsimp only
      rw [if_pos rfl]
      refine ⟨_, rfl, _, rfl, l, as, 0 + (i : Int), rfl, s2 _ _ hl, hlen, _, h2, ?_, ?_, ?_⟩
      · rw [List.length_map, List.length_take, blocks_len]
        exact small1000 (by omega)
      · intro b o e
        rw [upd_ne (ne_of_none e hD)]
        exact s2 _ _ e
      · rw [upd_same, List.take_add_one]
        have e1 : (blocks as)[i]? = some (held as (0 + (i : Int))) := by
          unfold blocks
          rw [List.getElem?_map, List.getElem?_range hi, Int.zero_add]
          rfl
        rw [e1, List.map_append]
        rfl
    · rintro H2 ⟨s2, h2⟩
      rw [List.take_of_length_le (by rw [blocks_len]; omega)] at h2
      (repeat (first | refine ⟨_, rfl, ?_⟩ | refine ⟨_, _, rfl, rfl, ?_⟩ | refine ⟨rfl, ?_⟩ | refine .inl ⟨_, rfl, ?_⟩ | refine .inr ⟨_, rfl, ?_⟩ | refine ⟨.inr ⟨by decide, by decide⟩, ?_⟩ | refine ⟨⟨by decide, by decide⟩, ?_⟩ | refine ⟨⟨by decide, by decide, by decide⟩, ?_⟩ | refine ⟨.inr ⟨by omega, by omega⟩, ?_⟩ | refine ⟨(by show (0 : Int) < _; first | decide | omega), ?_⟩ | refine ⟨Nat.le_trans (Nat.le_of_ble_eq_true rfl : _ ≤ 50) (by decide), ?_⟩ | refine ⟨_, _, _, _, rfl, rfl, upd_same, rfl, ?_⟩ | refine ⟨_, _, _, _, rfl, rfl, SqL.of upd_same, rfl, ?_⟩ | refine ⟨_, _, _, _, rfl, rfl, SqT.of upd_same, rfl, ?_⟩ | refine ⟨_, _, rfl, .inl (SqL.of upd_same), ?_⟩ | refine ⟨_, _, rfl, .inr (SqT.of upd_same), ?_⟩ | (refine' ⟨_, _, _, _, rfl, rfl, _, _, _⟩; rotate_left 2; (focus (first | assumption | exact SqL.of (by assumption) | exact SqT.of (by assumption) | exact Same.seq (by assumption) (by assumption))); (focus (exact rfl))) | (refine' ⟨_, _, rfl, _, _⟩; rotate_left 1; (focus (first | exact .inl (by assumption) | exact .inl (SqL.of (by assumption)) | exact .inr (by assumption) | exact .inr (SqT.of (by assumption)))))))
      refine ⟨by decide, by decide, fun F hF => lc_range (lo := 0) (n := 16) (fun i H3 => Same H H3 ∧ H3 D = some (.lst ((blocks as).map V.int)) ∧ H3 F = some (.lst (((marks (jss ts)).take i).map V.int)) ∧ F ≠ D) ⟨s2.trans (same_upd hF), same_upd hF _ _ h2, upd_same, ne_of_none' h2 hF⟩ ?_ ?_⟩
      · rintro i H3 hi ⟨s3, g3, h3, nFD⟩
        refine ⟨rfl, ?_⟩
        unfold tYes
        dsimp only
        rw [if_pos rfl]
        refine ⟨_, rfl, _, rfl, k, ts, 0 + (i : Int), rfl, s3 _ _ hk, (fun t ht => s3 _ _ (hL t ht)), hlen2, _, h3, ?_, ?_, ?_, ?_, nFD⟩
        · rw [List.length_map, List.length_take, marks_len]
          exact small1000 (by omega)
        · intro b o e
          rw [upd_ne (ne_of_none e ((s2.trans (fun _ _ z => z)).free hF))]
          exact s3 _ _ e
        · rw [upd_ne nFD.symm]
          exact g3
        · rw [upd_same, List.take_add_one]
          have e1 : (marks (jss ts))[i]? = some (count (jss ts) (0 + (i : Int))) := by
            unfold marks
            rw [List.getElem?_map, List.getElem?_range hi, Int.zero_add]
            rfl
          rw [e1, List.map_append]
          rfl
      · rintro H3 ⟨s3, g3, h3, nFD⟩
        rw [List.take_of_length_le (by rw [marks_len]; omega)] at h3
        (repeat (first | refine ⟨_, rfl, ?_⟩ | refine ⟨_, _, rfl, rfl, ?_⟩ | refine ⟨rfl, ?_⟩ | refine .inl ⟨_, rfl, ?_⟩ | refine .inr ⟨_, rfl, ?_⟩ | refine ⟨.inr ⟨by decide, by decide⟩, ?_⟩ | refine ⟨⟨by decide, by decide⟩, ?_⟩ | refine ⟨⟨by decide, by decide, by decide⟩, ?_⟩ | refine ⟨.inr ⟨by omega, by omega⟩, ?_⟩ | refine ⟨(by show (0 : Int) < _; first | decide | omega), ?_⟩ | refine ⟨Nat.le_trans (Nat.le_of_ble_eq_true rfl : _ ≤ 50) (by decide), ?_⟩ | refine ⟨_, _, _, _, rfl, rfl, upd_same, rfl, ?_⟩ | refine ⟨_, _, _, _, rfl, rfl, SqL.of upd_same, rfl, ?_⟩ | refine ⟨_, _, _, _, rfl, rfl, SqT.of upd_same, rfl, ?_⟩ | refine ⟨_, _, rfl, .inl (SqL.of upd_same), ?_⟩ | refine ⟨_, _, rfl, .inr (SqT.of upd_same), ?_⟩ | (refine' ⟨_, _, _, _, rfl, rfl, _, _, _⟩; rotate_left 2; (focus (first | assumption | exact SqL.of (by assumption) | exact SqT.of (by assumption) | exact Same.seq (by assumption) (by assumption))); (focus (exact rfl))) | (refine' ⟨_, _, rfl, _, _⟩; rotate_left 1; (focus (first | exact .inl (by assumption) | exact .inl (SqL.of (by assumption)) | exact .inr (by assumption) | exact .inr (SqT.of (by assumption)))))))
        refine ⟨by decide, by decide, for_range (lo := 0) (n := 2) (fun i σ H4 => ∃ v6 v7 v8, σ = [some (.ref x), some (.ref l), some (.ref y), some (.ref k), some (.ref D), some (.ref F), v6, v7, v8, none, none] ∧ Same H H4 ∧ H4 D = some (.lst ((blocks as).map V.int)) ∧ H4 F = some (.lst ((marks (jss ts)).map V.int)))
          ⟨none, none, none, rfl, s3, g3, h3⟩ ?_ ?_⟩
        · rintro i σ H4 hi ⟨v6, v7, v8, rfl, s4, g4, h4⟩
          (repeat (first | refine ⟨_, rfl, ?_⟩ | refine ⟨_, _, rfl, rfl, ?_⟩ | refine ⟨rfl, ?_⟩ | refine .inl ⟨_, rfl, ?_⟩ | refine .inr ⟨_, rfl, ?_⟩ | refine ⟨.inr ⟨by decide, by decide⟩, ?_⟩ | refine ⟨⟨by decide, by decide⟩, ?_⟩ | refine ⟨⟨by decide, by decide, by decide⟩, ?_⟩ | refine ⟨.inr ⟨by omega, by omega⟩, ?_⟩ | refine ⟨(by show (0 : Int) < _; first | decide | omega), ?_⟩ | refine ⟨Nat.le_trans (Nat.le_of_ble_eq_true rfl : _ ≤ 50) (by decide), ?_⟩ | refine ⟨_, _, _, _, rfl, rfl, upd_same, rfl, ?_⟩ | refine ⟨_, _, _, _, rfl, rfl, SqL.of upd_same, rfl, ?_⟩ | refine ⟨_, _, _, _, rfl, rfl, SqT.of upd_same, rfl, ?_⟩ | refine ⟨_, _, rfl, .inl (SqL.of upd_same), ?_⟩ | refine ⟨_, _, rfl, .inr (SqT.of upd_same), ?_⟩ | (refine' ⟨_, _, _, _, rfl, rfl, _, _, _⟩; rotate_left 2; (focus (first | assumption | exact SqL.of (by assumption) | exact SqT.of (by assumption) | exact Same.seq (by assumption) (by assumption))); (focus (exact rfl))) | (refine' ⟨_, _, rfl, _, _⟩; rotate_left 1; (focus (first | exact .inl (by assumption) | exact .inl (SqL.of (by assumption)) | exact .inr (by assumption) | exact .inr (SqT.of (by assumption)))))))
          refine ⟨x, dx, _, rfl, s4 _ _ hx, rfl, x, dx, b, blocks as, rfl, s4 _ _ hx, s4 _ _ hb, fun p hp => ?_⟩
          have s5 := same_upd (o := .lst ((blocks as).map V.int)) hp
          (repeat (first | refine ⟨_, rfl, ?_⟩ | refine ⟨_, _, rfl, rfl, ?_⟩ | refine ⟨rfl, ?_⟩ | refine .inl ⟨_, rfl, ?_⟩ | refine .inr ⟨_, rfl, ?_⟩ | refine ⟨.inr ⟨by decide, by decide⟩, ?_⟩ | refine ⟨⟨by decide, by decide⟩, ?_⟩ | refine ⟨⟨by decide, by decide, by decide⟩, ?_⟩ | refine ⟨.inr ⟨by omega, by omega⟩, ?_⟩ | refine ⟨(by show (0 : Int) < _; first | decide | omega), ?_⟩ | refine ⟨Nat.le_trans (Nat.le_of_ble_eq_true rfl : _ ≤ 50) (by decide), ?_⟩ | refine ⟨_, _, _, _, rfl, rfl, upd_same, rfl, ?_⟩ | refine ⟨_, _, _, _, rfl, rfl, SqL.of upd_same, rfl, ?_⟩ | refine ⟨_, _, _, _, rfl, rfl, SqT.of upd_same, rfl, ?_⟩ | refine ⟨_, _, rfl, .inl (SqL.of upd_same), ?_⟩ | refine ⟨_, _, rfl, .inr (SqT.of upd_same), ?_⟩ | (refine' ⟨_, _, _, _, rfl, rfl, _, _, _⟩; rotate_left 2; (focus (first | assumption | exact SqL.of (by assumption) | exact SqT.of (by assumption) | exact Same.seq (by assumption) (by assumption))); (focus (exact rfl))) | (refine' ⟨_, _, rfl, _, _⟩; rotate_left 1; (focus (first | exact .inl (by assumption) | exact .inl (SqL.of (by assumption)) | exact .inr (by assumption) | exact .inr (SqT.of (by assumption)))))))
          refine ⟨y, dy, _, rfl, s5 _ _ (s4 _ _ hy), rfl, y, dy, m, marks (jss ts), rfl, s5 _ _ (s4 _ _ hy), s5 _ _ (s4 _ _ hm), fun r hr => ?_⟩
          have s6 := same_upd (o := .lst ((marks (jss ts)).map V.int)) hr
          have npr : p ≠ r := ne_of_none upd_same hr
          have gp : (upd (upd H4 p (.lst ((blocks as).map V.int))) r (.lst ((marks (jss ts)).map V.int))) p = some (.lst ((blocks as).map V.int)) := by rw [upd_ne npr, upd_same]
          (repeat (first | refine ⟨_, rfl, ?_⟩ | refine ⟨_, _, rfl, rfl, ?_⟩ | refine ⟨rfl, ?_⟩ | refine .inl ⟨_, rfl, ?_⟩ | refine .inr ⟨_, rfl, ?_⟩ | refine ⟨.inr ⟨by decide, by decide⟩, ?_⟩ | refine ⟨⟨by decide, by decide⟩, ?_⟩ | refine ⟨⟨by decide, by decide, by decide⟩, ?_⟩ | refine ⟨.inr ⟨by omega, by omega⟩, ?_⟩ | refine ⟨(by show (0 : Int) < _; first | decide | omega), ?_⟩ | refine ⟨Nat.le_trans (Nat.le_of_ble_eq_true rfl : _ ≤ 50) (by decide), ?_⟩ | refine ⟨_, _, _, _, rfl, rfl, upd_same, rfl, ?_⟩ | refine ⟨_, _, _, _, rfl, rfl, SqL.of upd_same, rfl, ?_⟩ | refine ⟨_, _, _, _, rfl, rfl, SqT.of upd_same, rfl, ?_⟩ | refine ⟨_, _, rfl, .inl (SqL.of upd_same), ?_⟩ | refine ⟨_, _, rfl, .inr (SqT.of upd_same), ?_⟩ | (refine' ⟨_, _, _, _, rfl, rfl, _, _, _⟩; rotate_left 2; (focus (first | assumption | exact SqL.of (by assumption) | exact SqT.of (by assumption) | exact Same.seq (by assumption) (by assumption))); (focus (exact rfl))) | (refine' ⟨_, _, rfl, _, _⟩; rotate_left 1; (focus (first | exact .inl (by assumption) | exact .inl (SqL.of (by assumption)) | exact .inr (by assumption) | exact .inr (SqT.of (by assumption)))))))
          refine ⟨p, D, blocks as, rfl, gp, s6 _ _ (s5 _ _ g4), by rw [blocks_len]; decide, ?_⟩
          (repeat (first | refine ⟨_, rfl, ?_⟩ | refine ⟨_, _, rfl, rfl, ?_⟩ | refine ⟨rfl, ?_⟩ | refine .inl ⟨_, rfl, ?_⟩ | refine .inr ⟨_, rfl, ?_⟩ | refine ⟨.inr ⟨by decide, by decide⟩, ?_⟩ | refine ⟨⟨by decide, by decide⟩, ?_⟩ | refine ⟨⟨by decide, by decide, by decide⟩, ?_⟩ | refine ⟨.inr ⟨by omega, by omega⟩, ?_⟩ | refine ⟨(by show (0 : Int) < _; first | decide | omega), ?_⟩ | refine ⟨Nat.le_trans (Nat.le_of_ble_eq_true rfl : _ ≤ 50) (by decide), ?_⟩ | refine ⟨_, _, _, _, rfl, rfl, upd_same, rfl, ?_⟩ | refine ⟨_, _, _, _, rfl, rfl, SqL.of upd_same, rfl, ?_⟩ | refine ⟨_, _, _, _, rfl, rfl, SqT.of upd_same, rfl, ?_⟩ | refine ⟨_, _, rfl, .inl (SqL.of upd_same), ?_⟩ | refine ⟨_, _, rfl, .inr (SqT.of upd_same), ?_⟩ | (refine' ⟨_, _, _, _, rfl, rfl, _, _, _⟩; rotate_left 2; (focus (first | assumption | exact SqL.of (by assumption) | exact SqT.of (by assumption) | exact Same.seq (by assumption) (by assumption))); (focus (exact rfl))) | (refine' ⟨_, _, rfl, _, _⟩; rotate_left 1; (focus (first | exact .inl (by assumption) | exact .inl (SqL.of (by assumption)) | exact .inr (by assumption) | exact .inr (SqT.of (by assumption)))))))
          refine ⟨r, F, marks (jss ts), rfl, upd_same, s6 _ _ (s5 _ _ h4), by rw [marks_len]; decide, ?_⟩
          (repeat (first | refine ⟨_, rfl, ?_⟩ | refine ⟨_, _, rfl, rfl, ?_⟩ | refine ⟨rfl, ?_⟩ | refine .inl ⟨_, rfl, ?_⟩ | refine .inr ⟨_, rfl, ?_⟩ | refine ⟨.inr ⟨by decide, by decide⟩, ?_⟩ | refine ⟨⟨by decide, by decide⟩, ?_⟩ | refine ⟨⟨by decide, by decide, by decide⟩, ?_⟩ | refine ⟨.inr ⟨by omega, by omega⟩, ?_⟩ | refine ⟨(by show (0 : Int) < _; first | decide | omega), ?_⟩ | refine ⟨Nat.le_trans (Nat.le_of_ble_eq_true rfl : _ ≤ 50) (by decide), ?_⟩ | refine ⟨_, _, _, _, rfl, rfl, upd_same, rfl, ?_⟩ | refine ⟨_, _, _, _, rfl, rfl, SqL.of upd_same, rfl, ?_⟩ | refine ⟨_, _, _, _, rfl, rfl, SqT.of upd_same, rfl, ?_⟩ | refine ⟨_, _, rfl, .inl (SqL.of upd_same), ?_⟩ | refine ⟨_, _, rfl, .inr (SqT.of upd_same), ?_⟩ | (refine' ⟨_, _, _, _, rfl, rfl, _, _, _⟩; rotate_left 2; (focus (first | assumption | exact SqL.of (by assumption) | exact SqT.of (by assumption) | exact Same.seq (by assumption) (by assumption))); (focus (exact rfl))) | (refine' ⟨_, _, rfl, _, _⟩; rotate_left 1; (focus (first | exact .inl (by assumption) | exact .inl (SqL.of (by assumption)) | exact .inr (by assumption) | exact .inr (SqT.of (by assumption)))))))
          refine ⟨r, _, 3, (3 : Int).toNat, rfl, rfl, (by rw [upd_ne npr.symm, upd_same]), ixN_of (by decide) (by rw [List.length_map, marks_len]; decide), ?_⟩
          refine ⟨_, _, _, rfl, fun b' o e => ?_, ?_, ?_⟩
          · rw [upd_ne (ne_of_none (s5 _ _ (s4 _ _ e)) hr), upd_ne (ne_of_none (s4 _ _ e) hp)]
            exact s6 _ _ (s5 _ _ (s4 _ _ e))
          · rw [upd_ne (ne_of_none (s5 _ _ g4) hr), upd_ne (ne_of_none g4 hp)]
            exact s6 _ _ (s5 _ _ g4)
          · rw [upd_ne (ne_of_none (s5 _ _ h4) hr), upd_ne (ne_of_none h4 hp)]
            exact s6 _ _ (s5 _ _ h4)
        · rintro σ H4 ⟨v6, v7, v8, rfl, s4, g4, h4⟩
          (repeat (first | refine ⟨_, rfl, ?_⟩ | refine ⟨_, _, rfl, rfl, ?_⟩ | refine ⟨rfl, ?_⟩ | refine .inl ⟨_, rfl, ?_⟩ | refine .inr ⟨_, rfl, ?_⟩ | refine ⟨.inr ⟨by decide, by decide⟩, ?_⟩ | refine ⟨⟨by decide, by decide⟩, ?_⟩ | refine ⟨⟨by decide, by decide, by decide⟩, ?_⟩ | refine ⟨.inr ⟨by omega, by omega⟩, ?_⟩ | refine ⟨(by show (0 : Int) < _; first | decide | omega), ?_⟩ | refine ⟨Nat.le_trans (Nat.le_of_ble_eq_true rfl : _ ≤ 50) (by decide), ?_⟩ | refine ⟨_, _, _, _, rfl, rfl, upd_same, rfl, ?_⟩ | refine ⟨_, _, _, _, rfl, rfl, SqL.of upd_same, rfl, ?_⟩ | refine ⟨_, _, _, _, rfl, rfl, SqT.of upd_same, rfl, ?_⟩ | refine ⟨_, _, rfl, .inl (SqL.of upd_same), ?_⟩ | refine ⟨_, _, rfl, .inr (SqT.of upd_same), ?_⟩ | (refine' ⟨_, _, _, _, rfl, rfl, _, _, _⟩; rotate_left 2; (focus (first | assumption | exact SqL.of (by assumption) | exact SqT.of (by assumption) | exact Same.seq (by assumption) (by assumption))); (focus (exact rfl))) | (refine' ⟨_, _, rfl, _, _⟩; rotate_left 1; (focus (first | exact .inl (by assumption) | exact .inl (SqL.of (by assumption)) | exact .inr (by assumption) | exact .inr (SqT.of (by assumption)))))))
          exact q H4 s4
def spAddr (m : Int) : Sp := fun vs H Q _ => ∃ (p : Addr) (x y n : Int), vs = [.ref p, .int n] ∧ H p = some (.lst [.int x, .int y]) ∧ 0 ≤ x ∧
  ∀ (v x' y' : Int) (H' : Hp), 0 ≤ v → v < m → 0 ≤ x' → Keep H H' p → H' p = some (.lst [.int x', .int y']) → Q (.int v) H'
theorem ok_address (T : Tx w K mg) : FnOk P w K mg base CX0 2 T.a_law_address T.d_law_address ["source", "near"] (spAddr 4096) := by
  have G_law_draw : FnOk P w K mg base CX0 1 T.a_law_draw T.d_law_draw ["source", "many"] spDraw := ok_draw T
  refine T.F_law_address.ok sc_law_address (fun vs H Q E h => ?_) (fun cdv A outer s H vs Q E hr h => ?_)
  · obtain ⟨p, x, y, n, rfl, _⟩ := h
    rfl
  · obtain ⟨p, x, y, n, rfl, hp, hx, q⟩ := h
    have hr_law_draw : Room 1 _ := hr
    refine ⟨_, (pss_cons (ps_if (pt_cmpR op_eq (pv 1) pe_int (nomark _))
        (pss_one (ps_ret (pe_call G_law_draw hr_law_draw (by rfl) T.g_law_draw T.F_law_draw.kp T.b_law_draw .nil pass0 (pa_cons (pv 0) (pa_cons pe_int pa_nil)))))
        pss_nil)
        (pss_cons (ps_if (pt_cmpR op_eq (pv 1) pe_int (nomark _))
        (pss_one (ps_ret (pe_op op_add (pe_op op_mul (pe_call G_law_draw hr_law_draw (by rfl) T.g_law_draw T.F_law_draw.kp T.b_law_draw .nil pass0 (pa_cons (pv 0) (pa_cons pe_int pa_nil))) pe_int) (pe_call G_law_draw hr_law_draw (by rfl) T.g_law_draw T.F_law_draw.kp T.b_law_draw .nil pass0 (pa_cons (pv 0) (pa_cons pe_int pa_nil))))))
        pss_nil)
        (pss_one (ps_ret (pe_call G_law_draw hr_law_draw (by rfl) T.g_law_draw T.F_law_draw.kp T.b_law_draw .nil pass0 (pa_cons (pv 0) (pa_cons pe_int pa_nil))))))), ?_⟩
    (repeat (first | refine ⟨_, rfl, ?_⟩ | refine ⟨_, _, rfl, rfl, ?_⟩ | refine ⟨rfl, ?_⟩ | refine .inl ⟨_, rfl, ?_⟩ | refine .inr ⟨_, rfl, ?_⟩ | refine ⟨.inr ⟨by decide, by decide⟩, ?_⟩ | refine ⟨⟨by decide, by decide⟩, ?_⟩ | refine ⟨⟨by decide, by decide, by decide⟩, ?_⟩ | refine ⟨.inr ⟨by omega, by omega⟩, ?_⟩ | refine ⟨(by show (0 : Int) < _; first | decide | omega), ?_⟩ | refine ⟨Nat.le_trans (Nat.le_of_ble_eq_true rfl : _ ≤ 50) (by decide), ?_⟩ | refine ⟨_, _, _, _, rfl, rfl, upd_same, rfl, ?_⟩ | refine ⟨_, _, _, _, rfl, rfl, SqL.of upd_same, rfl, ?_⟩ | refine ⟨_, _, _, _, rfl, rfl, SqT.of upd_same, rfl, ?_⟩ | refine ⟨_, _, rfl, .inl (SqL.of upd_same), ?_⟩ | refine ⟨_, _, rfl, .inr (SqT.of upd_same), ?_⟩ | (refine' ⟨_, _, _, _, rfl, rfl, _, _, _⟩; rotate_left 2; (focus (first | assumption | exact SqL.of (by assumption) | exact SqT.of (by assumption) | exact Same.seq (by assumption) (by assumption))); (focus (exact rfl))) | (refine' ⟨_, _, rfl, _, _⟩; rotate_left 1; (focus (first | exact .inl (by assumption) | exact .inl (SqL.of (by assumption)) | exact .inr (by assumption) | exact .inr (SqT.of (by assumption)))))))
    refine ite2 (fun e => ?_) (fun e => ?_)
    · refine ⟨.ref p, rfl, p, x, y, 80, rfl, hp, hx, by decide, by decide, fun v x' y' h0 h1 h2 => ?_⟩
      exact q v x' y' _ h0 (by omega) h2 (keep_upd _ _ _) upd_same
    · (repeat (first | refine ⟨_, rfl, ?_⟩ | refine ⟨_, _, rfl, rfl, ?_⟩ | refine ⟨rfl, ?_⟩ | refine .inl ⟨_, rfl, ?_⟩ | refine .inr ⟨_, rfl, ?_⟩ | refine ⟨.inr ⟨by decide, by decide⟩, ?_⟩ | refine ⟨⟨by decide, by decide⟩, ?_⟩ | refine ⟨⟨by decide, by decide, by decide⟩, ?_⟩ | refine ⟨.inr ⟨by omega, by omega⟩, ?_⟩ | refine ⟨(by show (0 : Int) < _; first | decide | omega), ?_⟩ | refine ⟨Nat.le_trans (Nat.le_of_ble_eq_true rfl : _ ≤ 50) (by decide), ?_⟩ | refine ⟨_, _, _, _, rfl, rfl, upd_same, rfl, ?_⟩ | refine ⟨_, _, _, _, rfl, rfl, SqL.of upd_same, rfl, ?_⟩ | refine ⟨_, _, _, _, rfl, rfl, SqT.of upd_same, rfl, ?_⟩ | refine ⟨_, _, rfl, .inl (SqL.of upd_same), ?_⟩ | refine ⟨_, _, rfl, .inr (SqT.of upd_same), ?_⟩ | (refine' ⟨_, _, _, _, rfl, rfl, _, _, _⟩; rotate_left 2; (focus (first | assumption | exact SqL.of (by assumption) | exact SqT.of (by assumption) | exact Same.seq (by assumption) (by assumption))); (focus (exact rfl))) | (refine' ⟨_, _, rfl, _, _⟩; rotate_left 1; (focus (first | exact .inl (by assumption) | exact .inl (SqL.of (by assumption)) | exact .inr (by assumption) | exact .inr (SqT.of (by assumption)))))))
      refine ite2 (fun e => ?_) (fun e => ?_)
      · refine ⟨.ref p, rfl, p, x, y, 3, rfl, hp, hx, by decide, by decide, fun v x' y' h0 h1 h2 => ?_⟩
        (repeat (first | refine ⟨_, rfl, ?_⟩ | refine ⟨_, _, rfl, rfl, ?_⟩ | refine ⟨rfl, ?_⟩ | refine .inl ⟨_, rfl, ?_⟩ | refine .inr ⟨_, rfl, ?_⟩ | refine ⟨.inr ⟨by decide, by decide⟩, ?_⟩ | refine ⟨⟨by decide, by decide⟩, ?_⟩ | refine ⟨⟨by decide, by decide, by decide⟩, ?_⟩ | refine ⟨.inr ⟨by omega, by omega⟩, ?_⟩ | refine ⟨(by show (0 : Int) < _; first | decide | omega), ?_⟩ | refine ⟨Nat.le_trans (Nat.le_of_ble_eq_true rfl : _ ≤ 50) (by decide), ?_⟩ | refine ⟨_, _, _, _, rfl, rfl, upd_same, rfl, ?_⟩ | refine ⟨_, _, _, _, rfl, rfl, SqL.of upd_same, rfl, ?_⟩ | refine ⟨_, _, _, _, rfl, rfl, SqT.of upd_same, rfl, ?_⟩ | refine ⟨_, _, rfl, .inl (SqL.of upd_same), ?_⟩ | refine ⟨_, _, rfl, .inr (SqT.of upd_same), ?_⟩ | (refine' ⟨_, _, _, _, rfl, rfl, _, _, _⟩; rotate_left 2; (focus (first | assumption | exact SqL.of (by assumption) | exact SqT.of (by assumption) | exact Same.seq (by assumption) (by assumption))); (focus (exact rfl))) | (refine' ⟨_, _, rfl, _, _⟩; rotate_left 1; (focus (first | exact .inl (by assumption) | exact .inl (SqL.of (by assumption)) | exact .inr (by assumption) | exact .inr (SqT.of (by assumption)))))))
        refine ⟨p, x', y', 8, rfl, upd_same, h2, by decide, by decide, fun u x2 y2 g0 g1 g2 => ?_⟩
        (repeat (first | refine ⟨_, rfl, ?_⟩ | refine ⟨_, _, rfl, rfl, ?_⟩ | refine ⟨rfl, ?_⟩ | refine .inl ⟨_, rfl, ?_⟩ | refine .inr ⟨_, rfl, ?_⟩ | refine ⟨.inr ⟨by decide, by decide⟩, ?_⟩ | refine ⟨⟨by decide, by decide⟩, ?_⟩ | refine ⟨⟨by decide, by decide, by decide⟩, ?_⟩ | refine ⟨.inr ⟨by omega, by omega⟩, ?_⟩ | refine ⟨(by show (0 : Int) < _; first | decide | omega), ?_⟩ | refine ⟨Nat.le_trans (Nat.le_of_ble_eq_true rfl : _ ≤ 50) (by decide), ?_⟩ | refine ⟨_, _, _, _, rfl, rfl, upd_same, rfl, ?_⟩ | refine ⟨_, _, _, _, rfl, rfl, SqL.of upd_same, rfl, ?_⟩ | refine ⟨_, _, _, _, rfl, rfl, SqT.of upd_same, rfl, ?_⟩ | refine ⟨_, _, rfl, .inl (SqL.of upd_same), ?_⟩ | refine ⟨_, _, rfl, .inr (SqT.of upd_same), ?_⟩ | (refine' ⟨_, _, _, _, rfl, rfl, _, _, _⟩; rotate_left 2; (focus (first | assumption | exact SqL.of (by assumption) | exact SqT.of (by assumption) | exact Same.seq (by assumption) (by assumption))); (focus (exact rfl))) | (refine' ⟨_, _, rfl, _, _⟩; rotate_left 1; (focus (first | exact .inl (by assumption) | exact .inl (SqL.of (by assumption)) | exact .inr (by assumption) | exact .inr (SqT.of (by assumption)))))))
        exact q _ x2 y2 _ (by omega) (by omega) g2 ((keep_upd _ _ _).trans (keep_upd _ _ _)) upd_same
      · refine ⟨.ref p, rfl, p, x, y, 4096, rfl, hp, hx, by decide, by decide, fun v x' y' h0 h1 h2 => ?_⟩
        exact q v x' y' _ h0 (by omega) h2 (keep_upd _ _ _) upd_same
theorem ok_place (T : Tx w K mg) : FnOk P w K mg base CX0 2 T.a_law_place T.d_law_place ["source", "near"] (spAddr 20000) := by
  have G_law_draw : FnOk P w K mg base CX0 1 T.a_law_draw T.d_law_draw ["source", "many"] spDraw := ok_draw T
  refine T.F_law_place.ok sc_law_place (fun vs H Q E h => ?_) (fun cdv A outer s H vs Q E hr h => ?_)
  · obtain ⟨p, x, y, n, rfl, _⟩ := h
    rfl
  · obtain ⟨p, x, y, n, rfl, hp, hx, q⟩ := h
    have hr_law_draw : Room 1 _ := hr
    refine ⟨_, (pss_cons (ps_if (pt_cmpR op_eq (pv 1) pe_int (nomark _))
        (pss_one (ps_ret (pe_call G_law_draw hr_law_draw (by rfl) T.g_law_draw T.F_law_draw.kp T.b_law_draw .nil pass0 (pa_cons (pv 0) (pa_cons pe_int pa_nil)))))
        pss_nil)
        (pss_cons (ps_if (pt_cmpR op_eq (pv 1) pe_int (nomark _))
        (pss_one (ps_ret (pe_op op_add (pe_op op_mul (pe_call G_law_draw hr_law_draw (by rfl) T.g_law_draw T.F_law_draw.kp T.b_law_draw .nil pass0 (pa_cons (pv 0) (pa_cons pe_int pa_nil))) pe_int) pe_int)))
        pss_nil)
        (pss_one (ps_ret (pe_call G_law_draw hr_law_draw (by rfl) T.g_law_draw T.F_law_draw.kp T.b_law_draw .nil pass0 (pa_cons (pv 0) (pa_cons pe_int pa_nil))))))), ?_⟩
    (repeat (first | refine ⟨_, rfl, ?_⟩ | refine ⟨_, _, rfl, rfl, ?_⟩ | refine ⟨rfl, ?_⟩ | refine .inl ⟨_, rfl, ?_⟩ | refine .inr ⟨_, rfl, ?_⟩ | refine ⟨.inr ⟨by decide, by decide⟩, ?_⟩ | refine ⟨⟨by decide, by decide⟩, ?_⟩ | refine ⟨⟨by decide, by decide, by decide⟩, ?_⟩ | refine ⟨.inr ⟨by omega, by omega⟩, ?_⟩ | refine ⟨(by show (0 : Int) < _; first | decide | omega), ?_⟩ | refine ⟨Nat.le_trans (Nat.le_of_ble_eq_true rfl : _ ≤ 50) (by decide), ?_⟩ | refine ⟨_, _, _, _, rfl, rfl, upd_same, rfl, ?_⟩ | refine ⟨_, _, _, _, rfl, rfl, SqL.of upd_same, rfl, ?_⟩ | refine ⟨_, _, _, _, rfl, rfl, SqT.of upd_same, rfl, ?_⟩ | refine ⟨_, _, rfl, .inl (SqL.of upd_same), ?_⟩ | refine ⟨_, _, rfl, .inr (SqT.of upd_same), ?_⟩ | (refine' ⟨_, _, _, _, rfl, rfl, _, _, _⟩; rotate_left 2; (focus (first | assumption | exact SqL.of (by assumption) | exact SqT.of (by assumption) | exact Same.seq (by assumption) (by assumption))); (focus (exact rfl))) | (refine' ⟨_, _, rfl, _, _⟩; rotate_left 1; (focus (first | exact .inl (by assumption) | exact .inl (SqL.of (by assumption)) | exact .inr (by assumption) | exact .inr (SqT.of (by assumption)))))))
    refine ite2 (fun e => ?_) (fun e => ?_)
    · refine ⟨.ref p, rfl, p, x, y, 40, rfl, hp, hx, by decide, by decide, fun v x' y' h0 h1 h2 => ?_⟩
      exact q v x' y' _ h0 (by omega) h2 (keep_upd _ _ _) upd_same
    · (repeat (first | refine ⟨_, rfl, ?_⟩ | refine ⟨_, _, rfl, rfl, ?_⟩ | refine ⟨rfl, ?_⟩ | refine .inl ⟨_, rfl, ?_⟩ | refine .inr ⟨_, rfl, ?_⟩ | refine ⟨.inr ⟨by decide, by decide⟩, ?_⟩ | refine ⟨⟨by decide, by decide⟩, ?_⟩ | refine ⟨⟨by decide, by decide, by decide⟩, ?_⟩ | refine ⟨.inr ⟨by omega, by omega⟩, ?_⟩ | refine ⟨(by show (0 : Int) < _; first | decide | omega), ?_⟩ | refine ⟨Nat.le_trans (Nat.le_of_ble_eq_true rfl : _ ≤ 50) (by decide), ?_⟩ | refine ⟨_, _, _, _, rfl, rfl, upd_same, rfl, ?_⟩ | refine ⟨_, _, _, _, rfl, rfl, SqL.of upd_same, rfl, ?_⟩ | refine ⟨_, _, _, _, rfl, rfl, SqT.of upd_same, rfl, ?_⟩ | refine ⟨_, _, rfl, .inl (SqL.of upd_same), ?_⟩ | refine ⟨_, _, rfl, .inr (SqT.of upd_same), ?_⟩ | (refine' ⟨_, _, _, _, rfl, rfl, _, _, _⟩; rotate_left 2; (focus (first | assumption | exact SqL.of (by assumption) | exact SqT.of (by assumption) | exact Same.seq (by assumption) (by assumption))); (focus (exact rfl))) | (refine' ⟨_, _, rfl, _, _⟩; rotate_left 1; (focus (first | exact .inl (by assumption) | exact .inl (SqL.of (by assumption)) | exact .inr (by assumption) | exact .inr (SqT.of (by assumption)))))))
      refine ite2 (fun e => ?_) (fun e => ?_)
      · refine ⟨.ref p, rfl, p, x, y, 4, rfl, hp, hx, by decide, by decide, fun v x' y' h0 h1 h2 => ?_⟩
        (repeat (first | refine ⟨_, rfl, ?_⟩ | refine ⟨_, _, rfl, rfl, ?_⟩ | refine ⟨rfl, ?_⟩ | refine .inl ⟨_, rfl, ?_⟩ | refine .inr ⟨_, rfl, ?_⟩ | refine ⟨.inr ⟨by decide, by decide⟩, ?_⟩ | refine ⟨⟨by decide, by decide⟩, ?_⟩ | refine ⟨⟨by decide, by decide, by decide⟩, ?_⟩ | refine ⟨.inr ⟨by omega, by omega⟩, ?_⟩ | refine ⟨(by show (0 : Int) < _; first | decide | omega), ?_⟩ | refine ⟨Nat.le_trans (Nat.le_of_ble_eq_true rfl : _ ≤ 50) (by decide), ?_⟩ | refine ⟨_, _, _, _, rfl, rfl, upd_same, rfl, ?_⟩ | refine ⟨_, _, _, _, rfl, rfl, SqL.of upd_same, rfl, ?_⟩ | refine ⟨_, _, _, _, rfl, rfl, SqT.of upd_same, rfl, ?_⟩ | refine ⟨_, _, rfl, .inl (SqL.of upd_same), ?_⟩ | refine ⟨_, _, rfl, .inr (SqT.of upd_same), ?_⟩ | (refine' ⟨_, _, _, _, rfl, rfl, _, _, _⟩; rotate_left 2; (focus (first | assumption | exact SqL.of (by assumption) | exact SqT.of (by assumption) | exact Same.seq (by assumption) (by assumption))); (focus (exact rfl))) | (refine' ⟨_, _, rfl, _, _⟩; rotate_left 1; (focus (first | exact .inl (by assumption) | exact .inl (SqL.of (by assumption)) | exact .inr (by assumption) | exact .inr (SqT.of (by assumption)))))))
        exact q _ x' y' _ (by omega) (by omega) h2 (keep_upd _ _ _) upd_same
      · refine ⟨.ref p, rfl, p, x, y, 20000, rfl, hp, hx, by decide, by decide, fun v x' y' h0 h1 h2 => ?_⟩
        exact q v x' y' _ h0 (by omega) h2 (keep_upd _ _ _) upd_same
end
end K30

set_option Elab.async false
set_option linter.all false
set_option maxRecDepth 100000
set_option maxHeartbeats 8000000
namespace K30
open PySem PySem.Spec PyProof.Rows L2 QX Lw
def sel {α : Type} (a b : α) : Nat → α
  | 0 => a
  | _ => b
def set2 {α : Type} (f : Nat → α) (i : Nat) (v : α) : Nat → α := fun j => if j = i then v else f j
/-- all objects of the law that stay -/
def LL (p : Addr) (x y : Int) (c b dc q m dq la lj : Nat → Addr) (lc lp lA lJ C1 C2 : Addr) (as : Nat → List Int) (ts : Nat → List (Addr × Int × Bool)) : List (Addr × HO) :=
  [(lJ, .lst [.ref (lj 0), .ref (lj 1)]), (lj 1, .lst (rfs (ts 1))), (lj 0, .lst (rfs (ts 0))), (lA, .lst [.ref (la 0), .ref (la 1)]), (la 1, .lst ((as 1).map V.int)), (la 0, .lst ((as 0).map V.int)), (lp, .lst [.ref (q 0), .ref (q 1)]),
   (m 1, .lst ((marks (jss (ts 1))).map V.int)), (q 1, .ins C2 (dq 1) [("marks", .ref (m 1))]), (m 0, .lst ((marks (jss (ts 0))).map V.int)), (q 0, .ins C2 (dq 0) [("marks", .ref (m 0))]), (lc, .lst [.ref (c 0), .ref (c 1)]),
   (b 1, .lst ((blocks (as 1)).map V.int)), (c 1, .ins C1 (dc 1) [("blocks", .ref (b 1))]), (b 0, .lst ((blocks (as 0)).map V.int)), (c 0, .ins C1 (dc 0) [("blocks", .ref (b 0))]), (p, .lst [.int x, .int y])]
theorem Laid.keep {H H' : Hp} {ts : List (Addr × Int × Bool)} {a : Addr} {zs : List V} (h : Laid H ts) (e : H a = some (.lst zs)) (k : Keep H H' a) : Laid H' ts := fun t ht => k _ _ (fun z => by
  have := h t ht
  rw [z, e] at this
  cases this) (h t ht)
theorem Laid.same {H H' : Hp} {ts : List (Addr × Int × Bool)} (h : Laid H ts) (s : Same H H') : Laid H' ts := fun t ht => s _ _ (h t ht)
section
variable {H0 H H' : Hp} {p : Addr} {c b dc q m dq la lj : Nat → Addr} {lc lp lA lJ C1 C2 : Addr} {as : Nat → List Int} {ts : Nat → List (Addr × Int × Bool)}
/-- without the cell -/
def Gd (H0 H : Hp) (p : Addr) (c b dc q m dq la lj : Nat → Addr) (lc lp lA lJ C1 C2 : Addr) (as : Nat → List Int) (ts : Nat → List (Addr × Int × Bool)) : Prop :=
  ∃ x y, 0 ≤ x ∧ Objs H0 H (LL p x y c b dc q m dq la lj lc lp lA lJ C1 C2 as ts) ∧ ∀ i, Laid H (ts i)
/-- with the cell at p2 -/
def Ge (p2 : Addr) (H0 H : Hp) (p : Addr) (c b dc q m dq la lj : Nat → Addr) (lc lp lA lJ C1 C2 : Addr) (as : Nat → List Int) (ts : Nat → List (Addr × Int × Bool)) : Prop :=
  ∃ x2 y2 x y, 0 ≤ x2 ∧ 0 ≤ x ∧ Objs H0 H ((p2, .lst [.int x2, .int y2]) :: LL p x y c b dc q m dq la lj lc lp lA lJ C1 C2 as ts) ∧ ∀ i, Laid H (ts i)
theorem Ge.mono {p2 : Addr} (g : Ge p2 H0 H p c b dc q m dq la lj lc lp lA lJ C1 C2 as ts) (s : Same H H') : Ge p2 H0 H' p c b dc q m dq la lj lc lp lA lJ C1 C2 as ts :=
  let ⟨x2, y2, x, y, h1, h2, h3, h4⟩ := g; ⟨x2, y2, x, y, h1, h2, h3.mono s, fun i => (h4 i).same s⟩
theorem Ge.drop {p2 : Addr} (g : Ge p2 H0 H p c b dc q m dq la lj lc lp lA lJ C1 C2 as ts) : Gd H0 H p c b dc q m dq la lj lc lp lA lJ C1 C2 as ts :=
  let ⟨_, _, x, y, _, h2, h3, h4⟩ := g; ⟨x, y, h2, h3.sub (List.sublist_cons_self _ _), h4⟩
theorem Gd.more {p2 : Addr} {x2 y2 : Int} (g : Gd H0 H p c b dc q m dq la lj lc lp lA lJ C1 C2 as ts) (h : 0 ≤ x2) (n : H p2 = none) : Ge p2 H0 (upd H p2 (.lst [.int x2, .int y2])) p c b dc q m dq la lj lc lp lA lJ C1 C2 as ts :=
  let ⟨x, y, h2, h3, h4⟩ := g; ⟨x2, y2, x, y, h, h2, h3.add n, fun i => (h4 i).same (same_upd n)⟩
theorem Ge.cell {p2 pc : Addr} (g : Ge p2 H0 H p c b dc q m dq la lj lc lp lA lJ C1 C2 as ts) (hc : pc = p2 ∨ pc = p) : ∃ x y, 0 ≤ x ∧ H pc = some (.lst [.int x, .int y]) := by
  obtain ⟨x2, y2, x, y, h1, h2, h3, h4⟩ := g
  rcases hc with rfl | rfl
  · exact ⟨x2, y2, h1, h3.get 0 rfl⟩
  · exact ⟨x, y, h2, h3.get 17 rfl⟩
theorem Ge.draw {p2 pc : Addr} {x' y' : Int} (g : Ge p2 H0 H p c b dc q m dq la lj lc lp lA lJ C1 C2 as ts) (hc : pc = p2 ∨ pc = p) (k : Keep H H' pc) (e : H' pc = some (.lst [.int x', .int y'])) (hx : 0 ≤ x') : Ge p2 H0 H' p c b dc q m dq la lj lc lp lA lJ C1 C2 as ts := by
  obtain ⟨x2, y2, x, y, h1, h2, h3, h4⟩ := g
  rcases hc with rfl | rfl
  · exact ⟨x', y', x, y, hx, h2, h3.set 0 rfl k e, fun i => (h4 i).keep (h3.get 0 rfl) k⟩
  · exact ⟨x2, y2, x', y', h1, hx, h3.set 17 rfl k e, fun i => (h4 i).keep (h3.get 17 rfl) k⟩
theorem Ge.acc {p2 : Addr} {i : Nat} {a : Int} (hi : i = 0 ∨ i = 1) (g : Ge p2 H0 H p c b dc q m dq la lj lc lp lA lJ C1 C2 as ts) (k : Keep H H' (b i)) (e : H' (b i) = some (.lst ((blocks (as i ++ [a])).map V.int))) :
    H' lA = some (.lst [.ref (la 0), .ref (la 1)]) ∧ H' (la i) = some (.lst ((as i).map V.int)) ∧ Ge p2 H0 (upd H' (la i) (.lst ((as i).map V.int ++ [.int a]))) p c b dc q m dq la lj lc lp lA lJ C1 C2 (set2 as i (as i ++ [a])) ts := by
  obtain ⟨x2, y2, x, y, h1, h2, h3, h4⟩ := g
  rcases hi with rfl | rfl
  · have o1 := h3.set 15 rfl k e
    have o2 := o1.put (o' := .lst ((as 0 ++ [a]).map V.int)) 6 rfl
    have e2 : (as 0).map V.int ++ [V.int a] = (as 0 ++ [a]).map V.int := by simp
    have l1 : ∀ i, Laid H' (ts i) := fun i => (h4 i).keep (h3.get 15 rfl) k
    rw [e2]
    exact ⟨o1.get 4 rfl, o1.get 6 rfl, x2, y2, x, y, h1, h2, o2, fun i => (l1 i).keep (o1.get 6 rfl) (keep_upd _ _ _)⟩
  · have o1 := h3.set 13 rfl k e
    have o2 := o1.put (o' := .lst ((as 1 ++ [a]).map V.int)) 5 rfl
    have e2 : (as 1).map V.int ++ [V.int a] = (as 1 ++ [a]).map V.int := by simp
    have l1 : ∀ i, Laid H' (ts i) := fun i => (h4 i).keep (h3.get 13 rfl) k
    rw [e2]
    exact ⟨o1.get 4 rfl, o1.get 5 rfl, x2, y2, x, y, h1, h2, o2, fun i => (l1 i).keep (o1.get 5 rfl) (keep_upd _ _ _)⟩
theorem Ge.braL {p2 : Addr} {i : Nat} {a : Int} {j : Bool} (hi : i = 0 ∨ i = 1) (g : Ge p2 H0 H p c b dc q m dq la lj lc lp lA lJ C1 C2 as ts) (k : Keep H H' (m i)) (e : H' (m i) = some (.lst ((marks (jss (ts i) ++ [(a, j)])).map V.int))) :
    H' lJ = some (.lst [.ref (lj 0), .ref (lj 1)]) ∧ H' (lj i) = some (.lst (rfs (ts i))) := by
  obtain ⟨x2, y2, x, y, h1, h2, h3, h4⟩ := g
  rcases hi with rfl | rfl
  · have o1 := h3.set 10 rfl k e
    exact ⟨o1.get 1 rfl, o1.get 3 rfl⟩
  · have o1 := h3.set 8 rfl k e
    exact ⟨o1.get 1 rfl, o1.get 2 rfl⟩
theorem Ge.bra {p2 tp : Addr} {i : Nat} {a : Int} {j : Bool} (hi : i = 0 ∨ i = 1) (g : Ge p2 H0 H p c b dc q m dq la lj lc lp lA lJ C1 C2 as ts) (k : Keep H H' (m i)) (e : H' (m i) = some (.lst ((marks (jss (ts i) ++ [(a, j)])).map V.int))) (nt : H' tp = none) :
    H' lJ = some (.lst [.ref (lj 0), .ref (lj 1)]) ∧ H' (lj i) = some (.lst (rfs (ts i))) ∧ Ge p2 H0 (upd (upd H' tp (.tup [.int a, .bl j])) (lj i) (.lst (rfs (ts i) ++ [.ref tp]))) p c b dc q m dq la lj lc lp lA lJ C1 C2 as (set2 ts i (ts i ++ [(tp, a, j)])) := by
  obtain ⟨x2, y2, x, y, h1, h2, h3, h4⟩ := g
  have e2 : rfs (ts i) ++ [V.ref tp] = rfs (ts i ++ [(tp, a, j)]) := by simp [rfs]
  have e3 : jss (ts i) ++ [(a, j)] = jss (ts i ++ [(tp, a, j)]) := by simp [jss]
  rw [e3] at e
  rw [e2]
  rcases hi with rfl | rfl
  · have o1 := h3.set 10 rfl k e
    have o2 := o1.skip (o := .tup [.int a, .bl j]) nt
    have o3 := o2.put (o' := .lst (rfs (ts 0 ++ [(tp, a, j)]))) 3 rfl
    have l1 : ∀ i, Laid H' (ts i) := fun i => (h4 i).keep (h3.get 10 rfl) k
    have l2 : ∀ i, Laid (upd H' tp (.tup [.int a, .bl j])) (ts i) := fun i => (l1 i).same (same_upd nt)
    have l4 : Laid (upd H' tp (.tup [.int a, .bl j])) (ts 0 ++ [(tp, a, j)]) := fun t ht => by
      rcases List.mem_append.mp ht with z | z
      · exact l2 0 t z
      · rw [List.mem_singleton.mp z]
        exact upd_same
    refine ⟨o1.get 1 rfl, o1.get 3 rfl, x2, y2, x, y, h1, h2, o3, fun i => ?_⟩
    refine Laid.keep ?_ (o2.get 3 rfl) (keep_upd _ _ _)
    unfold set2
    split
    · exact l4
    · exact l2 i
  · have o1 := h3.set 8 rfl k e
    have o2 := o1.skip (o := .tup [.int a, .bl j]) nt
    have o3 := o2.put (o' := .lst (rfs (ts 1 ++ [(tp, a, j)]))) 2 rfl
    have l1 : ∀ i, Laid H' (ts i) := fun i => (h4 i).keep (h3.get 8 rfl) k
    have l2 : ∀ i, Laid (upd H' tp (.tup [.int a, .bl j])) (ts i) := fun i => (l1 i).same (same_upd nt)
    have l4 : Laid (upd H' tp (.tup [.int a, .bl j])) (ts 1 ++ [(tp, a, j)]) := fun t ht => by
      rcases List.mem_append.mp ht with z | z
      · exact l2 1 t z
      · rw [List.mem_singleton.mp z]
        exact upd_same
    refine ⟨o1.get 1 rfl, o1.get 2 rfl, x2, y2, x, y, h1, h2, o3, fun i => ?_⟩
    refine Laid.keep ?_ (o2.get 2 rfl) (keep_upd _ _ _)
    unfold set2
    split
    · exact l4
    · exact l2 i
end
theorem Ge_facts {H0 H : Hp} {p p2 : Addr} {c b dc q m dq la lj : Nat → Addr} {lc lp lA lJ C1 C2 : Addr} {as : Nat → List Int} {ts : Nat → List (Addr × Int × Bool)} {i : Nat} (hi : i = 0 ∨ i = 1) (g : Ge p2 H0 H p c b dc q m dq la lj lc lp lA lJ C1 C2 as ts) :
    Same H0 H ∧ H lc = some (.lst [.ref (c 0), .ref (c 1)]) ∧ H lp = some (.lst [.ref (q 0), .ref (q 1)]) ∧ H lA = some (.lst [.ref (la 0), .ref (la 1)]) ∧ H lJ = some (.lst [.ref (lj 0), .ref (lj 1)]) ∧
    H (c i) = some (.ins C1 (dc i) [("blocks", .ref (b i))]) ∧ H (b i) = some (.lst ((blocks (as i)).map V.int)) ∧ H (q i) = some (.ins C2 (dq i) [("marks", .ref (m i))]) ∧ H (m i) = some (.lst ((marks (jss (ts i))).map V.int)) ∧
    H (la i) = some (.lst ((as i).map V.int)) ∧ H (lj i) = some (.lst (rfs (ts i))) ∧ Laid H (ts i) := by
  obtain ⟨x2, y2, x, y, h1, h2, h3, h4⟩ := g
  rcases hi with rfl | rfl
  · exact ⟨h3.same, h3.get 12 rfl, h3.get 7 rfl, h3.get 4 rfl, h3.get 1 rfl, h3.get 16 rfl, h3.get 15 rfl, h3.get 11 rfl, h3.get 10 rfl, h3.get 6 rfl, h3.get 3 rfl, h4 0⟩
  · exact ⟨h3.same, h3.get 12 rfl, h3.get 7 rfl, h3.get 4 rfl, h3.get 1 rfl, h3.get 14 rfl, h3.get 13 rfl, h3.get 9 rfl, h3.get 8 rfl, h3.get 5 rfl, h3.get 2 rfl, h4 1⟩
theorem at2 {a b : V} {i : Nat} (hi : i = 0 ∨ i = 1) {f : Nat → V} (h0 : f 0 = a) (h1 : f 1 = b) : atI [a, b] (i : Int) = some (f i) := by
  rcases hi with rfl | rfl
  · rw [h0]; rfl
  · rw [h1]; rfl
theorem at2z {a b : V} {i : Nat} (hi : i = 0 ∨ i = 1) {f : Nat → V} (h0 : f 0 = a) (h1 : f 1 = b) : atI [a, b] (0 + (i : Int)) = some (f i) := by
  rw [Int.zero_add]
  exact at2 hi h0 h1
def spLaw (K : PySem.W.Frag) : Sp := fun vs H Q _ => ∃ (a : Addr) (ns : List Int), vs = [.ref a] ∧ SqL K H a (ns.map V.int) ∧ ns.length ≤ 63 ∧ ∀ H', Q (.bl true) H'
section
variable {P : Program} {w : World} {K : PySem.W.Frag} {mg : Str → Option Value} {base : Heap}
theorem ok_law' (T : Tx w K mg) {f : Addr} {fd : FuncData} (F : Fun K "law" "law" s_law f fd) : FnOk P w K mg base CX0 4 f fd ["script"] (spLaw K) := by
  have G_law_source : FnOk P w K mg base CX0 1 T.a_law_source T.d_law_source ["script", "k"] (spSource K) := ok_source T
  have G_law_draw : FnOk P w K mg base CX0 1 T.a_law_draw T.d_law_draw ["source", "many"] spDraw := ok_draw T
  have G_law_base_holds : FnOk P w K mg base CX0 2 T.a_law_base_holds T.d_law_base_holds [] spBaseHolds := ok_baseholds T
  have G_Cache_init : FnOk P w K mg base CX0 1 T.a_Cache_init T.d_Cache_init ["self"] (spCInit T.c_Cache) := ok_cinit T
  have G_Predictor_init : FnOk P w K mg base CX0 1 T.a_Predictor_init T.d_Predictor_init ["self"] (spPInit T.c_Predictor) := ok_pinit T
  have G_law_address : FnOk P w K mg base CX0 2 T.a_law_address T.d_law_address ["source", "near"] (spAddr 4096) := ok_address T
  have G_law_place : FnOk P w K mg base CX0 2 T.a_law_place T.d_law_place ["source", "near"] (spAddr 20000) := ok_place T
  have G_law_access_holds : FnOk P w K mg base CX0 2 T.a_law_access_holds T.d_law_access_holds ["cache", "addresses", "address"] (spAccHolds T.c_Cache) := ok_accholds T
  have G_law_branch_holds : FnOk P w K mg base CX0 2 T.a_law_branch_holds T.d_law_branch_holds ["predictor", "jumps", "place", "jumped"] (spBrHolds T.c_Predictor) := ok_brholds T
  have G_law_state_holds : FnOk P w K mg base CX0 3 T.a_law_state_holds T.d_law_state_holds ["cache", "addresses", "predictor", "jumps"] (spStHolds T.c_Cache T.c_Predictor) := ok_stholds T
  refine F.ok sc_law (fun vs H Q E h => ?_) (fun cdv A outer s H vs Q E hr h => ?_)
  · obtain ⟨a, ns, rfl, _⟩ := h
    rfl
  · obtain ⟨g, ns, rfl, hS, hlen, q⟩ := h
    have hr_law_source : Room 1 _ := hr.mono (by decide)
    have hr_law_draw : Room 1 _ := hr.mono (by decide)
    have hr_law_base_holds : Room 2 _ := hr.mono (by decide)
    have hr_Cache_init : Room 2 _ := hr.mono (by decide)
    have hr_Predictor_init : Room 2 _ := hr.mono (by decide)
    have hr_law_address : Room 2 _ := hr.mono (by decide)
    have hr_law_place : Room 2 _ := hr.mono (by decide)
    have hr_law_access_holds : Room 2 _ := hr.mono (by decide)
    have hr_law_branch_holds : Room 2 _ := hr.mono (by decide)
    have hr_law_state_holds : Room 3 _ := hr
    refine ⟨_, (pss_cons (ps_if (pt_not (pt_val (pe_call0 G_law_base_holds hr_law_base_holds (by rfl) T.g_law_base_holds T.F_law_base_holds.kp T.b_law_base_holds .nil pass0)))
        (pss_one (ps_ret pe_bl))
        pss_nil)
        (pss_cons (ps_set (i := 1) sc_law.nd rfl (.inl rfl) (pe_call G_law_source hr_law_source (by rfl) T.g_law_source T.F_law_source.kp T.b_law_source .nil pass0 (pa_cons (pv 0) (pa_cons pe_int pa_nil))))
        (pss_cons (ps_set (i := 2) sc_law.nd rfl (.inl rfl) (pe_call G_law_draw hr_law_draw (by rfl) T.g_law_draw T.F_law_draw.kp T.b_law_draw .nil pass0 (pa_cons (pv 1) (pa_cons pe_int pa_nil))))
        (pss_cons (ps_set (i := 3) sc_law.nd rfl (.inl rfl) (pe_cmpR op_eq (pe_call G_law_draw hr_law_draw (by rfl) T.g_law_draw T.F_law_draw.kp T.b_law_draw .nil pass0 (pa_cons (pv 1) (pa_cons pe_int pa_nil))) pe_int (nomark _)))
        (pss_cons (ps_set (i := 4) sc_law.nd rfl (.inl rfl) (pe_call G_law_draw hr_law_draw (by rfl) T.g_law_draw T.F_law_draw.kp T.b_law_draw .nil pass0 (pa_cons (pv 1) (pa_cons pe_int pa_nil))))
        (pss_cons (ps_set (i := 5) sc_law.nd rfl (.inl rfl) (pe_lst (pa_cons (pe_make0 T.mk_Cache G_Cache_init hr_Cache_init (by rfl) T.g_Cache T.b_Cache_init .nil pass0) (pa_cons (pe_make0 T.mk_Cache G_Cache_init hr_Cache_init (by rfl) T.g_Cache T.b_Cache_init .nil pass0) pa_nil))))
        (pss_cons (ps_set (i := 6) sc_law.nd rfl (.inl rfl) (pe_lst (pa_cons (pe_make0 T.mk_Predictor G_Predictor_init hr_Predictor_init (by rfl) T.g_Predictor T.b_Predictor_init .nil pass0) (pa_cons (pe_make0 T.mk_Predictor G_Predictor_init hr_Predictor_init (by rfl) T.g_Predictor T.b_Predictor_init .nil pass0) pa_nil))))
        (pss_cons (ps_set (i := 7) sc_law.nd rfl (.inl rfl) (pe_lst (pa_cons (pe_lst pa_nil) (pa_cons (pe_lst pa_nil) pa_nil))))
        (pss_cons (ps_set (i := 8) sc_law.nd rfl (.inl rfl) (pe_lst (pa_cons (pe_lst pa_nil) (pa_cons (pe_lst pa_nil) pa_nil))))
        (pss_cons (ps_set (i := 9) sc_law.nd rfl (.inl rfl) (pe_op op_add pe_int (pe_call G_law_draw hr_law_draw (by rfl) T.g_law_draw T.F_law_draw.kp T.b_law_draw .nil pass0 (pa_cons (pv 1) (pa_cons pe_int pa_nil)))))
        (pss_cons (ps_for PassesOwn.never rfl (pi_range1 rfl T.z_range (pa_cons (pv 9) pa_nil)) (pg_name (i := 10) sc_law.nd rfl (.inl rfl))
        (pss_cons (ps_set (i := 11) sc_law.nd rfl (.inl rfl) (pe_call G_law_source hr_law_source (by rfl) T.g_law_source T.F_law_source.kp T.b_law_source .nil pass0 (pa_cons (pv 0) (pa_cons (pe_op op_add pe_int (pe_op op_mod (pv 10) pe_int)) pa_nil))))
        (C8.pss_cut (ps_if (pt_cmpR op_ge (pv 10) pe_int (nomark _))
        (pss_one (ps_set (i := 11) sc_law.nd rfl (.inl rfl) (pv 1)))
        pss_nil)
        (pss_cons (ps_set (i := 12) sc_law.nd rfl (.inl rfl) (pe_call G_law_draw hr_law_draw (by rfl) T.g_law_draw T.F_law_draw.kp T.b_law_draw .nil pass0 (pa_cons (pv 11) (pa_cons pe_int pa_nil))))
        (C8.pss_cut (ps_if (pt_cmpR op_eq (pe_call G_law_draw hr_law_draw (by rfl) T.g_law_draw T.F_law_draw.kp T.b_law_draw .nil pass0 (pa_cons (pv 11) (pa_cons pe_int pa_nil))) pe_int (nomark _))
        (pss_cons (ps_set (i := 13) sc_law.nd rfl (.inl rfl) (pe_call G_law_address hr_law_address (by rfl) T.g_law_address T.F_law_address.kp T.b_law_address .nil pass0 (pa_cons (pv 11) (pa_cons (pv 2) pa_nil))))
        (pss_cons (ps_if (pt_not (pt_val (pe_call G_law_access_holds hr_law_access_holds (by rfl) T.g_law_access_holds T.F_law_access_holds.kp T.b_law_access_holds .nil pass0 (pa_cons (pe_ix ix_list (pv 5) (pv 12) (fun _ _ => rfl)) (pa_cons (pe_ix ix_list (pv 7) (pv 12) (fun _ _ => rfl)) (pa_cons (pv 13) pa_nil))))))
        (pss_one (ps_ret pe_bl))
        pss_nil)
        (pss_one (ps_expr (pe_bm PySem.F.plainAttrs_list PySem.F.slot_list_append PySem.F.type_list_append mt_append (pe_ix ix_list (pv 7) (pv 12) (fun _ _ => rfl)) (pa_cons (pv 13) pa_nil))))))
        (pss_cons (ps_set (i := 14) sc_law.nd rfl (.inl rfl) (pe_call G_law_place hr_law_place (by rfl) T.g_law_place T.F_law_place.kp T.b_law_place .nil pass0 (pa_cons (pv 11) (pa_cons (pv 2) pa_nil))))
        (pss_cons (ps_set (i := 15) sc_law.nd rfl (.inl rfl) (pe_cmpR op_eq (pe_call G_law_draw hr_law_draw (by rfl) T.g_law_draw T.F_law_draw.kp T.b_law_draw .nil pass0 (pa_cons (pv 11) (pa_cons pe_int pa_nil))) pe_int (nomark _)))
        (C8.pss_cut (ps_if (PW.pt (pw_and (pt_cmpR op_lt (pv 2) pe_int (nomark _)) (pw_and1 (pt_cmpR op_gt (pe_call G_law_draw hr_law_draw (by rfl) T.g_law_draw T.F_law_draw.kp T.b_law_draw .nil pass0 (pa_cons (pv 11) (pa_cons pe_int pa_nil))) pe_int (nomark _)))))
        (pss_one (ps_set (i := 15) sc_law.nd rfl (.inl rfl) (pv 3)))
        pss_nil)
        (pss_cons (ps_if (pt_not (pt_val (pe_call G_law_branch_holds hr_law_branch_holds (by rfl) T.g_law_branch_holds T.F_law_branch_holds.kp T.b_law_branch_holds .nil pass0 (pa_cons (pe_ix ix_list (pv 6) (pv 12) (fun _ _ => rfl)) (pa_cons (pe_ix ix_list (pv 8) (pv 12) (fun _ _ => rfl)) (pa_cons (pv 14) (pa_cons (pv 15) pa_nil)))))))
        (pss_one (ps_ret pe_bl))
        pss_nil)
        (pss_one (ps_expr (pe_bm PySem.F.plainAttrs_list PySem.F.slot_list_append PySem.F.type_list_append mt_append (pe_ix ix_list (pv 8) (pv 12) (fun _ _ => rfl)) (pa_cons (pe_tup (pa_cons (pv 14) (pa_cons (pv 15) pa_nil))) pa_nil)))))))))
        (pss_one (ps_if (PW.pt (pw_or (PW.pt (pw_and (pt_cmpR op_eq (pv 4) pe_int (nomark _)) (pw_and1 (pt_cmpR op_lt (pv 10) pe_int (nomark _))))) (pw_or1 (pt_cmpR op_eq (pv 10) (pe_op op_sub (pv 9) pe_int) (nomark _)))))
        (pss_one (ps_for PassesOwn.never rfl (pi_range1 rfl T.z_range (pa_cons pe_int pa_nil)) (pg_name (i := 16) sc_law.nd rfl (.inl rfl))
        (pss_one (ps_if (pt_not (pt_val (pe_call G_law_state_holds hr_law_state_holds (by rfl) T.g_law_state_holds T.F_law_state_holds.kp T.b_law_state_holds .nil pass0 (pa_cons (pe_ix ix_list (pv 5) (pv 16) (fun _ _ => rfl)) (pa_cons (pe_ix ix_list (pv 7) (pv 16) (fun _ _ => rfl)) (pa_cons (pe_ix ix_list (pv 6) (pv 16) (fun _ _ => rfl)) (pa_cons (pe_ix ix_list (pv 8) (pv 16) (fun _ _ => rfl)) pa_nil)))))))
        (pss_one (ps_ret pe_bl))
        pss_nil))))
        pss_nil)))))))
        (pss_one (ps_ret pe_bl))))))))))))), ?_⟩
    refine ⟨rfl, fun H1 s1 => ?_⟩
    have O0 := (Objs.nil H).mono s1
    clear s1
    (repeat (first | refine ⟨_, rfl, ?_⟩ | refine ⟨_, _, rfl, rfl, ?_⟩ | refine ⟨rfl, ?_⟩ | refine .inl ⟨_, rfl, ?_⟩ | refine .inr ⟨_, rfl, ?_⟩ | refine ⟨.inr ⟨by decide, by decide⟩, ?_⟩ | refine ⟨⟨by decide, by decide⟩, ?_⟩ | refine ⟨⟨by decide, by decide, by decide⟩, ?_⟩ | refine ⟨.inr ⟨by omega, by omega⟩, ?_⟩ | refine ⟨(by show (0 : Int) < _; first | decide | omega), ?_⟩ | refine ⟨Nat.le_trans (Nat.le_of_ble_eq_true rfl : _ ≤ 50) (by decide), ?_⟩ | refine ⟨_, _, _, _, rfl, rfl, upd_same, rfl, ?_⟩ | refine ⟨_, _, _, _, rfl, rfl, SqL.of upd_same, rfl, ?_⟩ | refine ⟨_, _, _, _, rfl, rfl, SqT.of upd_same, rfl, ?_⟩ | refine ⟨_, _, rfl, .inl (SqL.of upd_same), ?_⟩ | refine ⟨_, _, rfl, .inr (SqT.of upd_same), ?_⟩ | (refine' ⟨_, _, _, _, rfl, rfl, _, _, _⟩; rotate_left 2; (focus (first | assumption | exact SqL.of (by assumption) | exact SqT.of (by assumption) | exact Same.seq (by assumption) (by assumption))); (focus (exact rfl))) | (refine' ⟨_, _, rfl, _, _⟩; rotate_left 1; (focus (first | exact .inl (by assumption) | exact .inl (SqL.of (by assumption)) | exact .inr (by assumption) | exact .inr (SqT.of (by assumption)))))))
    refine ⟨g, ns, 0, rfl, O0.same.seq hS, hlen, by decide, fun p x y np hx => ?_⟩
    have O1 := O0.add (o := .lst [.int x, .int y]) np
    clear O0 np
    refine ⟨_, rfl, p, x, y, 4, rfl, O1.get 0 rfl, hx, by decide, by decide, fun near z1 w1 n0 n1 hx1 => ?_⟩
    have O2 := O1.put (o' := .lst [.int z1, .int w1]) 0 rfl
    clear O1 hx
    generalize upd _ p _ = Ha at O2 ⊢
    refine ⟨_, rfl, p, z1, w1, 2, rfl, O2.get 0 rfl, hx1, by decide, by decide, fun us z2 w2 u0 u1 hx2 => ?_⟩
    have O3 := O2.put (o' := .lst [.int z2, .int w2]) 0 rfl
    clear O2 hx1
    generalize upd _ p _ = Hb at O3 ⊢
    (repeat (first | refine ⟨_, rfl, ?_⟩ | refine ⟨_, _, rfl, rfl, ?_⟩ | refine ⟨rfl, ?_⟩ | refine .inl ⟨_, rfl, ?_⟩ | refine .inr ⟨_, rfl, ?_⟩ | refine ⟨.inr ⟨by decide, by decide⟩, ?_⟩ | refine ⟨⟨by decide, by decide⟩, ?_⟩ | refine ⟨⟨by decide, by decide, by decide⟩, ?_⟩ | refine ⟨.inr ⟨by omega, by omega⟩, ?_⟩ | refine ⟨(by show (0 : Int) < _; first | decide | omega), ?_⟩ | refine ⟨Nat.le_trans (Nat.le_of_ble_eq_true rfl : _ ≤ 50) (by decide), ?_⟩ | refine ⟨_, _, _, _, rfl, rfl, upd_same, rfl, ?_⟩ | refine ⟨_, _, _, _, rfl, rfl, SqL.of upd_same, rfl, ?_⟩ | refine ⟨_, _, _, _, rfl, rfl, SqT.of upd_same, rfl, ?_⟩ | refine ⟨_, _, rfl, .inl (SqL.of upd_same), ?_⟩ | refine ⟨_, _, rfl, .inr (SqT.of upd_same), ?_⟩ | (refine' ⟨_, _, _, _, rfl, rfl, _, _, _⟩; rotate_left 2; (focus (first | assumption | exact SqL.of (by assumption) | exact SqT.of (by assumption) | exact Same.seq (by assumption) (by assumption))); (focus (exact rfl))) | (refine' ⟨_, _, rfl, _, _⟩; rotate_left 1; (focus (first | exact .inl (by assumption) | exact .inl (SqL.of (by assumption)) | exact .inr (by assumption) | exact .inr (SqT.of (by assumption)))))))
    refine ⟨p, z2, w2, 8, rfl, O3.get 0 rfl, hx2, by decide, by decide, fun asked z3 w3 k0 k1 hx3 => ?_⟩
    have O4 := O3.put (o' := .lst [.int z3, .int w3]) 0 rfl
    clear O3 hx2
    generalize upd _ p _ = Hc at O4 ⊢
    refine fun x0 dx0 nx0 nd0 ne0 => ?_
    have P0a := (O4.skip (o := .own x0) nd0).add (a := x0) (o := .ins T.c_Cache dx0 []) (by rw [upd_ne ne0.symm]; exact nx0)
    refine ⟨x0, dx0, rfl, upd_same, fun b0 H0 nb0 k0 hb0 hx0 => ⟨rfl, ?_⟩⟩
    have P0b := P0a.set 0 rfl k0 hx0
    have P0 := P0b.join (P0a.fresh nb0).1 (P0a.fresh nb0).2 hb0
    clear P0a P0b O4 nb0 k0 hb0 hx0 nx0 nd0 ne0
    refine fun x1 dx1 nx1 nd1 ne1 => ?_
    have P1a := (P0.skip (o := .own x1) nd1).add (a := x1) (o := .ins T.c_Cache dx1 []) (by rw [upd_ne ne1.symm]; exact nx1)
    refine ⟨x1, dx1, rfl, upd_same, fun b1 H1 nb1 k1 hb1 hx1 => ⟨rfl, ?_⟩⟩
    have P1b := P1a.set 0 rfl k1 hx1
    have P1 := P1b.join (P1a.fresh nb1).1 (P1a.fresh nb1).2 hb1
    clear P1a P1b P0 nb1 k1 hb1 hx1 nx1 nd1 ne1
    refine ⟨Nat.le_of_ble_eq_true rfl, fun lc nlc => ?_⟩
    have O5 := P1.add (o := .lst [.ref x0, .ref x1]) nlc
    clear P1 nlc
    refine fun x2 dx2 nx2 nd2 ne2 => ?_
    have P2a := (O5.skip (o := .own x2) nd2).add (a := x2) (o := .ins T.c_Predictor dx2 []) (by rw [upd_ne ne2.symm]; exact nx2)
    refine ⟨x2, dx2, rfl, upd_same, fun b2 H2 nb2 k2 hb2 hx2 => ⟨rfl, ?_⟩⟩
    have P2b := P2a.set 0 rfl k2 hx2
    have P2 := P2b.join (P2a.fresh nb2).1 (P2a.fresh nb2).2 hb2
    clear P2a P2b O5 nb2 k2 hb2 hx2 nx2 nd2 ne2
    refine fun x3 dx3 nx3 nd3 ne3 => ?_
    have P3a := (P2.skip (o := .own x3) nd3).add (a := x3) (o := .ins T.c_Predictor dx3 []) (by rw [upd_ne ne3.symm]; exact nx3)
    refine ⟨x3, dx3, rfl, upd_same, fun b3 H3 nb3 k3 hb3 hx3 => ⟨rfl, ?_⟩⟩
    have P3b := P3a.set 0 rfl k3 hx3
    have P3 := P3b.join (P3a.fresh nb3).1 (P3a.fresh nb3).2 hb3
    clear P3a P3b P2 nb3 k3 hb3 hx3 nx3 nd3 ne3
    refine ⟨Nat.le_of_ble_eq_true rfl, fun lp nlp => ?_⟩
    have O6 := P3.add (o := .lst [.ref x2, .ref x3]) nlp
    clear P3 nlp
    refine ⟨Nat.le_of_ble_eq_true rfl, fun la0 n1 => ?_⟩
    have O7 := O6.add (o := .lst []) n1
    refine ⟨Nat.le_of_ble_eq_true rfl, fun la1 n2 => ?_⟩
    have O8 := O7.add (o := .lst []) n2
    refine ⟨Nat.le_of_ble_eq_true rfl, fun lA n3 => ?_⟩
    have O9 := O8.add (o := .lst [.ref la0, .ref la1]) n3
    refine ⟨Nat.le_of_ble_eq_true rfl, fun lj0 n4 => ?_⟩
    have O10 := O9.add (o := .lst []) n4
    refine ⟨Nat.le_of_ble_eq_true rfl, fun lj1 n5 => ?_⟩
    have O11 := O10.add (o := .lst []) n5
    refine ⟨Nat.le_of_ble_eq_true rfl, fun lJ n6 => ?_⟩
    have O12 := O11.add (o := .lst [.ref lj0, .ref lj1]) n6
    clear O6 O7 O8 O9 O10 O11 n1 n2 n3 n4 n5 n6
    generalize upd _ lJ _ = Hd at O12 ⊢
    (repeat (first | refine ⟨_, rfl, ?_⟩ | refine ⟨_, _, rfl, rfl, ?_⟩ | refine ⟨rfl, ?_⟩ | refine .inl ⟨_, rfl, ?_⟩ | refine .inr ⟨_, rfl, ?_⟩ | refine ⟨.inr ⟨by decide, by decide⟩, ?_⟩ | refine ⟨⟨by decide, by decide⟩, ?_⟩ | refine ⟨⟨by decide, by decide, by decide⟩, ?_⟩ | refine ⟨.inr ⟨by omega, by omega⟩, ?_⟩ | refine ⟨(by show (0 : Int) < _; first | decide | omega), ?_⟩ | refine ⟨Nat.le_trans (Nat.le_of_ble_eq_true rfl : _ ≤ 50) (by decide), ?_⟩ | refine ⟨_, _, _, _, rfl, rfl, upd_same, rfl, ?_⟩ | refine ⟨_, _, _, _, rfl, rfl, SqL.of upd_same, rfl, ?_⟩ | refine ⟨_, _, _, _, rfl, rfl, SqT.of upd_same, rfl, ?_⟩ | refine ⟨_, _, rfl, .inl (SqL.of upd_same), ?_⟩ | refine ⟨_, _, rfl, .inr (SqT.of upd_same), ?_⟩ | (refine' ⟨_, _, _, _, rfl, rfl, _, _, _⟩; rotate_left 2; (focus (first | assumption | exact SqL.of (by assumption) | exact SqT.of (by assumption) | exact Same.seq (by assumption) (by assumption))); (focus (exact rfl))) | (refine' ⟨_, _, rfl, _, _⟩; rotate_left 1; (focus (first | exact .inl (by assumption) | exact .inl (SqL.of (by assumption)) | exact .inr (by assumption) | exact .inr (SqT.of (by assumption)))))))
    refine ⟨p, z3, w3, 120, rfl, O12.get 16 rfl, hx3, by decide, by decide, fun dd z4 w4 d0 d1 hx4 => ?_⟩
    have O13 := O12.put (o' := .lst [.int z4, .int w4]) 16 rfl
    clear O12 hx3
    generalize upd _ p _ = He at O13 ⊢
    (repeat (first | refine ⟨_, rfl, ?_⟩ | refine ⟨_, _, rfl, rfl, ?_⟩ | refine ⟨rfl, ?_⟩ | refine .inl ⟨_, rfl, ?_⟩ | refine .inr ⟨_, rfl, ?_⟩ | refine ⟨.inr ⟨by decide, by decide⟩, ?_⟩ | refine ⟨⟨by decide, by decide⟩, ?_⟩ | refine ⟨⟨by decide, by decide, by decide⟩, ?_⟩ | refine ⟨.inr ⟨by omega, by omega⟩, ?_⟩ | refine ⟨(by show (0 : Int) < _; first | decide | omega), ?_⟩ | refine ⟨Nat.le_trans (Nat.le_of_ble_eq_true rfl : _ ≤ 50) (by decide), ?_⟩ | refine ⟨_, _, _, _, rfl, rfl, upd_same, rfl, ?_⟩ | refine ⟨_, _, _, _, rfl, rfl, SqL.of upd_same, rfl, ?_⟩ | refine ⟨_, _, _, _, rfl, rfl, SqT.of upd_same, rfl, ?_⟩ | refine ⟨_, _, rfl, .inl (SqL.of upd_same), ?_⟩ | refine ⟨_, _, rfl, .inr (SqT.of upd_same), ?_⟩ | (refine' ⟨_, _, _, _, rfl, rfl, _, _, _⟩; rotate_left 2; (focus (first | assumption | exact SqL.of (by assumption) | exact SqT.of (by assumption) | exact Same.seq (by assumption) (by assumption))); (focus (exact rfl))) | (refine' ⟨_, _, rfl, _, _⟩; rotate_left 1; (focus (first | exact .inl (by assumption) | exact .inl (SqL.of (by assumption)) | exact .inr (by assumption) | exact .inr (SqT.of (by assumption)))))))
    have G0 : Gd H He p (sel x0 x1) (sel b0 b1) (sel dx0 dx1) (sel x2 x3) (sel b2 b3) (sel dx2 dx3) (sel la0 la1) (sel lj0 lj1) lc lp lA lJ T.c_Cache T.c_Predictor (fun _ => []) (fun _ => []) :=
      ⟨z4, w4, hx4, O13, fun i t ht => nomatch ht⟩
    clear O13
    refine ⟨by omega, by omega, for_range (lo := 0) (n := (1 + dd).toNat) (fun i σ H' => ∃ (as : Nat → List Int) (ts : Nat → List (Addr × Int × Bool)) (v10 v11 v12 v13 v14 v15 v16 : Option V), σ = [some (.ref g), some (.ref p), some (.int near), some (.bl (decide (V.int us = V.int 1))), some (.int asked), some (.ref lc), some (.ref lp), some (.ref lA), some (.ref lJ), some (.int (1 + dd)), v10, v11, v12, v13, v14, v15, v16] ∧
        Gd H H' p (sel x0 x1) (sel b0 b1) (sel dx0 dx1) (sel x2 x3) (sel b2 b3) (sel dx2 dx3) (sel la0 la1) (sel lj0 lj1) lc lp lA lJ T.c_Cache T.c_Predictor as ts ∧ ∀ j, (as j).length ≤ i ∧ (ts j).length ≤ i) ⟨_, _, none, none, none, none, none, none, none, rfl, G0, fun j => ⟨Nat.le_refl _, Nat.le_refl _⟩⟩ ?_ ?_⟩
    · rintro i σ H' hi ⟨as, ts, v10, v11, v12, v13, v14, v15, v16, rfl, GG, hb⟩
      have hi2 : i < 120 := by omega
      have sm : Same H H' := by
        obtain ⟨_, _, _, O, _⟩ := GG
        exact O.same
      (repeat (first | refine ⟨_, rfl, ?_⟩ | refine ⟨_, _, rfl, rfl, ?_⟩ | refine ⟨rfl, ?_⟩ | refine .inl ⟨_, rfl, ?_⟩ | refine .inr ⟨_, rfl, ?_⟩ | refine ⟨.inr ⟨by decide, by decide⟩, ?_⟩ | refine ⟨⟨by decide, by decide⟩, ?_⟩ | refine ⟨⟨by decide, by decide, by decide⟩, ?_⟩ | refine ⟨.inr ⟨by omega, by omega⟩, ?_⟩ | refine ⟨(by show (0 : Int) < _; first | decide | omega), ?_⟩ | refine ⟨Nat.le_trans (Nat.le_of_ble_eq_true rfl : _ ≤ 50) (by decide), ?_⟩ | refine ⟨_, _, _, _, rfl, rfl, upd_same, rfl, ?_⟩ | refine ⟨_, _, _, _, rfl, rfl, SqL.of upd_same, rfl, ?_⟩ | refine ⟨_, _, _, _, rfl, rfl, SqT.of upd_same, rfl, ?_⟩ | refine ⟨_, _, rfl, .inl (SqL.of upd_same), ?_⟩ | refine ⟨_, _, rfl, .inr (SqT.of upd_same), ?_⟩ | (refine' ⟨_, _, _, _, rfl, rfl, _, _, _⟩; rotate_left 2; (focus (first | assumption | exact SqL.of (by assumption) | exact SqT.of (by assumption) | exact Same.seq (by assumption) (by assumption))); (focus (exact rfl))) | (refine' ⟨_, _, rfl, _, _⟩; rotate_left 1; (focus (first | exact .inl (by assumption) | exact .inl (SqL.of (by assumption)) | exact .inr (by assumption) | exact .inr (SqT.of (by assumption)))))))
      refine ⟨g, ns, 1 + (0 + (i : Int)) % 62, rfl, sm.seq hS, hlen, by omega, fun p2 x5 y5 np2 hx5 => ?_⟩
      have GE := GG.more (y2 := y5) hx5 np2
      clear GG np2 hx5 sm
      generalize upd H' p2 _ = Hf at GE ⊢
      refine ⟨fun σ' H'' => ∃ pc, (pc = p2 ∨ pc = p) ∧ σ' = [some (.ref g), some (.ref p), some (.int near), some (.bl (decide (V.int us = V.int 1))), some (.int asked), some (.ref lc), some (.ref lp), some (.ref lA), some (.ref lJ), some (.int (1 + dd)), some (.int (0 + (i : Int))), some (.ref pc), v12, v13, v14, v15, v16] ∧ H'' = Hf, ?_, ?_⟩
      · (repeat (first | refine ⟨_, rfl, ?_⟩ | refine ⟨_, _, rfl, rfl, ?_⟩ | refine ⟨rfl, ?_⟩ | refine .inl ⟨_, rfl, ?_⟩ | refine .inr ⟨_, rfl, ?_⟩ | refine ⟨.inr ⟨by decide, by decide⟩, ?_⟩ | refine ⟨⟨by decide, by decide⟩, ?_⟩ | refine ⟨⟨by decide, by decide, by decide⟩, ?_⟩ | refine ⟨.inr ⟨by omega, by omega⟩, ?_⟩ | refine ⟨(by show (0 : Int) < _; first | decide | omega), ?_⟩ | refine ⟨Nat.le_trans (Nat.le_of_ble_eq_true rfl : _ ≤ 50) (by decide), ?_⟩ | refine ⟨_, _, _, _, rfl, rfl, upd_same, rfl, ?_⟩ | refine ⟨_, _, _, _, rfl, rfl, SqL.of upd_same, rfl, ?_⟩ | refine ⟨_, _, _, _, rfl, rfl, SqT.of upd_same, rfl, ?_⟩ | refine ⟨_, _, rfl, .inl (SqL.of upd_same), ?_⟩ | refine ⟨_, _, rfl, .inr (SqT.of upd_same), ?_⟩ | (refine' ⟨_, _, _, _, rfl, rfl, _, _, _⟩; rotate_left 2; (focus (first | assumption | exact SqL.of (by assumption) | exact SqT.of (by assumption) | exact Same.seq (by assumption) (by assumption))); (focus (exact rfl))) | (refine' ⟨_, _, rfl, _, _⟩; rotate_left 1; (focus (first | exact .inl (by assumption) | exact .inl (SqL.of (by assumption)) | exact .inr (by assumption) | exact .inr (SqT.of (by assumption)))))))
        refine ite2 (fun _ => ?_) (fun _ => ?_)
        · (repeat (first | refine ⟨_, rfl, ?_⟩ | refine ⟨_, _, rfl, rfl, ?_⟩ | refine ⟨rfl, ?_⟩ | refine .inl ⟨_, rfl, ?_⟩ | refine .inr ⟨_, rfl, ?_⟩ | refine ⟨.inr ⟨by decide, by decide⟩, ?_⟩ | refine ⟨⟨by decide, by decide⟩, ?_⟩ | refine ⟨⟨by decide, by decide, by decide⟩, ?_⟩ | refine ⟨.inr ⟨by omega, by omega⟩, ?_⟩ | refine ⟨(by show (0 : Int) < _; first | decide | omega), ?_⟩ | refine ⟨Nat.le_trans (Nat.le_of_ble_eq_true rfl : _ ≤ 50) (by decide), ?_⟩ | refine ⟨_, _, _, _, rfl, rfl, upd_same, rfl, ?_⟩ | refine ⟨_, _, _, _, rfl, rfl, SqL.of upd_same, rfl, ?_⟩ | refine ⟨_, _, _, _, rfl, rfl, SqT.of upd_same, rfl, ?_⟩ | refine ⟨_, _, rfl, .inl (SqL.of upd_same), ?_⟩ | refine ⟨_, _, rfl, .inr (SqT.of upd_same), ?_⟩ | (refine' ⟨_, _, _, _, rfl, rfl, _, _, _⟩; rotate_left 2; (focus (first | assumption | exact SqL.of (by assumption) | exact SqT.of (by assumption) | exact Same.seq (by assumption) (by assumption))); (focus (exact rfl))) | (refine' ⟨_, _, rfl, _, _⟩; rotate_left 1; (focus (first | exact .inl (by assumption) | exact .inl (SqL.of (by assumption)) | exact .inr (by assumption) | exact .inr (SqT.of (by assumption)))))))
          exact ⟨p, .inr rfl, rfl, rfl⟩
        · exact ⟨p2, .inl rfl, rfl, rfl⟩
      · rintro σ' _ ⟨pc, hpc, rfl, rfl⟩
        obtain ⟨x6, y6, hx6, e6⟩ := GE.cell hpc
        refine ⟨_, rfl, pc, x6, y6, 2, rfl, e6, hx6, by decide, by decide, fun wh x7 y7 w0 w1 hx7 => ?_⟩
        have GE2 := GE.draw hpc (keep_upd _ _ _) upd_same hx7 (y' := y7)
        clear GE hx6 e6
        generalize upd _ pc _ = Hg at GE2 ⊢
        obtain ⟨iw, hiw, rfl⟩ : ∃ iw : Nat, (iw = 0 ∨ iw = 1) ∧ wh = iw := ⟨wh.toNat, by omega, by omega⟩
        refine ⟨fun σ' H'' => ∃ (as' : Nat → List Int) (ts' : Nat → List (Addr × Int × Bool)) (v13 v14 v15 : Option V), σ' = [some (.ref g), some (.ref p), some (.int near), some (.bl (decide (V.int us = V.int 1))), some (.int asked), some (.ref lc), some (.ref lp), some (.ref lA), some (.ref lJ), some (.int (1 + dd)), some (.int (0 + (i : Int))), some (.ref pc), some (.int (iw : Int)), v13, v14, v15, v16] ∧
          Ge p2 H H'' p (sel x0 x1) (sel b0 b1) (sel dx0 dx1) (sel x2 x3) (sel b2 b3) (sel dx2 dx3) (sel la0 la1) (sel lj0 lj1) lc lp lA lJ T.c_Cache T.c_Predictor as' ts' ∧ ∀ j, (as' j).length ≤ i + 1 ∧ (ts' j).length ≤ i + 1, ?_, ?_⟩
        · obtain ⟨x8, y8, hx8, e8⟩ := GE2.cell hpc
          refine ⟨_, rfl, pc, x8, y8, 2, rfl, e8, hx8, by decide, by decide, fun wk x9 y9 g0 g1 hx9 => ?_⟩
          have GE3 := GE2.draw hpc (keep_upd _ _ _) upd_same hx9 (y' := y9)
          clear GE2 hx8 e8
          generalize upd _ pc _ = Hh at GE3 ⊢
          obtain ⟨xa, ya, hxa, ea⟩ := GE3.cell hpc
          (repeat (first | refine ⟨_, rfl, ?_⟩ | refine ⟨_, _, rfl, rfl, ?_⟩ | refine ⟨rfl, ?_⟩ | refine .inl ⟨_, rfl, ?_⟩ | refine .inr ⟨_, rfl, ?_⟩ | refine ⟨.inr ⟨by decide, by decide⟩, ?_⟩ | refine ⟨⟨by decide, by decide⟩, ?_⟩ | refine ⟨⟨by decide, by decide, by decide⟩, ?_⟩ | refine ⟨.inr ⟨by omega, by omega⟩, ?_⟩ | refine ⟨(by show (0 : Int) < _; first | decide | omega), ?_⟩ | refine ⟨Nat.le_trans (Nat.le_of_ble_eq_true rfl : _ ≤ 50) (by decide), ?_⟩ | refine ⟨_, _, _, _, rfl, rfl, upd_same, rfl, ?_⟩ | refine ⟨_, _, _, _, rfl, rfl, SqL.of upd_same, rfl, ?_⟩ | refine ⟨_, _, _, _, rfl, rfl, SqT.of upd_same, rfl, ?_⟩ | refine ⟨_, _, rfl, .inl (SqL.of upd_same), ?_⟩ | refine ⟨_, _, rfl, .inr (SqT.of upd_same), ?_⟩ | (refine' ⟨_, _, _, _, rfl, rfl, _, _, _⟩; rotate_left 2; (focus (first | assumption | exact SqL.of (by assumption) | exact SqT.of (by assumption) | exact Same.seq (by assumption) (by assumption))); (focus (exact rfl))) | (refine' ⟨_, _, rfl, _, _⟩; rotate_left 1; (focus (first | exact .inl (by assumption) | exact .inl (SqL.of (by assumption)) | exact .inr (by assumption) | exact .inr (SqT.of (by assumption)))))))
          refine ite2 (fun _ => ?_) (fun _ => ?_)
          · refine ⟨_, rfl, _, rfl, pc, xa, ya, near, rfl, ea, hxa, fun a xb yb Hi a0 a1 hxb ki ei => ?_⟩
            have GE4 := GE3.draw hpc ki ei hxb
            clear GE3
            obtain ⟨_, f1, f2, f3, f4, f5, f6, f7, f8, f9, f10, f11⟩ := Ge_facts hiw GE4
            refine ⟨_, rfl, _, rfl, lc, _, _, _, rfl, rfl, SqL.of f1, at2 (f := fun j => .ref (sel x0 x1 j)) hiw rfl rfl, ?_⟩
            refine ⟨_, rfl, _, rfl, lA, _, _, _, rfl, rfl, SqL.of f3, at2 (f := fun j => .ref (sel la0 la1 j)) hiw rfl rfl, ?_⟩
            refine ⟨_, rfl, sel x0 x1 iw, sel dx0 dx1 iw, sel b0 b1 iw, sel la0 la1 iw, as iw, a, rfl, f5, f6, f9, (by have := (hb iw).1; omega), a0, fun Hj kj ej => ?_⟩
            obtain ⟨ej3, ej2, GE5⟩ := GE4.acc hiw kj ej
            (repeat (first | refine ⟨_, rfl, ?_⟩ | refine ⟨_, _, rfl, rfl, ?_⟩ | refine ⟨rfl, ?_⟩ | refine .inl ⟨_, rfl, ?_⟩ | refine .inr ⟨_, rfl, ?_⟩ | refine ⟨.inr ⟨by decide, by decide⟩, ?_⟩ | refine ⟨⟨by decide, by decide⟩, ?_⟩ | refine ⟨⟨by decide, by decide, by decide⟩, ?_⟩ | refine ⟨.inr ⟨by omega, by omega⟩, ?_⟩ | refine ⟨(by show (0 : Int) < _; first | decide | omega), ?_⟩ | refine ⟨Nat.le_trans (Nat.le_of_ble_eq_true rfl : _ ≤ 50) (by decide), ?_⟩ | refine ⟨_, _, _, _, rfl, rfl, upd_same, rfl, ?_⟩ | refine ⟨_, _, _, _, rfl, rfl, SqL.of upd_same, rfl, ?_⟩ | refine ⟨_, _, _, _, rfl, rfl, SqT.of upd_same, rfl, ?_⟩ | refine ⟨_, _, rfl, .inl (SqL.of upd_same), ?_⟩ | refine ⟨_, _, rfl, .inr (SqT.of upd_same), ?_⟩ | (refine' ⟨_, _, _, _, rfl, rfl, _, _, _⟩; rotate_left 2; (focus (first | assumption | exact SqL.of (by assumption) | exact SqT.of (by assumption) | exact Same.seq (by assumption) (by assumption))); (focus (exact rfl))) | (refine' ⟨_, _, rfl, _, _⟩; rotate_left 1; (focus (first | exact .inl (by assumption) | exact .inl (SqL.of (by assumption)) | exact .inr (by assumption) | exact .inr (SqT.of (by assumption)))))))
            refine ⟨lA, _, _, _, rfl, rfl, SqL.of ej3, at2 (f := fun j => .ref (sel la0 la1 j)) hiw rfl rfl, ?_⟩
            refine ⟨.inl ⟨rfl, _, SqL.of ej2⟩, ?_⟩
            refine ⟨_, rfl, sel la0 la1 iw, _, _, rfl, rfl, ej2, (by rw [List.length_map]; exact small1000 (by have := (hb iw).1; omega)), ?_⟩
            refine ⟨_, _, _, _, _, rfl, GE5, fun j => ?_⟩
            have h1 := hb j
            have h2 := hb iw
            refine ⟨?_, by omega⟩
            unfold set2
            split
            · rw [List.length_append, List.length_singleton]; omega
            · omega
          · refine ⟨_, rfl, _, rfl, pc, xa, ya, near, rfl, ea, hxa, fun a xb yb Hi a0 a1 hxb ki ei => ?_⟩
            have GE4 := GE3.draw hpc ki ei hxb
            clear GE3
            obtain ⟨xd, yd, hxd, ed⟩ := GE4.cell hpc
            refine ⟨_, rfl, pc, xd, yd, 2, rfl, ed, hxd, by decide, by decide, fun jj xe ye j0 j1 hxe => ?_⟩
            have GE5 := GE4.draw hpc (keep_upd _ _ _) upd_same hxe (y' := ye)
            clear GE4 hxd ed
            generalize upd _ pc _ = Hk at GE5 ⊢
            (repeat (first | refine ⟨_, rfl, ?_⟩ | refine ⟨_, _, rfl, rfl, ?_⟩ | refine ⟨rfl, ?_⟩ | refine .inl ⟨_, rfl, ?_⟩ | refine .inr ⟨_, rfl, ?_⟩ | refine ⟨.inr ⟨by decide, by decide⟩, ?_⟩ | refine ⟨⟨by decide, by decide⟩, ?_⟩ | refine ⟨⟨by decide, by decide, by decide⟩, ?_⟩ | refine ⟨.inr ⟨by omega, by omega⟩, ?_⟩ | refine ⟨(by show (0 : Int) < _; first | decide | omega), ?_⟩ | refine ⟨Nat.le_trans (Nat.le_of_ble_eq_true rfl : _ ≤ 50) (by decide), ?_⟩ | refine ⟨_, _, _, _, rfl, rfl, upd_same, rfl, ?_⟩ | refine ⟨_, _, _, _, rfl, rfl, SqL.of upd_same, rfl, ?_⟩ | refine ⟨_, _, _, _, rfl, rfl, SqT.of upd_same, rfl, ?_⟩ | refine ⟨_, _, rfl, .inl (SqL.of upd_same), ?_⟩ | refine ⟨_, _, rfl, .inr (SqT.of upd_same), ?_⟩ | (refine' ⟨_, _, _, _, rfl, rfl, _, _, _⟩; rotate_left 2; (focus (first | assumption | exact SqL.of (by assumption) | exact SqT.of (by assumption) | exact Same.seq (by assumption) (by assumption))); (focus (exact rfl))) | (refine' ⟨_, _, rfl, _, _⟩; rotate_left 1; (focus (first | exact .inl (by assumption) | exact .inl (SqL.of (by assumption)) | exact .inr (by assumption) | exact .inr (SqT.of (by assumption)))))))
            refine ⟨fun σ' H'' => ∃ jf : Bool, σ' = [some (.ref g), some (.ref p), some (.int near), some (.bl (decide (V.int us = V.int 1))), some (.int asked), some (.ref lc), some (.ref lp), some (.ref lA), some (.ref lJ), some (.int (1 + dd)), some (.int (0 + (i : Int))), some (.ref pc), some (.int (iw : Int)), v13, some (.int a), some (.bl jf), v16] ∧ Ge p2 H H'' p (sel x0 x1) (sel b0 b1) (sel dx0 dx1) (sel x2 x3) (sel b2 b3) (sel dx2 dx3) (sel la0 la1) (sel lj0 lj1) lc lp lA lJ T.c_Cache T.c_Predictor as ts, ?_, ?_⟩
            · (repeat (first | refine ⟨_, rfl, ?_⟩ | refine ⟨_, _, rfl, rfl, ?_⟩ | refine ⟨rfl, ?_⟩ | refine .inl ⟨_, rfl, ?_⟩ | refine .inr ⟨_, rfl, ?_⟩ | refine ⟨.inr ⟨by decide, by decide⟩, ?_⟩ | refine ⟨⟨by decide, by decide⟩, ?_⟩ | refine ⟨⟨by decide, by decide, by decide⟩, ?_⟩ | refine ⟨.inr ⟨by omega, by omega⟩, ?_⟩ | refine ⟨(by show (0 : Int) < _; first | decide | omega), ?_⟩ | refine ⟨Nat.le_trans (Nat.le_of_ble_eq_true rfl : _ ≤ 50) (by decide), ?_⟩ | refine ⟨_, _, _, _, rfl, rfl, upd_same, rfl, ?_⟩ | refine ⟨_, _, _, _, rfl, rfl, SqL.of upd_same, rfl, ?_⟩ | refine ⟨_, _, _, _, rfl, rfl, SqT.of upd_same, rfl, ?_⟩ | refine ⟨_, _, rfl, .inl (SqL.of upd_same), ?_⟩ | refine ⟨_, _, rfl, .inr (SqT.of upd_same), ?_⟩ | (refine' ⟨_, _, _, _, rfl, rfl, _, _, _⟩; rotate_left 2; (focus (first | assumption | exact SqL.of (by assumption) | exact SqT.of (by assumption) | exact Same.seq (by assumption) (by assumption))); (focus (exact rfl))) | (refine' ⟨_, _, rfl, _, _⟩; rotate_left 1; (focus (first | exact .inl (by assumption) | exact .inl (SqL.of (by assumption)) | exact .inr (by assumption) | exact .inr (SqT.of (by assumption)))))))
              refine ite2 (fun _ => ?_) (fun _ => ?_)
              · obtain ⟨xf, yf, hxf, ef⟩ := GE5.cell hpc
                refine ⟨_, rfl, pc, xf, yf, 4, rfl, ef, hxf, by decide, by decide, fun ju xg yg q0 q1 hxg => ?_⟩
                have GE6 := GE5.draw hpc (keep_upd _ _ _) upd_same hxg (y' := yg)
                generalize upd _ pc _ = Hl at GE6 ⊢
                (repeat (first | refine ⟨_, rfl, ?_⟩ | refine ⟨_, _, rfl, rfl, ?_⟩ | refine ⟨rfl, ?_⟩ | refine .inl ⟨_, rfl, ?_⟩ | refine .inr ⟨_, rfl, ?_⟩ | refine ⟨.inr ⟨by decide, by decide⟩, ?_⟩ | refine ⟨⟨by decide, by decide⟩, ?_⟩ | refine ⟨⟨by decide, by decide, by decide⟩, ?_⟩ | refine ⟨.inr ⟨by omega, by omega⟩, ?_⟩ | refine ⟨(by show (0 : Int) < _; first | decide | omega), ?_⟩ | refine ⟨Nat.le_trans (Nat.le_of_ble_eq_true rfl : _ ≤ 50) (by decide), ?_⟩ | refine ⟨_, _, _, _, rfl, rfl, upd_same, rfl, ?_⟩ | refine ⟨_, _, _, _, rfl, rfl, SqL.of upd_same, rfl, ?_⟩ | refine ⟨_, _, _, _, rfl, rfl, SqT.of upd_same, rfl, ?_⟩ | refine ⟨_, _, rfl, .inl (SqL.of upd_same), ?_⟩ | refine ⟨_, _, rfl, .inr (SqT.of upd_same), ?_⟩ | (refine' ⟨_, _, _, _, rfl, rfl, _, _, _⟩; rotate_left 2; (focus (first | assumption | exact SqL.of (by assumption) | exact SqT.of (by assumption) | exact Same.seq (by assumption) (by assumption))); (focus (exact rfl))) | (refine' ⟨_, _, rfl, _, _⟩; rotate_left 1; (focus (first | exact .inl (by assumption) | exact .inl (SqL.of (by assumption)) | exact .inr (by assumption) | exact .inr (SqT.of (by assumption)))))))
                refine ite2 (fun _ => ?_) (fun _ => ?_)
                · (repeat (first | refine ⟨_, rfl, ?_⟩ | refine ⟨_, _, rfl, rfl, ?_⟩ | refine ⟨rfl, ?_⟩ | refine .inl ⟨_, rfl, ?_⟩ | refine .inr ⟨_, rfl, ?_⟩ | refine ⟨.inr ⟨by decide, by decide⟩, ?_⟩ | refine ⟨⟨by decide, by decide⟩, ?_⟩ | refine ⟨⟨by decide, by decide, by decide⟩, ?_⟩ | refine ⟨.inr ⟨by omega, by omega⟩, ?_⟩ | refine ⟨(by show (0 : Int) < _; first | decide | omega), ?_⟩ | refine ⟨Nat.le_trans (Nat.le_of_ble_eq_true rfl : _ ≤ 50) (by decide), ?_⟩ | refine ⟨_, _, _, _, rfl, rfl, upd_same, rfl, ?_⟩ | refine ⟨_, _, _, _, rfl, rfl, SqL.of upd_same, rfl, ?_⟩ | refine ⟨_, _, _, _, rfl, rfl, SqT.of upd_same, rfl, ?_⟩ | refine ⟨_, _, rfl, .inl (SqL.of upd_same), ?_⟩ | refine ⟨_, _, rfl, .inr (SqT.of upd_same), ?_⟩ | (refine' ⟨_, _, _, _, rfl, rfl, _, _, _⟩; rotate_left 2; (focus (first | assumption | exact SqL.of (by assumption) | exact SqT.of (by assumption) | exact Same.seq (by assumption) (by assumption))); (focus (exact rfl))) | (refine' ⟨_, _, rfl, _, _⟩; rotate_left 1; (focus (first | exact .inl (by assumption) | exact .inl (SqL.of (by assumption)) | exact .inr (by assumption) | exact .inr (SqT.of (by assumption)))))))
                  exact GE6
                · exact ⟨_, rfl, GE6⟩
              · refine iteF ?_
                exact ⟨_, rfl, GE5⟩
            · rintro σ' Hl ⟨jf, rfl, GE6⟩
              clear GE5
              obtain ⟨_, f1, f2, f3, f4, f5, f6, f7, f8, f9, f10, f11⟩ := Ge_facts hiw GE6
              refine ⟨_, rfl, _, rfl, lp, _, _, _, rfl, rfl, SqL.of f2, at2 (f := fun j => .ref (sel x2 x3 j)) hiw rfl rfl, ?_⟩
              refine ⟨_, rfl, _, rfl, lJ, _, _, _, rfl, rfl, SqL.of f4, at2 (f := fun j => .ref (sel lj0 lj1 j)) hiw rfl rfl, ?_⟩
              refine ⟨_, rfl, _, rfl, sel x2 x3 iw, sel dx2 dx3 iw, sel b2 b3 iw, sel lj0 lj1 iw, ts iw, a, jf, rfl, f7, f8, f10, f11, (by have := (hb iw).2; omega), a0, fun Hj kj ej => ?_⟩
              (repeat (first | refine ⟨_, rfl, ?_⟩ | refine ⟨_, _, rfl, rfl, ?_⟩ | refine ⟨rfl, ?_⟩ | refine .inl ⟨_, rfl, ?_⟩ | refine .inr ⟨_, rfl, ?_⟩ | refine ⟨.inr ⟨by decide, by decide⟩, ?_⟩ | refine ⟨⟨by decide, by decide⟩, ?_⟩ | refine ⟨⟨by decide, by decide, by decide⟩, ?_⟩ | refine ⟨.inr ⟨by omega, by omega⟩, ?_⟩ | refine ⟨(by show (0 : Int) < _; first | decide | omega), ?_⟩ | refine ⟨Nat.le_trans (Nat.le_of_ble_eq_true rfl : _ ≤ 50) (by decide), ?_⟩ | refine ⟨_, _, _, _, rfl, rfl, upd_same, rfl, ?_⟩ | refine ⟨_, _, _, _, rfl, rfl, SqL.of upd_same, rfl, ?_⟩ | refine ⟨_, _, _, _, rfl, rfl, SqT.of upd_same, rfl, ?_⟩ | refine ⟨_, _, rfl, .inl (SqL.of upd_same), ?_⟩ | refine ⟨_, _, rfl, .inr (SqT.of upd_same), ?_⟩ | (refine' ⟨_, _, _, _, rfl, rfl, _, _, _⟩; rotate_left 2; (focus (first | assumption | exact SqL.of (by assumption) | exact SqT.of (by assumption) | exact Same.seq (by assumption) (by assumption))); (focus (exact rfl))) | (refine' ⟨_, _, rfl, _, _⟩; rotate_left 1; (focus (first | exact .inl (by assumption) | exact .inl (SqL.of (by assumption)) | exact .inr (by assumption) | exact .inr (SqT.of (by assumption)))))))
              have kjn : ∀ tp, Hj tp = none → Hj lJ = some (.lst [.ref (sel lj0 lj1 0), .ref (sel lj0 lj1 1)]) ∧ Hj (sel lj0 lj1 iw) = some (.lst (rfs (ts iw))) ∧ Ge p2 H (upd (upd Hj tp (.tup [.int a, .bl jf])) (sel lj0 lj1 iw) (.lst (rfs (ts iw) ++ [.ref tp]))) p (sel x0 x1) (sel b0 b1) (sel dx0 dx1) (sel x2 x3) (sel b2 b3) (sel dx2 dx3) (sel la0 la1) (sel lj0 lj1) lc lp lA lJ T.c_Cache T.c_Predictor as (set2 ts iw (ts iw ++ [(tp, a, jf)])) := fun tp ht => GE6.bra hiw kj ej ht
              obtain ⟨ej3, ej2⟩ := GE6.braL hiw kj ej
              refine ⟨lJ, _, _, _, rfl, rfl, SqL.of ej3, at2 (f := fun j => .ref (sel lj0 lj1 j)) hiw rfl rfl, ?_⟩
              refine ⟨.inl ⟨rfl, _, SqL.of ej2⟩, ?_⟩
              refine ⟨_, rfl, _, rfl, (by show 2 ≤ sizeLine; decide), fun tp ht => ?_⟩
              obtain ⟨_, _, GE7⟩ := kjn tp ht
              refine ⟨sel lj0 lj1 iw, _, _, rfl, rfl, same_upd ht _ _ ej2, (by rw [List.length_map]; exact small1000 (by have := (hb iw).2; omega)), ?_⟩
              refine ⟨_, _, _, _, _, rfl, GE7, fun j => ?_⟩
              have h1 := hb j
              have h2 := hb iw
              refine ⟨by omega, ?_⟩
              unfold set2
              split
              · rw [List.length_append, List.length_singleton]; omega
              · omega
        · rintro σ' Hl ⟨as', ts', v13', v14', v15', rfl, GE6, hb'⟩
          (repeat (first | refine ⟨_, rfl, ?_⟩ | refine ⟨_, _, rfl, rfl, ?_⟩ | refine ⟨rfl, ?_⟩ | refine .inl ⟨_, rfl, ?_⟩ | refine .inr ⟨_, rfl, ?_⟩ | refine ⟨.inr ⟨by decide, by decide⟩, ?_⟩ | refine ⟨⟨by decide, by decide⟩, ?_⟩ | refine ⟨⟨by decide, by decide, by decide⟩, ?_⟩ | refine ⟨.inr ⟨by omega, by omega⟩, ?_⟩ | refine ⟨(by show (0 : Int) < _; first | decide | omega), ?_⟩ | refine ⟨Nat.le_trans (Nat.le_of_ble_eq_true rfl : _ ≤ 50) (by decide), ?_⟩ | refine ⟨_, _, _, _, rfl, rfl, upd_same, rfl, ?_⟩ | refine ⟨_, _, _, _, rfl, rfl, SqL.of upd_same, rfl, ?_⟩ | refine ⟨_, _, _, _, rfl, rfl, SqT.of upd_same, rfl, ?_⟩ | refine ⟨_, _, rfl, .inl (SqL.of upd_same), ?_⟩ | refine ⟨_, _, rfl, .inr (SqT.of upd_same), ?_⟩ | (refine' ⟨_, _, _, _, rfl, rfl, _, _, _⟩; rotate_left 2; (focus (first | assumption | exact SqL.of (by assumption) | exact SqT.of (by assumption) | exact Same.seq (by assumption) (by assumption))); (focus (exact rfl))) | (refine' ⟨_, _, rfl, _, _⟩; rotate_left 1; (focus (first | exact .inl (by assumption) | exact .inl (SqL.of (by assumption)) | exact .inr (by assumption) | exact .inr (SqT.of (by assumption)))))))
          refine ite2 (fun _ => ?_) (fun _ => ?_)
          · (repeat (first | refine ⟨_, rfl, ?_⟩ | refine ⟨_, _, rfl, rfl, ?_⟩ | refine ⟨rfl, ?_⟩ | refine .inl ⟨_, rfl, ?_⟩ | refine .inr ⟨_, rfl, ?_⟩ | refine ⟨.inr ⟨by decide, by decide⟩, ?_⟩ | refine ⟨⟨by decide, by decide⟩, ?_⟩ | refine ⟨⟨by decide, by decide, by decide⟩, ?_⟩ | refine ⟨.inr ⟨by omega, by omega⟩, ?_⟩ | refine ⟨(by show (0 : Int) < _; first | decide | omega), ?_⟩ | refine ⟨Nat.le_trans (Nat.le_of_ble_eq_true rfl : _ ≤ 50) (by decide), ?_⟩ | refine ⟨_, _, _, _, rfl, rfl, upd_same, rfl, ?_⟩ | refine ⟨_, _, _, _, rfl, rfl, SqL.of upd_same, rfl, ?_⟩ | refine ⟨_, _, _, _, rfl, rfl, SqT.of upd_same, rfl, ?_⟩ | refine ⟨_, _, rfl, .inl (SqL.of upd_same), ?_⟩ | refine ⟨_, _, rfl, .inr (SqT.of upd_same), ?_⟩ | (refine' ⟨_, _, _, _, rfl, rfl, _, _, _⟩; rotate_left 2; (focus (first | assumption | exact SqL.of (by assumption) | exact SqT.of (by assumption) | exact Same.seq (by assumption) (by assumption))); (focus (exact rfl))) | (refine' ⟨_, _, rfl, _, _⟩; rotate_left 1; (focus (first | exact .inl (by assumption) | exact .inl (SqL.of (by assumption)) | exact .inr (by assumption) | exact .inr (SqT.of (by assumption)))))))
            refine ite2 (fun _ => ?_) (fun _ => ?_)
            · refine iteT ?_
              (repeat (first | refine ⟨_, rfl, ?_⟩ | refine ⟨_, _, rfl, rfl, ?_⟩ | refine ⟨rfl, ?_⟩ | refine .inl ⟨_, rfl, ?_⟩ | refine .inr ⟨_, rfl, ?_⟩ | refine ⟨.inr ⟨by decide, by decide⟩, ?_⟩ | refine ⟨⟨by decide, by decide⟩, ?_⟩ | refine ⟨⟨by decide, by decide, by decide⟩, ?_⟩ | refine ⟨.inr ⟨by omega, by omega⟩, ?_⟩ | refine ⟨(by show (0 : Int) < _; first | decide | omega), ?_⟩ | refine ⟨Nat.le_trans (Nat.le_of_ble_eq_true rfl : _ ≤ 50) (by decide), ?_⟩ | refine ⟨_, _, _, _, rfl, rfl, upd_same, rfl, ?_⟩ | refine ⟨_, _, _, _, rfl, rfl, SqL.of upd_same, rfl, ?_⟩ | refine ⟨_, _, _, _, rfl, rfl, SqT.of upd_same, rfl, ?_⟩ | refine ⟨_, _, rfl, .inl (SqL.of upd_same), ?_⟩ | refine ⟨_, _, rfl, .inr (SqT.of upd_same), ?_⟩ | (refine' ⟨_, _, _, _, rfl, rfl, _, _, _⟩; rotate_left 2; (focus (first | assumption | exact SqL.of (by assumption) | exact SqT.of (by assumption) | exact Same.seq (by assumption) (by assumption))); (focus (exact rfl))) | (refine' ⟨_, _, rfl, _, _⟩; rotate_left 1; (focus (first | exact .inl (by assumption) | exact .inl (SqL.of (by assumption)) | exact .inr (by assumption) | exact .inr (SqT.of (by assumption)))))))
              refine ⟨by decide, by decide, for_range (lo := 0) (n := 2) (fun s σ H'' => ∃ v16, σ = [some (.ref g), some (.ref p), some (.int near), some (.bl (decide (V.int us = V.int 1))), some (.int asked), some (.ref lc), some (.ref lp), some (.ref lA), some (.ref lJ), some (.int (1 + dd)), some (.int (0 + (i : Int))), some (.ref pc), some (.int (iw : Int)), v13', v14', v15', v16] ∧ Ge p2 H H'' p (sel x0 x1) (sel b0 b1) (sel dx0 dx1) (sel x2 x3) (sel b2 b3) (sel dx2 dx3) (sel la0 la1) (sel lj0 lj1) lc lp lA lJ T.c_Cache T.c_Predictor as' ts') ⟨_, rfl, GE6⟩ ?_ ?_⟩
              · rintro s σ H'' hs ⟨v16, rfl, GE7⟩
                have hs1 : s = 0 ∨ s = 1 := by omega
                obtain ⟨_, f1, f2, f3, f4, f5, f6, f7, f8, f9, f10, f11⟩ := Ge_facts hs1 GE7
                refine ⟨_, rfl, _, rfl, lc, _, _, _, rfl, rfl, SqL.of f1, at2z (f := fun j => .ref (sel x0 x1 j)) hs1 rfl rfl, ?_⟩
                refine ⟨_, rfl, _, rfl, lA, _, _, _, rfl, rfl, SqL.of f3, at2z (f := fun j => .ref (sel la0 la1 j)) hs1 rfl rfl, ?_⟩
                refine ⟨_, rfl, _, rfl, lp, _, _, _, rfl, rfl, SqL.of f2, at2z (f := fun j => .ref (sel x2 x3 j)) hs1 rfl rfl, ?_⟩
                refine ⟨_, rfl, _, rfl, lJ, _, _, _, rfl, rfl, SqL.of f4, at2z (f := fun j => .ref (sel lj0 lj1 j)) hs1 rfl rfl, ?_⟩
                refine ⟨sel x0 x1 s, sel dx0 dx1 s, sel b0 b1 s, sel la0 la1 s, sel x2 x3 s, sel dx2 dx3 s, sel b2 b3 s, sel lj0 lj1 s, as' s, ts' s, rfl, f5, f6, f9, (by have := (hb' s).1; omega), f7, f8, f10, f11, (by have := (hb' s).2; omega), fun Hm sm => ?_⟩
                (repeat (first | refine ⟨_, rfl, ?_⟩ | refine ⟨_, _, rfl, rfl, ?_⟩ | refine ⟨rfl, ?_⟩ | refine .inl ⟨_, rfl, ?_⟩ | refine .inr ⟨_, rfl, ?_⟩ | refine ⟨.inr ⟨by decide, by decide⟩, ?_⟩ | refine ⟨⟨by decide, by decide⟩, ?_⟩ | refine ⟨⟨by decide, by decide, by decide⟩, ?_⟩ | refine ⟨.inr ⟨by omega, by omega⟩, ?_⟩ | refine ⟨(by show (0 : Int) < _; first | decide | omega), ?_⟩ | refine ⟨Nat.le_trans (Nat.le_of_ble_eq_true rfl : _ ≤ 50) (by decide), ?_⟩ | refine ⟨_, _, _, _, rfl, rfl, upd_same, rfl, ?_⟩ | refine ⟨_, _, _, _, rfl, rfl, SqL.of upd_same, rfl, ?_⟩ | refine ⟨_, _, _, _, rfl, rfl, SqT.of upd_same, rfl, ?_⟩ | refine ⟨_, _, rfl, .inl (SqL.of upd_same), ?_⟩ | refine ⟨_, _, rfl, .inr (SqT.of upd_same), ?_⟩ | (refine' ⟨_, _, _, _, rfl, rfl, _, _, _⟩; rotate_left 2; (focus (first | assumption | exact SqL.of (by assumption) | exact SqT.of (by assumption) | exact Same.seq (by assumption) (by assumption))); (focus (exact rfl))) | (refine' ⟨_, _, rfl, _, _⟩; rotate_left 1; (focus (first | exact .inl (by assumption) | exact .inl (SqL.of (by assumption)) | exact .inr (by assumption) | exact .inr (SqT.of (by assumption)))))))
                exact GE7.mono sm
              · rintro σ H'' ⟨v16, rfl, GE7⟩
                exact ⟨as', ts', _, _, _, _, _, _, _, rfl, GE7.drop, hb'⟩
            · (repeat (first | refine ⟨_, rfl, ?_⟩ | refine ⟨_, _, rfl, rfl, ?_⟩ | refine ⟨rfl, ?_⟩ | refine .inl ⟨_, rfl, ?_⟩ | refine .inr ⟨_, rfl, ?_⟩ | refine ⟨.inr ⟨by decide, by decide⟩, ?_⟩ | refine ⟨⟨by decide, by decide⟩, ?_⟩ | refine ⟨⟨by decide, by decide, by decide⟩, ?_⟩ | refine ⟨.inr ⟨by omega, by omega⟩, ?_⟩ | refine ⟨(by show (0 : Int) < _; first | decide | omega), ?_⟩ | refine ⟨Nat.le_trans (Nat.le_of_ble_eq_true rfl : _ ≤ 50) (by decide), ?_⟩ | refine ⟨_, _, _, _, rfl, rfl, upd_same, rfl, ?_⟩ | refine ⟨_, _, _, _, rfl, rfl, SqL.of upd_same, rfl, ?_⟩ | refine ⟨_, _, _, _, rfl, rfl, SqT.of upd_same, rfl, ?_⟩ | refine ⟨_, _, rfl, .inl (SqL.of upd_same), ?_⟩ | refine ⟨_, _, rfl, .inr (SqT.of upd_same), ?_⟩ | (refine' ⟨_, _, _, _, rfl, rfl, _, _, _⟩; rotate_left 2; (focus (first | assumption | exact SqL.of (by assumption) | exact SqT.of (by assumption) | exact Same.seq (by assumption) (by assumption))); (focus (exact rfl))) | (refine' ⟨_, _, rfl, _, _⟩; rotate_left 1; (focus (first | exact .inl (by assumption) | exact .inl (SqL.of (by assumption)) | exact .inr (by assumption) | exact .inr (SqT.of (by assumption)))))))
              refine ite2 (fun _ => ?_) (fun _ => ?_)
              · (repeat (first | refine ⟨_, rfl, ?_⟩ | refine ⟨_, _, rfl, rfl, ?_⟩ | refine ⟨rfl, ?_⟩ | refine .inl ⟨_, rfl, ?_⟩ | refine .inr ⟨_, rfl, ?_⟩ | refine ⟨.inr ⟨by decide, by decide⟩, ?_⟩ | refine ⟨⟨by decide, by decide⟩, ?_⟩ | refine ⟨⟨by decide, by decide, by decide⟩, ?_⟩ | refine ⟨.inr ⟨by omega, by omega⟩, ?_⟩ | refine ⟨(by show (0 : Int) < _; first | decide | omega), ?_⟩ | refine ⟨Nat.le_trans (Nat.le_of_ble_eq_true rfl : _ ≤ 50) (by decide), ?_⟩ | refine ⟨_, _, _, _, rfl, rfl, upd_same, rfl, ?_⟩ | refine ⟨_, _, _, _, rfl, rfl, SqL.of upd_same, rfl, ?_⟩ | refine ⟨_, _, _, _, rfl, rfl, SqT.of upd_same, rfl, ?_⟩ | refine ⟨_, _, rfl, .inl (SqL.of upd_same), ?_⟩ | refine ⟨_, _, rfl, .inr (SqT.of upd_same), ?_⟩ | (refine' ⟨_, _, _, _, rfl, rfl, _, _, _⟩; rotate_left 2; (focus (first | assumption | exact SqL.of (by assumption) | exact SqT.of (by assumption) | exact Same.seq (by assumption) (by assumption))); (focus (exact rfl))) | (refine' ⟨_, _, rfl, _, _⟩; rotate_left 1; (focus (first | exact .inl (by assumption) | exact .inl (SqL.of (by assumption)) | exact .inr (by assumption) | exact .inr (SqT.of (by assumption)))))))
                refine ⟨by decide, by decide, for_range (lo := 0) (n := 2) (fun s σ H'' => ∃ v16, σ = [some (.ref g), some (.ref p), some (.int near), some (.bl (decide (V.int us = V.int 1))), some (.int asked), some (.ref lc), some (.ref lp), some (.ref lA), some (.ref lJ), some (.int (1 + dd)), some (.int (0 + (i : Int))), some (.ref pc), some (.int (iw : Int)), v13', v14', v15', v16] ∧ Ge p2 H H'' p (sel x0 x1) (sel b0 b1) (sel dx0 dx1) (sel x2 x3) (sel b2 b3) (sel dx2 dx3) (sel la0 la1) (sel lj0 lj1) lc lp lA lJ T.c_Cache T.c_Predictor as' ts') ⟨_, rfl, GE6⟩ ?_ ?_⟩
                · rintro s σ H'' hs ⟨v16, rfl, GE7⟩
                  have hs1 : s = 0 ∨ s = 1 := by omega
                  obtain ⟨_, f1, f2, f3, f4, f5, f6, f7, f8, f9, f10, f11⟩ := Ge_facts hs1 GE7
                  refine ⟨_, rfl, _, rfl, lc, _, _, _, rfl, rfl, SqL.of f1, at2z (f := fun j => .ref (sel x0 x1 j)) hs1 rfl rfl, ?_⟩
                  refine ⟨_, rfl, _, rfl, lA, _, _, _, rfl, rfl, SqL.of f3, at2z (f := fun j => .ref (sel la0 la1 j)) hs1 rfl rfl, ?_⟩
                  refine ⟨_, rfl, _, rfl, lp, _, _, _, rfl, rfl, SqL.of f2, at2z (f := fun j => .ref (sel x2 x3 j)) hs1 rfl rfl, ?_⟩
                  refine ⟨_, rfl, _, rfl, lJ, _, _, _, rfl, rfl, SqL.of f4, at2z (f := fun j => .ref (sel lj0 lj1 j)) hs1 rfl rfl, ?_⟩
                  refine ⟨sel x0 x1 s, sel dx0 dx1 s, sel b0 b1 s, sel la0 la1 s, sel x2 x3 s, sel dx2 dx3 s, sel b2 b3 s, sel lj0 lj1 s, as' s, ts' s, rfl, f5, f6, f9, (by have := (hb' s).1; omega), f7, f8, f10, f11, (by have := (hb' s).2; omega), fun Hm sm => ?_⟩
                  (repeat (first | refine ⟨_, rfl, ?_⟩ | refine ⟨_, _, rfl, rfl, ?_⟩ | refine ⟨rfl, ?_⟩ | refine .inl ⟨_, rfl, ?_⟩ | refine .inr ⟨_, rfl, ?_⟩ | refine ⟨.inr ⟨by decide, by decide⟩, ?_⟩ | refine ⟨⟨by decide, by decide⟩, ?_⟩ | refine ⟨⟨by decide, by decide, by decide⟩, ?_⟩ | refine ⟨.inr ⟨by omega, by omega⟩, ?_⟩ | refine ⟨(by show (0 : Int) < _; first | decide | omega), ?_⟩ | refine ⟨Nat.le_trans (Nat.le_of_ble_eq_true rfl : _ ≤ 50) (by decide), ?_⟩ | refine ⟨_, _, _, _, rfl, rfl, upd_same, rfl, ?_⟩ | refine ⟨_, _, _, _, rfl, rfl, SqL.of upd_same, rfl, ?_⟩ | refine ⟨_, _, _, _, rfl, rfl, SqT.of upd_same, rfl, ?_⟩ | refine ⟨_, _, rfl, .inl (SqL.of upd_same), ?_⟩ | refine ⟨_, _, rfl, .inr (SqT.of upd_same), ?_⟩ | (refine' ⟨_, _, _, _, rfl, rfl, _, _, _⟩; rotate_left 2; (focus (first | assumption | exact SqL.of (by assumption) | exact SqT.of (by assumption) | exact Same.seq (by assumption) (by assumption))); (focus (exact rfl))) | (refine' ⟨_, _, rfl, _, _⟩; rotate_left 1; (focus (first | exact .inl (by assumption) | exact .inl (SqL.of (by assumption)) | exact .inr (by assumption) | exact .inr (SqT.of (by assumption)))))))
                  exact GE7.mono sm
                · rintro σ H'' ⟨v16, rfl, GE7⟩
                  exact ⟨as', ts', _, _, _, _, _, _, _, rfl, GE7.drop, hb'⟩
              · exact ⟨as', ts', _, _, _, _, _, _, _, rfl, GE6.drop, hb'⟩
          · refine iteF ?_
            (repeat (first | refine ⟨_, rfl, ?_⟩ | refine ⟨_, _, rfl, rfl, ?_⟩ | refine ⟨rfl, ?_⟩ | refine .inl ⟨_, rfl, ?_⟩ | refine .inr ⟨_, rfl, ?_⟩ | refine ⟨.inr ⟨by decide, by decide⟩, ?_⟩ | refine ⟨⟨by decide, by decide⟩, ?_⟩ | refine ⟨⟨by decide, by decide, by decide⟩, ?_⟩ | refine ⟨.inr ⟨by omega, by omega⟩, ?_⟩ | refine ⟨(by show (0 : Int) < _; first | decide | omega), ?_⟩ | refine ⟨Nat.le_trans (Nat.le_of_ble_eq_true rfl : _ ≤ 50) (by decide), ?_⟩ | refine ⟨_, _, _, _, rfl, rfl, upd_same, rfl, ?_⟩ | refine ⟨_, _, _, _, rfl, rfl, SqL.of upd_same, rfl, ?_⟩ | refine ⟨_, _, _, _, rfl, rfl, SqT.of upd_same, rfl, ?_⟩ | refine ⟨_, _, rfl, .inl (SqL.of upd_same), ?_⟩ | refine ⟨_, _, rfl, .inr (SqT.of upd_same), ?_⟩ | (refine' ⟨_, _, _, _, rfl, rfl, _, _, _⟩; rotate_left 2; (focus (first | assumption | exact SqL.of (by assumption) | exact SqT.of (by assumption) | exact Same.seq (by assumption) (by assumption))); (focus (exact rfl))) | (refine' ⟨_, _, rfl, _, _⟩; rotate_left 1; (focus (first | exact .inl (by assumption) | exact .inl (SqL.of (by assumption)) | exact .inr (by assumption) | exact .inr (SqT.of (by assumption)))))))
            refine ite2 (fun _ => ?_) (fun _ => ?_)
            · (repeat (first | refine ⟨_, rfl, ?_⟩ | refine ⟨_, _, rfl, rfl, ?_⟩ | refine ⟨rfl, ?_⟩ | refine .inl ⟨_, rfl, ?_⟩ | refine .inr ⟨_, rfl, ?_⟩ | refine ⟨.inr ⟨by decide, by decide⟩, ?_⟩ | refine ⟨⟨by decide, by decide⟩, ?_⟩ | refine ⟨⟨by decide, by decide, by decide⟩, ?_⟩ | refine ⟨.inr ⟨by omega, by omega⟩, ?_⟩ | refine ⟨(by show (0 : Int) < _; first | decide | omega), ?_⟩ | refine ⟨Nat.le_trans (Nat.le_of_ble_eq_true rfl : _ ≤ 50) (by decide), ?_⟩ | refine ⟨_, _, _, _, rfl, rfl, upd_same, rfl, ?_⟩ | refine ⟨_, _, _, _, rfl, rfl, SqL.of upd_same, rfl, ?_⟩ | refine ⟨_, _, _, _, rfl, rfl, SqT.of upd_same, rfl, ?_⟩ | refine ⟨_, _, rfl, .inl (SqL.of upd_same), ?_⟩ | refine ⟨_, _, rfl, .inr (SqT.of upd_same), ?_⟩ | (refine' ⟨_, _, _, _, rfl, rfl, _, _, _⟩; rotate_left 2; (focus (first | assumption | exact SqL.of (by assumption) | exact SqT.of (by assumption) | exact Same.seq (by assumption) (by assumption))); (focus (exact rfl))) | (refine' ⟨_, _, rfl, _, _⟩; rotate_left 1; (focus (first | exact .inl (by assumption) | exact .inl (SqL.of (by assumption)) | exact .inr (by assumption) | exact .inr (SqT.of (by assumption)))))))
              refine ⟨by decide, by decide, for_range (lo := 0) (n := 2) (fun s σ H'' => ∃ v16, σ = [some (.ref g), some (.ref p), some (.int near), some (.bl (decide (V.int us = V.int 1))), some (.int asked), some (.ref lc), some (.ref lp), some (.ref lA), some (.ref lJ), some (.int (1 + dd)), some (.int (0 + (i : Int))), some (.ref pc), some (.int (iw : Int)), v13', v14', v15', v16] ∧ Ge p2 H H'' p (sel x0 x1) (sel b0 b1) (sel dx0 dx1) (sel x2 x3) (sel b2 b3) (sel dx2 dx3) (sel la0 la1) (sel lj0 lj1) lc lp lA lJ T.c_Cache T.c_Predictor as' ts') ⟨_, rfl, GE6⟩ ?_ ?_⟩
              · rintro s σ H'' hs ⟨v16, rfl, GE7⟩
                have hs1 : s = 0 ∨ s = 1 := by omega
                obtain ⟨_, f1, f2, f3, f4, f5, f6, f7, f8, f9, f10, f11⟩ := Ge_facts hs1 GE7
                refine ⟨_, rfl, _, rfl, lc, _, _, _, rfl, rfl, SqL.of f1, at2z (f := fun j => .ref (sel x0 x1 j)) hs1 rfl rfl, ?_⟩
                refine ⟨_, rfl, _, rfl, lA, _, _, _, rfl, rfl, SqL.of f3, at2z (f := fun j => .ref (sel la0 la1 j)) hs1 rfl rfl, ?_⟩
                refine ⟨_, rfl, _, rfl, lp, _, _, _, rfl, rfl, SqL.of f2, at2z (f := fun j => .ref (sel x2 x3 j)) hs1 rfl rfl, ?_⟩
                refine ⟨_, rfl, _, rfl, lJ, _, _, _, rfl, rfl, SqL.of f4, at2z (f := fun j => .ref (sel lj0 lj1 j)) hs1 rfl rfl, ?_⟩
                refine ⟨sel x0 x1 s, sel dx0 dx1 s, sel b0 b1 s, sel la0 la1 s, sel x2 x3 s, sel dx2 dx3 s, sel b2 b3 s, sel lj0 lj1 s, as' s, ts' s, rfl, f5, f6, f9, (by have := (hb' s).1; omega), f7, f8, f10, f11, (by have := (hb' s).2; omega), fun Hm sm => ?_⟩
                (repeat (first | refine ⟨_, rfl, ?_⟩ | refine ⟨_, _, rfl, rfl, ?_⟩ | refine ⟨rfl, ?_⟩ | refine .inl ⟨_, rfl, ?_⟩ | refine .inr ⟨_, rfl, ?_⟩ | refine ⟨.inr ⟨by decide, by decide⟩, ?_⟩ | refine ⟨⟨by decide, by decide⟩, ?_⟩ | refine ⟨⟨by decide, by decide, by decide⟩, ?_⟩ | refine ⟨.inr ⟨by omega, by omega⟩, ?_⟩ | refine ⟨(by show (0 : Int) < _; first | decide | omega), ?_⟩ | refine ⟨Nat.le_trans (Nat.le_of_ble_eq_true rfl : _ ≤ 50) (by decide), ?_⟩ | refine ⟨_, _, _, _, rfl, rfl, upd_same, rfl, ?_⟩ | refine ⟨_, _, _, _, rfl, rfl, SqL.of upd_same, rfl, ?_⟩ | refine ⟨_, _, _, _, rfl, rfl, SqT.of upd_same, rfl, ?_⟩ | refine ⟨_, _, rfl, .inl (SqL.of upd_same), ?_⟩ | refine ⟨_, _, rfl, .inr (SqT.of upd_same), ?_⟩ | (refine' ⟨_, _, _, _, rfl, rfl, _, _, _⟩; rotate_left 2; (focus (first | assumption | exact SqL.of (by assumption) | exact SqT.of (by assumption) | exact Same.seq (by assumption) (by assumption))); (focus (exact rfl))) | (refine' ⟨_, _, rfl, _, _⟩; rotate_left 1; (focus (first | exact .inl (by assumption) | exact .inl (SqL.of (by assumption)) | exact .inr (by assumption) | exact .inr (SqT.of (by assumption)))))))
                exact GE7.mono sm
              · rintro σ H'' ⟨v16, rfl, GE7⟩
                exact ⟨as', ts', _, _, _, _, _, _, _, rfl, GE7.drop, hb'⟩
            · exact ⟨as', ts', _, _, _, _, _, _, _, rfl, GE6.drop, hb'⟩
    · rintro σ H' ⟨as, ts, v10, v11, v12, v13, v14, v15, v16, rfl, GG, hb⟩
      (repeat (first | refine ⟨_, rfl, ?_⟩ | refine ⟨_, _, rfl, rfl, ?_⟩ | refine ⟨rfl, ?_⟩ | refine .inl ⟨_, rfl, ?_⟩ | refine .inr ⟨_, rfl, ?_⟩ | refine ⟨.inr ⟨by decide, by decide⟩, ?_⟩ | refine ⟨⟨by decide, by decide⟩, ?_⟩ | refine ⟨⟨by decide, by decide, by decide⟩, ?_⟩ | refine ⟨.inr ⟨by omega, by omega⟩, ?_⟩ | refine ⟨(by show (0 : Int) < _; first | decide | omega), ?_⟩ | refine ⟨Nat.le_trans (Nat.le_of_ble_eq_true rfl : _ ≤ 50) (by decide), ?_⟩ | refine ⟨_, _, _, _, rfl, rfl, upd_same, rfl, ?_⟩ | refine ⟨_, _, _, _, rfl, rfl, SqL.of upd_same, rfl, ?_⟩ | refine ⟨_, _, _, _, rfl, rfl, SqT.of upd_same, rfl, ?_⟩ | refine ⟨_, _, rfl, .inl (SqL.of upd_same), ?_⟩ | refine ⟨_, _, rfl, .inr (SqT.of upd_same), ?_⟩ | (refine' ⟨_, _, _, _, rfl, rfl, _, _, _⟩; rotate_left 2; (focus (first | assumption | exact SqL.of (by assumption) | exact SqT.of (by assumption) | exact Same.seq (by assumption) (by assumption))); (focus (exact rfl))) | (refine' ⟨_, _, rfl, _, _⟩; rotate_left 1; (focus (first | exact .inl (by assumption) | exact .inl (SqL.of (by assumption)) | exact .inr (by assumption) | exact .inr (SqT.of (by assumption)))))))
      exact q H'
end
end K30

set_option Elab.async false
set_option linter.all false
set_option maxRecDepth 100000
set_option maxHeartbeats 4000000
namespace K30
open PySem PySem.Spec PyProof.Rows L2 QX Lw
theorem all_mk {l : PySem.W.OpenLaw} {w : World} {K : PySem.W.Frag} {h : Heap} {mg : Str → Option Value} {fa : Addr} (X : K.In h) (G : h.Ns mainGlobals mg) (hfa : mg "law" = some (.ref fa))
    {cCache : Addr}
    {cPredictor : Addr}
    {f1 : Addr} {od1 an1 : Option Addr} {sl1 : Array (Option Value)} {oc1 kV1 dc1 pm1 cd1 ct1 : Value}
    {f2 : Addr} {od2 an2 : Option Addr} {sl2 : Array (Option Value)} {oc2 kV2 dc2 pm2 cd2 ct2 : Value}
    {f3 : Addr} {od3 an3 : Option Addr} {sl3 : Array (Option Value)} {oc3 kV3 dc3 pm3 cd3 ct3 : Value}
    {f4 : Addr} {od4 an4 : Option Addr} {sl4 : Array (Option Value)} {oc4 kV4 dc4 pm4 cd4 ct4 : Value}
    {f5 : Addr} {od5 an5 : Option Addr} {sl5 : Array (Option Value)} {oc5 kV5 dc5 pm5 cd5 ct5 : Value}
    {f6 : Addr} {od6 an6 : Option Addr} {sl6 : Array (Option Value)} {oc6 kV6 dc6 pm6 cd6 ct6 : Value}
    {f7 : Addr} {od7 an7 : Option Addr} {sl7 : Array (Option Value)} {oc7 kV7 dc7 pm7 cd7 ct7 : Value}
    {f8 : Addr} {od8 an8 : Option Addr} {sl8 : Array (Option Value)} {oc8 kV8 dc8 pm8 cd8 ct8 : Value}
    {f9 : Addr} {od9 an9 : Option Addr} {sl9 : Array (Option Value)} {oc9 kV9 dc9 pm9 cd9 ct9 : Value}
    {f10 : Addr} {od10 an10 : Option Addr} {sl10 : Array (Option Value)} {oc10 kV10 dc10 pm10 cd10 ct10 : Value}
    {f11 : Addr} {od11 an11 : Option Addr} {sl11 : Array (Option Value)} {oc11 kV11 dc11 pm11 cd11 ct11 : Value}
    {f12 : Addr} {od12 an12 : Option Addr} {sl12 : Array (Option Value)} {oc12 kV12 dc12 pm12 cd12 ct12 : Value}
    {f13 : Addr} {od13 an13 : Option Addr} {sl13 : Array (Option Value)} {oc13 kV13 dc13 pm13 cd13 ct13 : Value}
    {f14 : Addr} {od14 an14 : Option Addr} {sl14 : Array (Option Value)} {oc14 kV14 dc14 pm14 cd14 ct14 : Value}
    {f15 : Addr} {od15 an15 : Option Addr} {sl15 : Array (Option Value)} {oc15 kV15 dc15 pm15 cd15 ct15 : Value}
    {f16 : Addr} {od16 an16 : Option Addr} {sl16 : Array (Option Value)} {oc16 kV16 dc16 pm16 cd16 ct16 : Value}
    {f17 : Addr} {od17 an17 : Option Addr} {sl17 : Array (Option Value)} {oc17 kV17 dc17 pm17 cd17 ct17 : Value}
    {f18 : Addr} {od18 an18 : Option Addr} {sl18 : Array (Option Value)} {oc18 kV18 dc18 pm18 cd18 ct18 : Value}
    {f19 : Addr} {od19 an19 : Option Addr} {sl19 : Array (Option Value)} {oc19 kV19 dc19 pm19 cd19 ct19 : Value}
    {f20 : Addr} {od20 an20 : Option Addr} {sl20 : Array (Option Value)} {oc20 kV20 dc20 pm20 cd20 ct20 : Value}
    {c_CYCLES : Addr}
    {es_CYCLES : Array DictEntry} {n_CYCLES : Nat}
    {t_LINES : Tok}
    {t_BLOCK_SIZE : Tok}
    {t_HIT : Tok}
    {t_MISS : Tok}
    {t_COUNTERS : Tok}
    {t_STRONGEST : Tok}
    (gCache : PySem.W.nsIn K mainGlobals "Cache" = some (some (.ref cCache))) (pgCache : PySem.W.plainGet K cCache Str.empty = true) (hdCache : PySem.W.hasDictIn K cCache = true) (poCache : PySem.W.plainOver K cCache = true) (saCache : PySem.W.findIn K (.ref cCache) "__setattr__" = some (some (.builtin "object.__setattr__"))) (mkCache : PySem.W.makesIn K cCache = true) (kcCache : PySem.W.keepIn K (.ref cCache) = true)
    (nf_Cache_blocks : PySem.W.findIn K (.ref cCache) "blocks" = some none)
    (gPredictor : PySem.W.nsIn K mainGlobals "Predictor" = some (some (.ref cPredictor))) (pgPredictor : PySem.W.plainGet K cPredictor Str.empty = true) (hdPredictor : PySem.W.hasDictIn K cPredictor = true) (poPredictor : PySem.W.plainOver K cPredictor = true) (saPredictor : PySem.W.findIn K (.ref cPredictor) "__setattr__" = some (some (.builtin "object.__setattr__"))) (mkPredictor : PySem.W.makesIn K cPredictor = true) (kcPredictor : PySem.W.keepIn K (.ref cPredictor) = true)
    (nf_Predictor_marks : PySem.W.findIn K (.ref cPredictor) "marks" = some none)
    (a1 : PySem.W.nsIn K mainGlobals "base_cycles" = some (some (.ref f1))) (l1 : K.lookup f1 = some ⟨oc1, od1, .func (PySem.W.fnOf "base_cycles" "base_cycles" (defArgs s_base_cycles) (defBody s_base_cycles) (defScope s_base_cycles) .none kV1 dc1 pm1 an1 cd1 ct1), sl1⟩) (c1 : PySem.W.codeIn K cd1 "base_cycles" = true) (k1 : PySem.W.keepIn K (.ref f1) = true)
    (a2 : PySem.W.findIn K (.ref cCache) "__init__" = some (some (.ref f2))) (l2 : K.lookup f2 = some ⟨oc2, od2, .func (PySem.W.fnOf "__init__" "Cache.__init__" (defArgs s_Cache_init) (defBody s_Cache_init) (defScope s_Cache_init) .none kV2 dc2 pm2 an2 cd2 ct2), sl2⟩) (c2 : PySem.W.codeIn K cd2 "Cache.__init__" = true) (k2 : PySem.W.keepIn K (.ref f2) = true)
    (i2 : PySem.W.isFn K (.ref f2) = true)
    (a3 : PySem.W.findIn K (.ref cCache) "access" = some (some (.ref f3))) (l3 : K.lookup f3 = some ⟨oc3, od3, .func (PySem.W.fnOf "access" "Cache.access" (defArgs s_Cache_access) (defBody s_Cache_access) (defScope s_Cache_access) .none kV3 dc3 pm3 an3 cd3 ct3), sl3⟩) (c3 : PySem.W.codeIn K cd3 "Cache.access" = true) (k3 : PySem.W.keepIn K (.ref f3) = true)
    (i3 : PySem.W.isFn K (.ref f3) = true)
    (a4 : PySem.W.findIn K (.ref cCache) "lines" = some (some (.ref f4))) (l4 : K.lookup f4 = some ⟨oc4, od4, .func (PySem.W.fnOf "lines" "Cache.lines" (defArgs s_Cache_lines) (defBody s_Cache_lines) (defScope s_Cache_lines) .none kV4 dc4 pm4 an4 cd4 ct4), sl4⟩) (c4 : PySem.W.codeIn K cd4 "Cache.lines" = true) (k4 : PySem.W.keepIn K (.ref f4) = true)
    (i4 : PySem.W.isFn K (.ref f4) = true)
    (a5 : PySem.W.findIn K (.ref cPredictor) "__init__" = some (some (.ref f5))) (l5 : K.lookup f5 = some ⟨oc5, od5, .func (PySem.W.fnOf "__init__" "Predictor.__init__" (defArgs s_Predictor_init) (defBody s_Predictor_init) (defScope s_Predictor_init) .none kV5 dc5 pm5 an5 cd5 ct5), sl5⟩) (c5 : PySem.W.codeIn K cd5 "Predictor.__init__" = true) (k5 : PySem.W.keepIn K (.ref f5) = true)
    (i5 : PySem.W.isFn K (.ref f5) = true)
    (a6 : PySem.W.findIn K (.ref cPredictor) "branch" = some (some (.ref f6))) (l6 : K.lookup f6 = some ⟨oc6, od6, .func (PySem.W.fnOf "branch" "Predictor.branch" (defArgs s_Predictor_branch) (defBody s_Predictor_branch) (defScope s_Predictor_branch) .none kV6 dc6 pm6 an6 cd6 ct6), sl6⟩) (c6 : PySem.W.codeIn K cd6 "Predictor.branch" = true) (k6 : PySem.W.keepIn K (.ref f6) = true)
    (i6 : PySem.W.isFn K (.ref f6) = true)
    (a7 : PySem.W.findIn K (.ref cPredictor) "counters" = some (some (.ref f7))) (l7 : K.lookup f7 = some ⟨oc7, od7, .func (PySem.W.fnOf "counters" "Predictor.counters" (defArgs s_Predictor_counters) (defBody s_Predictor_counters) (defScope s_Predictor_counters) .none kV7 dc7 pm7 an7 cd7 ct7), sl7⟩) (c7 : PySem.W.codeIn K cd7 "Predictor.counters" = true) (k7 : PySem.W.keepIn K (.ref f7) = true)
    (i7 : PySem.W.isFn K (.ref f7) = true)
    (a8 : PySem.W.nsIn K mainGlobals "_law_source" = some (some (.ref f8))) (l8 : K.lookup f8 = some ⟨oc8, od8, .func (PySem.W.fnOf "_law_source" "_law_source" (defArgs s_law_source) (defBody s_law_source) (defScope s_law_source) .none kV8 dc8 pm8 an8 cd8 ct8), sl8⟩) (c8 : PySem.W.codeIn K cd8 "_law_source" = true) (k8 : PySem.W.keepIn K (.ref f8) = true)
    (a9 : PySem.W.nsIn K mainGlobals "_law_draw" = some (some (.ref f9))) (l9 : K.lookup f9 = some ⟨oc9, od9, .func (PySem.W.fnOf "_law_draw" "_law_draw" (defArgs s_law_draw) (defBody s_law_draw) (defScope s_law_draw) .none kV9 dc9 pm9 an9 cd9 ct9), sl9⟩) (c9 : PySem.W.codeIn K cd9 "_law_draw" = true) (k9 : PySem.W.keepIn K (.ref f9) = true)
    (a10 : PySem.W.nsIn K mainGlobals "_law_is_number" = some (some (.ref f10))) (l10 : K.lookup f10 = some ⟨oc10, od10, .func (PySem.W.fnOf "_law_is_number" "_law_is_number" (defArgs s_law_is_number) (defBody s_law_is_number) (defScope s_law_is_number) .none kV10 dc10 pm10 an10 cd10 ct10), sl10⟩) (c10 : PySem.W.codeIn K cd10 "_law_is_number" = true) (k10 : PySem.W.keepIn K (.ref f10) = true)
    (a11 : PySem.W.nsIn K mainGlobals "_law_are_numbers" = some (some (.ref f11))) (l11 : K.lookup f11 = some ⟨oc11, od11, .func (PySem.W.fnOf "_law_are_numbers" "_law_are_numbers" (defArgs s_law_are_numbers) (defBody s_law_are_numbers) (defScope s_law_are_numbers) .none kV11 dc11 pm11 an11 cd11 ct11), sl11⟩) (c11 : PySem.W.codeIn K cd11 "_law_are_numbers" = true) (k11 : PySem.W.keepIn K (.ref f11) = true)
    (a12 : PySem.W.nsIn K mainGlobals "_law_base_holds" = some (some (.ref f12))) (l12 : K.lookup f12 = some ⟨oc12, od12, .func (PySem.W.fnOf "_law_base_holds" "_law_base_holds" (defArgs s_law_base_holds) (defBody s_law_base_holds) (defScope s_law_base_holds) .none kV12 dc12 pm12 an12 cd12 ct12), sl12⟩) (c12 : PySem.W.codeIn K cd12 "_law_base_holds" = true) (k12 : PySem.W.keepIn K (.ref f12) = true)
    (a13 : PySem.W.nsIn K mainGlobals "_law_held" = some (some (.ref f13))) (l13 : K.lookup f13 = some ⟨oc13, od13, .func (PySem.W.fnOf "_law_held" "_law_held" (defArgs s_law_held) (defBody s_law_held) (defScope s_law_held) .none kV13 dc13 pm13 an13 cd13 ct13), sl13⟩) (c13 : PySem.W.codeIn K cd13 "_law_held" = true) (k13 : PySem.W.keepIn K (.ref f13) = true)
    (a14 : PySem.W.nsIn K mainGlobals "_law_count" = some (some (.ref f14))) (l14 : K.lookup f14 = some ⟨oc14, od14, .func (PySem.W.fnOf "_law_count" "_law_count" (defArgs s_law_count) (defBody s_law_count) (defScope s_law_count) .none kV14 dc14 pm14 an14 cd14 ct14), sl14⟩) (c14 : PySem.W.codeIn K cd14 "_law_count" = true) (k14 : PySem.W.keepIn K (.ref f14) = true)
    (a15 : PySem.W.nsIn K mainGlobals "_law_access_holds" = some (some (.ref f15))) (l15 : K.lookup f15 = some ⟨oc15, od15, .func (PySem.W.fnOf "_law_access_holds" "_law_access_holds" (defArgs s_law_access_holds) (defBody s_law_access_holds) (defScope s_law_access_holds) .none kV15 dc15 pm15 an15 cd15 ct15), sl15⟩) (c15 : PySem.W.codeIn K cd15 "_law_access_holds" = true) (k15 : PySem.W.keepIn K (.ref f15) = true)
    (a16 : PySem.W.nsIn K mainGlobals "_law_branch_holds" = some (some (.ref f16))) (l16 : K.lookup f16 = some ⟨oc16, od16, .func (PySem.W.fnOf "_law_branch_holds" "_law_branch_holds" (defArgs s_law_branch_holds) (defBody s_law_branch_holds) (defScope s_law_branch_holds) .none kV16 dc16 pm16 an16 cd16 ct16), sl16⟩) (c16 : PySem.W.codeIn K cd16 "_law_branch_holds" = true) (k16 : PySem.W.keepIn K (.ref f16) = true)
    (a17 : PySem.W.nsIn K mainGlobals "_law_state_holds" = some (some (.ref f17))) (l17 : K.lookup f17 = some ⟨oc17, od17, .func (PySem.W.fnOf "_law_state_holds" "_law_state_holds" (defArgs s_law_state_holds) (defBody s_law_state_holds) (defScope s_law_state_holds) .none kV17 dc17 pm17 an17 cd17 ct17), sl17⟩) (c17 : PySem.W.codeIn K cd17 "_law_state_holds" = true) (k17 : PySem.W.keepIn K (.ref f17) = true)
    (a18 : PySem.W.nsIn K mainGlobals "_law_address" = some (some (.ref f18))) (l18 : K.lookup f18 = some ⟨oc18, od18, .func (PySem.W.fnOf "_law_address" "_law_address" (defArgs s_law_address) (defBody s_law_address) (defScope s_law_address) .none kV18 dc18 pm18 an18 cd18 ct18), sl18⟩) (c18 : PySem.W.codeIn K cd18 "_law_address" = true) (k18 : PySem.W.keepIn K (.ref f18) = true)
    (a19 : PySem.W.nsIn K mainGlobals "_law_place" = some (some (.ref f19))) (l19 : K.lookup f19 = some ⟨oc19, od19, .func (PySem.W.fnOf "_law_place" "_law_place" (defArgs s_law_place) (defBody s_law_place) (defScope s_law_place) .none kV19 dc19 pm19 an19 cd19 ct19), sl19⟩) (c19 : PySem.W.codeIn K cd19 "_law_place" = true) (k19 : PySem.W.keepIn K (.ref f19) = true)
    (a20 : PySem.W.nsIn K mainGlobals "law" = some (some (.ref f20))) (l20 : K.lookup f20 = some ⟨oc20, od20, .func (PySem.W.fnOf "law" "law" (defArgs s_law) (defBody s_law) (defScope s_law) .none kV20 dc20 pm20 an20 cd20 ct20), sl20⟩) (c20 : PySem.W.codeIn K cd20 "law" = true) (k20 : PySem.W.keepIn K (.ref f20) = true)
    (g_CYCLES : PySem.W.nsIn K mainGlobals "CYCLES" = some (some (.ref c_CYCLES)))
    (lk_CYCLES : K.lookup c_CYCLES = some ⟨.type "dict", none, .dict es_CYCLES n_CYCLES, #[]⟩) (kl_CYCLES : PySem.W.KeysLit w.params es_CYCLES.toList) (lo_CYCLES : (c_CYCLES == sysModules) = false)
    (g_LINES : PySem.W.nsIn K mainGlobals "LINES" = some (some (.int 8 t_LINES)))
    (g_BLOCK_SIZE : PySem.W.nsIn K mainGlobals "BLOCK_SIZE" = some (some (.int 4 t_BLOCK_SIZE)))
    (g_HIT : PySem.W.nsIn K mainGlobals "HIT" = some (some (.int 1 t_HIT)))
    (g_MISS : PySem.W.nsIn K mainGlobals "MISS" = some (some (.int 6 t_MISS)))
    (g_COUNTERS : PySem.W.nsIn K mainGlobals "COUNTERS" = some (some (.int 16 t_COUNTERS)))
    (g_STRONGEST : PySem.W.nsIn K mainGlobals "STRONGEST" = some (some (.int 3 t_STRONGEST)))
    (z_abs : PySem.W.nsIn K mainGlobals "abs" = some none)
    (z_bool : PySem.W.nsIn K mainGlobals "bool" = some none)
    (z_int : PySem.W.nsIn K mainGlobals "int" = some none)
    (z_isinstance : PySem.W.nsIn K mainGlobals "isinstance" = some none)
    (z_len : PySem.W.nsIn K mainGlobals "len" = some none)
    (z_list : PySem.W.nsIn K mainGlobals "list" = some none)
    (z_max : PySem.W.nsIn K mainGlobals "max" = some none)
    (z_min : PySem.W.nsIn K mainGlobals "min" = some none)
    (z_range : PySem.W.nsIn K mainGlobals "range" = some none)
    (kitcy : KDx.getB K c_CYCLES 1 KDx.cycles25 = true)
    : ∃ fd : FuncData, (∀ (s : Shared) (v : Value), BindsTo s fd ⟨[v], []⟩ [("script", v)]) ∧ ∀ base : Heap, K.In base → base.Ns mainGlobals mg → FnOk l.prog w K mg base CX0 4 fa fd ["script"] (spLaw K) := by
  have e := hfa.symm.trans (PySem.W.mg_of X G a20)
  cases e
  have F1 := fun_mk (st := s_base_cycles) l1 c1 k1
  have b1 := F1.binds (ps := ["name"]) fun _ _ _ _ _ _ us hl => match us, hl with | [_], _ => rfl
  have F2 := fun_mk (st := s_Cache_init) l2 c2 k2
  have b2 := F2.binds (ps := ["self"]) fun _ _ _ _ _ _ us hl => match us, hl with | [_], _ => rfl
  have F3 := fun_mk (st := s_Cache_access) l3 c3 k3
  have b3 := F3.binds (ps := ["self", "address"]) fun _ _ _ _ _ _ us hl => match us, hl with | [_, _], _ => rfl
  have F4 := fun_mk (st := s_Cache_lines) l4 c4 k4
  have b4 := F4.binds (ps := ["self"]) fun _ _ _ _ _ _ us hl => match us, hl with | [_], _ => rfl
  have F5 := fun_mk (st := s_Predictor_init) l5 c5 k5
  have b5 := F5.binds (ps := ["self"]) fun _ _ _ _ _ _ us hl => match us, hl with | [_], _ => rfl
  have F6 := fun_mk (st := s_Predictor_branch) l6 c6 k6
  have b6 := F6.binds (ps := ["self", "place", "jumps"]) fun _ _ _ _ _ _ us hl => match us, hl with | [_, _, _], _ => rfl
  have F7 := fun_mk (st := s_Predictor_counters) l7 c7 k7
  have b7 := F7.binds (ps := ["self"]) fun _ _ _ _ _ _ us hl => match us, hl with | [_], _ => rfl
  have F8 := fun_mk (st := s_law_source) l8 c8 k8
  have b8 := F8.binds (ps := ["script", "k"]) fun _ _ _ _ _ _ us hl => match us, hl with | [_, _], _ => rfl
  have F9 := fun_mk (st := s_law_draw) l9 c9 k9
  have b9 := F9.binds (ps := ["source", "many"]) fun _ _ _ _ _ _ us hl => match us, hl with | [_, _], _ => rfl
  have F10 := fun_mk (st := s_law_is_number) l10 c10 k10
  have b10 := F10.binds (ps := ["value", "due"]) fun _ _ _ _ _ _ us hl => match us, hl with | [_, _], _ => rfl
  have F11 := fun_mk (st := s_law_are_numbers) l11 c11 k11
  have b11 := F11.binds (ps := ["values", "due"]) fun _ _ _ _ _ _ us hl => match us, hl with | [_, _], _ => rfl
  have F12 := fun_mk (st := s_law_base_holds) l12 c12 k12
  have b12 := F12.binds (ps := []) fun _ _ _ _ _ _ us hl => match us, hl with | [], _ => rfl
  have F13 := fun_mk (st := s_law_held) l13 c13 k13
  have b13 := F13.binds (ps := ["addresses", "line"]) fun _ _ _ _ _ _ us hl => match us, hl with | [_, _], _ => rfl
  have F14 := fun_mk (st := s_law_count) l14 c14 k14
  have b14 := F14.binds (ps := ["jumps", "number"]) fun _ _ _ _ _ _ us hl => match us, hl with | [_, _], _ => rfl
  have F15 := fun_mk (st := s_law_access_holds) l15 c15 k15
  have b15 := F15.binds (ps := ["cache", "addresses", "address"]) fun _ _ _ _ _ _ us hl => match us, hl with | [_, _, _], _ => rfl
  have F16 := fun_mk (st := s_law_branch_holds) l16 c16 k16
  have b16 := F16.binds (ps := ["predictor", "jumps", "place", "jumped"]) fun _ _ _ _ _ _ us hl => match us, hl with | [_, _, _, _], _ => rfl
  have F17 := fun_mk (st := s_law_state_holds) l17 c17 k17
  have b17 := F17.binds (ps := ["cache", "addresses", "predictor", "jumps"]) fun _ _ _ _ _ _ us hl => match us, hl with | [_, _, _, _], _ => rfl
  have F18 := fun_mk (st := s_law_address) l18 c18 k18
  have b18 := F18.binds (ps := ["source", "near"]) fun _ _ _ _ _ _ us hl => match us, hl with | [_, _], _ => rfl
  have F19 := fun_mk (st := s_law_place) l19 c19 k19
  have b19 := F19.binds (ps := ["source", "near"]) fun _ _ _ _ _ _ us hl => match us, hl with | [_, _], _ => rfl
  have F20 := fun_mk (st := s_law) l20 c20 k20
  have b20 := F20.binds (ps := ["script"]) fun _ _ _ _ _ _ us hl => match us, hl with | [_], _ => rfl
  have T : Tx w K mg := ⟨_, PySem.W.mg_of X G gCache, ⟨pgCache, hdCache, poCache, saCache⟩, nf_Cache_blocks, _, PySem.W.mg_of X G gPredictor, ⟨pgPredictor, hdPredictor, poPredictor, saPredictor⟩, nf_Predictor_marks, _, _, F1, b1, PySem.W.mg_of X G a1, _, _, F2, b2, ⟨mkCache, a2, i2, kcCache⟩, _, _, F3, b3, ⟨a3, i3, k3⟩, _, _, F4, b4, ⟨a4, i4, k4⟩, _, _, F5, b5, ⟨mkPredictor, a5, i5, kcPredictor⟩, _, _, F6, b6, ⟨a6, i6, k6⟩, _, _, F7, b7, ⟨a7, i7, k7⟩, _, _, F8, b8, PySem.W.mg_of X G a8, _, _, F9, b9, PySem.W.mg_of X G a9, _, _, F10, b10, PySem.W.mg_of X G a10, _, _, F11, b11, PySem.W.mg_of X G a11, _, _, F12, b12, PySem.W.mg_of X G a12, _, _, F13, b13, PySem.W.mg_of X G a13, _, _, F14, b14, PySem.W.mg_of X G a14, _, _, F15, b15, PySem.W.mg_of X G a15, _, _, F16, b16, PySem.W.mg_of X G a16, _, _, F17, b17, PySem.W.mg_of X G a17, _, _, F18, b18, PySem.W.mg_of X G a18, _, _, F19, b19, PySem.W.mg_of X G a19, _, _, F20, b20, PySem.W.mg_of X G a20, _, PySem.W.mg_of X G g_CYCLES, rfl, _, _, ⟨lk_CYCLES, kl_CYCLES, lo_CYCLES⟩, _, PySem.W.mg_of X G g_LINES, ⟨_, rfl⟩, _, PySem.W.mg_of X G g_BLOCK_SIZE, ⟨_, rfl⟩, _, PySem.W.mg_of X G g_HIT, ⟨_, rfl⟩, _, PySem.W.mg_of X G g_MISS, ⟨_, rfl⟩, _, PySem.W.mg_of X G g_COUNTERS, ⟨_, rfl⟩, _, PySem.W.mg_of X G g_STRONGEST, ⟨_, rfl⟩, PySem.W.mg_none_of X G z_abs, PySem.W.mg_none_of X G z_bool, PySem.W.mg_none_of X G z_int, PySem.W.mg_none_of X G z_isinstance, PySem.W.mg_none_of X G z_len, PySem.W.mg_none_of X G z_list, PySem.W.mg_none_of X G z_max, PySem.W.mg_none_of X G z_min, PySem.W.mg_none_of X G z_range, kitcy⟩
  exact ⟨PySem.W.fnOf "law" "law" (defArgs s_law) (defBody s_law) (defScope s_law) .none kV20 dc20 pm20 an20 cd20 ct20, fun s v => .of_eq rfl, fun base _ _ => ok_law' T F20⟩
end K30
open PySem PySem.W PyProof.Rows
set_option maxHeartbeats 0 in
theorem PySem.Challenge.cw_quietsmith_k30_cache_and_predictor_holds : PySem.Challenge.rw_quietsmith_k30_cache_and_predictor.Holds := by
  w_on; o_law; k_head; (case hw => w_witness2)
  k_fill
  refine L2.walk_of (l := PySem.Challenge.rw_quietsmith_k30_cache_and_predictor) (n := 63) (k := 4) (x := "script") (CX := fun _ => L2.CX0) (sp := fun w => K30.spLaw _) rfl (by decide) rfl ⟨rfl, by decide, by decide⟩ (fun w h Y => PySem.W.kIn_of Y) ?F (fun _ _ a ns hl _ hS => ⟨a, ns, rfl, hS, hl, fun _ => rfl⟩) (fun _ _ _ _ _ h => h)
  case F =>
    intro w mg fa h KX G hmg
    refine' K30.all_mk KX G hmg ?gCache ?pgCache ?hdCache ?poCache ?saCache ?mkCache ?kcCache ?nf_Cache_blocks ?gPredictor ?pgPredictor ?hdPredictor ?poPredictor ?saPredictor ?mkPredictor ?kcPredictor ?nf_Predictor_marks ?a1 ?l1 ?c1 ?k1 ?a2 ?l2 ?c2 ?k2 ?i2 ?a3 ?l3 ?c3 ?k3 ?i3 ?a4 ?l4 ?c4 ?k4 ?i4 ?a5 ?l5 ?c5 ?k5 ?i5 ?a6 ?l6 ?c6 ?k6 ?i6 ?a7 ?l7 ?c7 ?k7 ?i7 ?a8 ?l8 ?c8 ?k8 ?a9 ?l9 ?c9 ?k9 ?a10 ?l10 ?c10 ?k10 ?a11 ?l11 ?c11 ?k11 ?a12 ?l12 ?c12 ?k12 ?a13 ?l13 ?c13 ?k13 ?a14 ?l14 ?c14 ?k14 ?a15 ?l15 ?c15 ?k15 ?a16 ?l16 ?c16 ?k16 ?a17 ?l17 ?c17 ?k17 ?a18 ?l18 ?c18 ?k18 ?a19 ?l19 ?c19 ?k19 ?a20 ?l20 ?c20 ?k20 ?g_CYCLES ?lk_CYCLES ?kl_CYCLES ?lo_CYCLES ?g_LINES ?g_BLOCK_SIZE ?g_HIT ?g_MISS ?g_COUNTERS ?g_STRONGEST ?z_abs ?z_bool ?z_int ?z_isinstance ?z_len ?z_list ?z_max ?z_min ?z_range ?kitcy
    (case gCache => k_is)
    (case pgCache => k_is)
    (case hdCache => k_is)
    (case poCache => k_is)
    (case saCache => k_is)
    (case mkCache => k_is)
    (case kcCache => k_is)
    (case nf_Cache_blocks => k_is)
    (case gPredictor => k_is)
    (case pgPredictor => k_is)
    (case hdPredictor => k_is)
    (case poPredictor => k_is)
    (case saPredictor => k_is)
    (case mkPredictor => k_is)
    (case kcPredictor => k_is)
    (case nf_Predictor_marks => k_is)
    (case a1 => k_is)
    (case l1 => k_is)
    (case c1 => k_is)
    (case k1 => k_is)
    (case a2 => k_is)
    (case l2 => k_is)
    (case c2 => k_is)
    (case k2 => k_is)
    (case i2 => k_is)
    (case a3 => k_is)
    (case l3 => k_is)
    (case c3 => k_is)
    (case k3 => k_is)
    (case i3 => k_is)
    (case a4 => k_is)
    (case l4 => k_is)
    (case c4 => k_is)
    (case k4 => k_is)
    (case i4 => k_is)
    (case a5 => k_is)
    (case l5 => k_is)
    (case c5 => k_is)
    (case k5 => k_is)
    (case i5 => k_is)
    (case a6 => k_is)
    (case l6 => k_is)
    (case c6 => k_is)
    (case k6 => k_is)
    (case i6 => k_is)
    (case a7 => k_is)
    (case l7 => k_is)
    (case c7 => k_is)
    (case k7 => k_is)
    (case i7 => k_is)
    (case a8 => k_is)
    (case l8 => k_is)
    (case c8 => k_is)
    (case k8 => k_is)
    (case a9 => k_is)
    (case l9 => k_is)
    (case c9 => k_is)
    (case k9 => k_is)
    (case a10 => k_is)
    (case l10 => k_is)
    (case c10 => k_is)
    (case k10 => k_is)
    (case a11 => k_is)
    (case l11 => k_is)
    (case c11 => k_is)
    (case k11 => k_is)
    (case a12 => k_is)
    (case l12 => k_is)
    (case c12 => k_is)
    (case k12 => k_is)
    (case a13 => k_is)
    (case l13 => k_is)
    (case c13 => k_is)
    (case k13 => k_is)
    (case a14 => k_is)
    (case l14 => k_is)
    (case c14 => k_is)
    (case k14 => k_is)
    (case a15 => k_is)
    (case l15 => k_is)
    (case c15 => k_is)
    (case k15 => k_is)
    (case a16 => k_is)
    (case l16 => k_is)
    (case c16 => k_is)
    (case k16 => k_is)
    (case a17 => k_is)
    (case l17 => k_is)
    (case c17 => k_is)
    (case k17 => k_is)
    (case a18 => k_is)
    (case l18 => k_is)
    (case c18 => k_is)
    (case k18 => k_is)
    (case a19 => k_is)
    (case l19 => k_is)
    (case c19 => k_is)
    (case k19 => k_is)
    (case a20 => k_is)
    (case l20 => k_is)
    (case c20 => k_is)
    (case k20 => k_is)
    (case g_CYCLES => k_is)
    (case lk_CYCLES => k_is)
    (case kl_CYCLES => repeat first | exact True.intro | refine ⟨⟨_, _, rfl, rfl⟩, ?_⟩)
    (case lo_CYCLES => first | rfl | decide)
    (case g_LINES => k_is)
    (case g_BLOCK_SIZE => k_is)
    (case g_HIT => k_is)
    (case g_MISS => k_is)
    (case g_COUNTERS => k_is)
    (case g_STRONGEST => k_is)
    (case z_abs => k_is)
    (case z_bool => k_is)
    (case z_int => k_is)
    (case z_isinstance => k_is)
    (case z_len => k_is)
    (case z_list => k_is)
    (case z_max => k_is)
    (case z_min => k_is)
    (case z_range => k_is)
    (case kitcy => kernel_rfl)

