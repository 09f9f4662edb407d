import PyProof.Rows.All
import Wide.All
import OpenK.AllK
import Wide.FinOn
import HandS.ForExc
import HandS.ExcInit
import HandS.FStr
import KE.KExcSuper
import HandS.IsInst
import HandS.ExcField
import KE.KExcIs
import KE.KIsAll
import HandS.TryOnly
import HandS.ForMost
import HandS.More
import HandS.Zip
import HandS.Walk
import KE.GoesMore
import KE.GoesEnum
import HandS.TupMul
import HandS.AnyAll
import HandS.EndTab
import HandS.GenList
import HandS.Words
import HandS.Call
import HandS.ExcOwn
import HandS.Text
import HandS.TupAny
import HandS.WideBits
import HandS.DictComp
import HandS.Flow
import HandS.Codes
import PySem.Challenge.RW_quietsmith_k26_instruction_forms
set_option Elab.async false
set_option linter.all false
set_option maxRecDepth 100000
set_option maxHeartbeats 4000000
/-! An own error whose __init__ begins with super().__init__(text): its def, kept as a promise. -/
namespace QX
open PySem PySem.Spec PyProof.Rows L2
/-- the last of a row of names that differ -/
theorem last_of {ps : List Str} {us : List Value} (nd : ps.Nodup) : ∀ {i : Nat} {x : Str} {u : Value}, ps[i]? = some x → us[i]? = some u → ((ps.zip us).reverse).lookup x = some u := by
  induction ps generalizing us with
  | nil =>
    intro i x u h _
    cases i <;> cases h
  | cons p r ih =>
    intro i x u h g
    cases us with
    | nil => cases i <;> cases g
    | cons v t =>
      have n1 : p ∉ r := (List.nodup_cons.mp nd).1
      have n2 := (List.nodup_cons.mp nd).2
      rw [List.zip_cons_cons, List.reverse_cons, List.lookup_append]
      cases i with
      | zero =>
        obtain rfl : p = x := Option.some.inj h
        obtain rfl : v = u := Option.some.inj g
        have e : ((r.zip t).reverse).lookup p = none := by
          rw [List.lookup_eq_none_iff]
          intro q hq
          have h1 : q.1 ∈ r := (List.of_mem_zip (List.mem_reverse.mp hq)).1
          exact bne_iff_ne.mpr fun (z : p = q.1) => n1 (by rw [z]; exact h1)
        rw [e]
        simp [List.lookup]
      | succ i =>
        rw [ih n2 h g]
        rfl
/-- a def of a class's body that closes over __class__ -/
structure FunS (P : Program) (K : PySem.W.Frag) (x qual : Str) (st : Stmt) (D f : Addr) (fd : FuncData) : Prop where
  ex : ∃ (oc : Value) (od : Option Addr) (kV doc pm : Value) (an : Option Addr) (cda cc : Addr) (ct : Value) (osl : Array (Option Value)) (ccl : Value) (cdd : Option Addr) (vs : Array Value) (ccs : Array (Option Value)) (file : Str) (tf : Tok) (cl : Value) (cld : Option Addr) (csl : Array (Option Value)),
    fd = PySem.W.ksFn x qual (defArgs st) (defBody st) (defScope st) .none kV doc pm an (.ref cda) ct cc ∧ K.lookup f = some ⟨oc, od, .func fd, osl⟩ ∧ PySem.W.codeIn K (.ref cda) qual = true ∧
    K.lookup cda = some ⟨ccl, cdd, .fields vs, ccs⟩ ∧ vs[2]? = some (.str file tf) ∧ ((P.main.file : Str) == file) = true ∧ K.lookup cc = some ⟨cl, cld, .cell (some (.ref D)), csl⟩
/-- its scope: the parameters alone, and the two names of super() -/
structure ScS (ps : List Str) (sc : Scope) : Prop where
  kind : sc.kind = .function
  co : sc.isCoroutine = false
  gen : sc.isGenerator = false
  par : ∀ n ∈ ps, sc.names.lookup n = some .local
  nd : ps.Nodup
  cell : ∀ y ∈ sc.names, y.2 ≠ .cell
  free : ∀ y ∈ sc.names, y.2 = .free → y.1 = ("__class__" : Str)
  sup : sc.names.lookup ("super" : Str) = some .globalImplicit
  cls : sc.names.lookup ("__class__" : Str) = some .free
abbrev envS (qual : Str) (sc : Scope) (L f : Addr) (cd : Value) (cc : Addr) : Env := PySem.W.ksEnv qual sc L f cd cc
def cxS (CX : CXT) (P : Program) (w : World) (K : PySem.W.Frag) (mg : Str → Option Value) (base : Heap) (N : List Str) (qual : Str) (sc : Scope) (f : Addr) (cd : Value) (cc : Addr) (A : Around) (outer : List Env) (s : Shared) (H : Hp) (E : XK) : Cx where
  prog := P
  w := w
  K := K
  mg := mg
  base := base
  A := A.deeper (envS qual sc s.heap.objs.size f cd cc)
  N := N
  s_0 := s
  H_0 := H
  env := envS qual sc s.heap.objs.size f cd cc
  outer := outer
  stack := envS qual sc s.heap.objs.size f cd cc :: outer
  ex := []
  calm := true
  fn := fun _ => false
  pn := []
  xe := fun e s' => wpAny (model P w) (A.deeper (envS qual sc s.heap.objs.size f cd cc)) (leaving (envS qual sc s.heap.objs.size f cd cc) e) (fun _ s'' => CX outer H s E e s'') (fun e' s'' => CX outer H s E e' s'') s'
theorem kind_of {ps : List Str} {sc : Scope} (S : ScS ps sc) {y : Str} (h : sc.names.lookup y = some .free) : y = ("__class__" : Str) := S.free (y, .free) (PySem.mem_of_lookup h) rfl
theorem begin_S {CX : CXT} {P : Program} {w : World} {K : PySem.W.Frag} {mg : Str → Option Value} {base : Heap} {ps : List Str} {qual : Str} {sc : Scope} {f cc D : Addr} {cd : Value} {A : Around} {outer : List Env} {s : Shared} {h₀ : Heap} {tk : Nat} {H : Hp} {E : XK} {us : List Value} {vs : List V}
    {cl : Value} {cld : Option Addr} {csl : Array (Option Value)} (S : ScS ps sc) (hd : A.handled = none) (e0 : Env0 P w K mg base A outer s H) (hl : vs.length = ps.length) (r : Vals vs us) (lc : K.lookup cc = some ⟨cl, cld, .cell (some (.ref D)), csl⟩)
    (hns : h₀.Ns s.heap.objs.size (fun x => ((ps.zip us).reverse).lookup x)) (hk : ∀ b o, s.heap.get? b = some o → h₀.get? b = some o) :
    Inv (cxS CX P w K mg base ps qual sc f cd cc A outer s H E) [] (L2.start ps vs) H { s with heap := h₀, toks := tk } := by
  have noA : ∀ b : Addr, b ∉ (cxS CX P w K mg base ps qual sc f cd cc A outer s H E).ex := fun b z => absurd (show b ∈ ([] : List Addr) from z) (by simp)
  have one : ∀ {x : Str} {c : Addr}, (cxS CX P w K mg base ps qual sc f cd cc A outer s H E).env.cells.lookup x = some c → x = ("__class__" : Str) ∧ c = cc := by
    intro x c h
    have h2 : ([(("__class__" : Str), cc)] : List (Str × Addr)).lookup x = some c := h
    by_cases e : x = ("__class__" : Str)
    · subst e
      have h3 : some cc = some c := by simpa [List.lookup] using h2
      exact ⟨rfl, (Option.some.inj h3).symm⟩
    · have e2 : (x == ("__class__" : Str)) = false := by simpa using e
      have h3 : (none : Option Addr) = some c := by simpa [List.lookup, e2] using h2
      cases h3
  have b1 := e0.bs cc _ (e0.mod.kin _ _ lc)
  refine ⟨⟨e0.mod, S.kind, rfl, rfl, Nat.le_refl _, fun x y c h1 h2 => (one h1).1.trans (one h2).1.symm, fun y hy => ?_, (fun y c z _ => nomatch z), fun _ => hd, Around.frames_deeper e0.frames, .inr ⟨rfl, rfl⟩, fun b z => absurd z (noA b), e0.bs, e0.bsz, fun b _ _ => noA b, fun b z => absurd z (noA b), e0.funs, e0.frf⟩,
    rfl, e0.bare, Un.kept hk, ⟨_, hns, fun i y v h1 h2 h3 => ?_⟩, fun y c h => ?_, e0.hok.fresh (Nat.le_refl _), fun y c h => ?_, fun p hp => absurd (show p ∈ ([] : List (Addr × Obj)) from hp) (by simp), e0.hok.kept hk, ?_⟩
  · have hy : sc.names.lookup y = some .cell ∨ sc.names.lookup y = some .free := hy
    rcases hy with hy | hy
    · exact absurd rfl (S.cell _ (PySem.mem_of_lookup hy))
    · rw [kind_of S hy]
      exact ⟨cc, rfl⟩
  · have hi : i < vs.length := by
      have := (List.getElem?_eq_some_iff.mp h1).1
      rw [hl]
      exact this
    have ha : vs[i]? = some v := by
      unfold L2.start at h2
      rw [List.getElem?_append_left (by simpa using hi), List.getElem?_map] at h2
      cases e : vs[i]? with
      | none =>
        rw [e] at h2
        cases h2
      | some a =>
        rw [e] at h2
        cases h2
        rfl
    obtain ⟨u, hu, rv⟩ := r.get ha
    exact ⟨u, rv, .inl ⟨S.par y (List.mem_of_getElem? h1), last_of S.nd h1 hu⟩⟩
  · obtain ⟨_, rfl⟩ := one h
    exact ⟨_, ⟨_, hk _ _ b1.1, rfl⟩⟩
  · obtain ⟨_, rfl⟩ := one h
    exact b1.2
  · unfold L2.start
    show _ = ps.length
    rw [List.length_append, List.length_map, List.length_replicate]
    omega

/-- what super().__init__ wants of the class C of the error, whose __init__ stands in D -/
structure SupC (K : PySem.W.Frag) (C D : Addr) : Prop where
  ox : OexC K C
  dcl : ∃ cd, PySem.W.clsIn K D = some cd
  sub : PySem.W.mroIn K C (.ref D) = some true
  ini : PySem.W.ks_superIn K C D "__init__" = some (some (.builtin "ValueError.__init__"))
  ve : PySem.W.subIn K (.ref C) (.type "ValueError") = some true
  tp : PySem.W.nsIn K cStatics "thirdparty.any" = some none
section
variable {X : Cx} {pins : List (Addr × Obj)} {σ : L2.St} {H : Hp} {s : Shared} {a C D u : Addr} {E : Value → Shared → Prop} {A : Around}
/-- the bound __init__ called: nothing of it is told -/
theorem bound_ok {us : List Value} {Q : Value → Shared → Prop} (T : OexC X.K C) (I : Inv X pins σ H s) (e : H a = some (exo a C none)) (hu : s.heap.get? u = some (PySem.W.kxs_mw "ValueError.__init__" a)) (hl : us.length ≤ sizeLine) (h : ∀ s', Inv X pins σ H s' → Q .none s') :
    wpAny (model X.prog X.w) A (call (.ref u) us) Q E s := by
  obtain ⟨nm, q, N, bs, bm, sn, sub, ab, col, dd, k0, k1, k2, k3, k5, hC, hbm⟩ := T.cls
  obtain ⟨t1, ho⟩ := exo_at I.hok e
  have fin : ∀ h', (∀ b o, b ≠ a → s.heap.get? b = some o → h'.get? b = some o) → (∃ t2 : Addr, h'.get? a = some ({ cls := .ref C, dict := none, data := .fields #[.ref t2, .none, .none, .none, .bool false, .none] } : Obj)) → Q .none { s with heap := h' } := fun h' k hx => by
    obtain ⟨t2, hx⟩ := hx
    have J := I.write (t' := s.toks) (x := a) (e := a) (o := exo a C none) (by rw [e]; exact True.intro) (.inl rfl) k ⟨_, hx⟩ (exo_ok hx)
    have eu : upd H a (exo a C none) = H := by
      funext b
      by_cases hb : b = a
      · rw [hb, upd_same, e]
      · rw [upd_ne hb]
    rw [eu] at J
    exact h _ J
  obtain ⟨hh, g, d, tk, os⟩ := s
  refine wpAny_call (codeAny_of_tree ?_)
  show wpAny _ A.in1 (callAny (.ref u) ⟨us, []⟩) _ _ _
  simp only [callAny]
  refine wpAny_bind (wpAny_load hu ?_)
  dsimp only [PySem.W.kxs_mw]
  refine PySem.W.KFB.if_so (by decide) ?_
  refine wpAny_bind (PySem.W.check_bound_init F.excBase_ValueError.toExcCallFacts (I.kIn _ _ hC) ho rfl ?_)
  refine wpAny_bind (wpAny_pure (wpAny_pure ?_))
  refine ⟨plainId_quiet F.excBase_ValueError.init.plain _, codeAny_builtin F.excBase_ValueError.initEntry ?_⟩
  exact PySem.W.exc_init_tree ho hl fun h' k hx _ => fin h' k ⟨_, hx⟩
end

section
variable {CX : CXT} {P : Program} {w : World} {K : PySem.W.Frag} {mg : Str → Option Value} {base : Heap} {ps : List Str} {qual : Str} {sc : Scope} {f cda cc D C a : Addr} {A : Around} {outer : List Env} {s0 s : Shared} {H0 H : Hp} {E : XK} {σ : L2.St}
  {oc : Value} {od : Option Addr} {osl : Array (Option Value)} {fd : FuncData} {ccl : Value} {cdd : Option Addr} {vs : Array Value} {ccs : Array (Option Value)} {file : Str} {tf : Tok} {cl : Value} {cld : Option Addr} {csl : Array (Option Value)}
theorem sup_first {body : List Stmt} {p0 p1 p2 p3 p4 : Pos} {e : Expr} {es : List Expr} {ta : TA} {ar : Arg} {Qn : Hp → Prop} (S : ScS ps sc) (T : SupC K C D) (I : Inv (cxS CX P w K mg base ps qual sc f (.ref cda) cc A outer s0 H0 E) [] σ H s)
    (lf : K.lookup f = some ⟨oc, od, .func fd, osl⟩) (hp : (fd.params.posonlyargs ++ fd.params.args).head? = some ar) (h0 : ps[0]? = some ar.arg) (ha : σ[0]? = some (some (.ref a))) (hx : H a = some (exo a C none))
    (lcd : K.lookup cda = some ⟨ccl, cdd, .fields vs, ccs⟩) (hvs : vs[2]? = some (.str file tf)) (hfile : ((P.main.file : Str) == file) = true) (lc : K.lookup cc = some ⟨cl, cld, .cell (some (.ref D)), csl⟩)
    (hms : mg "super" = none) (htop : (P.main.scope.names.lookup ("super" : Str)).isSome = false)
    {pl : Sem Bool} (hc : eval (.Call (.Attribute (.Call (.Name "super" p0) [] [] p1) "__init__" p2) (e :: es) [] p3) (envS qual sc s0.heap.objs.size f (.ref cda) cc) = (do
      let ov ← attributeBase (.Call (.Name "super" p0) [] [] p1) "__init__" (envS qual sc s0.heap.objs.size f (.ref cda) cc) (eval (.Call (.Name "super" p0) [] [] p1) (envS qual sc s0.heap.objs.size f (.ref cda) cc))
      standAt p2.atName
      let (g, first) ← holding [ov] (getMethod ov "__init__" pl)
      callWith p3 g first (backTo p3 (starEach (e :: es) (envS qual sc s0.heap.objs.size f (.ref cda) cc))) []))
    (hA : PA (cxS CX P w K mg base ps qual sc f (.ref cda) cc A outer s0 H0 E) (e :: es) ta) (q : ta σ H fun ws H1 => ws.length ≤ 1000 ∧ H1 a = some (exo a C none) ∧ Qn H1)
    (he : starEach (e :: es) (envS qual sc s0.heap.objs.size f (.ref cda) cc) = (false, eval e (envS qual sc s0.heap.objs.size f (.ref cda) cc)) :: starEach es (envS qual sc s0.heap.objs.size f (.ref cda) cc))
    (hpl : (backTo p3 (starEach es (envS qual sc s0.heap.objs.size f (.ref cda) cc))).any (·.1) = false)
    (hsw : swapsWith (.Call (.Attribute (.Call (.Name "super" p0) [] [] p1) "__init__" p2) (e :: es) [] p3) none p4.line (envS qual sc s0.heap.objs.size f (.ref cda) cc) = pure false) :
    _root_.PySem.wpAt (model P w) (A.deeper (envS qual sc s0.heap.objs.size f (.ref cda) cc)) (.func body (envS qual sc s0.heap.objs.size f (.ref cda) cc))
      (exec (.Expr (.Call (.Attribute (.Call (.Name "super" p0) [] [] p1) "__init__" p2) (e :: es) [] p3) p4) (envS qual sc s0.heap.objs.size f (.ref cda) cc))
      (fun fl s' => match fl with
        | .next => ∃ H', Inv (cxS CX P w K mg base ps qual sc f (.ref cda) cc A outer s0 H0 E) [] σ H' s' ∧ Qn H'
        | _ => False) (cxS CX P w K mg base ps qual sc f (.ref cda) cc A outer s0 H0 E).xe s := by
  have hi : interactive (envS qual sc s0.heap.objs.size f (.ref cda) cc) = false := by
    unfold interactive
    show (sc.kind == .module && _) = false
    rw [S.kind]
    rfl
  have hkS : (envS qual sc s0.heap.objs.size f (.ref cda) cc).kindOf "super" = some .globalImplicit := S.sup
  have hkC : (envS qual sc s0.heap.objs.size f (.ref cda) cc).kindOf "__class__" = some .free := S.cls
  obtain ⟨m, hns, hm⟩ := I.loc
  obtain ⟨u0, ru, lk⟩ := hm 0 ar.arg (.ref a) h0 ha (.inl (S.par _ (List.mem_of_getElem? h0)))
  obtain rfl : u0 = Value.ref a := ru
  have ma : m ar.arg = some (.ref a) := by
    rcases lk with ⟨_, h⟩ | ⟨h, _⟩
    · exact h
    · have h2 : sc.names.lookup ar.arg = some .cell ∨ sc.names.lookup ar.arg = some .free := h
      rw [S.par _ (List.mem_of_getElem? h0)] at h2
      rcases h2 with h2 | h2 <;> cases h2
  obtain ⟨cd, hcd⟩ := T.dcl
  obtain ⟨oD, hD1, hD2⟩ : ∃ oD, s.heap.get? D = some oD ∧ oD.data = .cls cd := by
    unfold PySem.W.clsIn at hcd
    split at hcd
    · rename_i c d cd' sl ho
      cases hcd
      exact ⟨_, I.kIn _ _ ho, rfl⟩
    · cases hcd
  obtain ⟨t1, hox⟩ := exo_at I.hok hx
  obtain ⟨mb, b1, b2⟩ := I.mod.blt
  refine PySem.ks_wpAt_Expr_any ?_ hi hsw
  refine PySem.ks_wpAt_MethodCall (pl := pl) ?_ hc
  refine PySem.ks_wpAt_super_base hkS hkC (by decide) rfl (I.kIn _ _ lf) rfl hp rfl (I.kIn _ _ lcd) rfl hvs hfile htop ?_
  refine PySem.W.ks_loadName_global S.kind hkS (Calls.loadGlobal_builtin (I.mod.glob.keeps I.bk) hms (b1.keeps I.bk) ((b2 "super" (by decide)).trans (by decide +kernel)) ⟨rfl, ?_⟩)
  refine wpAny_loadName_free S.kind hkC rfl ⟨_, I.kIn _ _ lc, rfl⟩ ?_
  refine wpAny_loadName_local S.kind (S.par _ (List.mem_of_getElem? h0)) hns ma ?_
  refine PySem.ks_wpAny_isType_cls hD1 hD2 ⟨rfl, ?_⟩
  have nc : ∀ c, ({ cls := .ref C, dict := none, data := .fields #[.ref t1, .none, .none, .none, .bool false, .none] } : Obj).data ≠ .cls c := fun c z => by cases z
  obtain ⟨hh, g, d, tk, os⟩ := s
  refine PySem.ks_wpAny_call_super hD1 hD2 hox rfl nc (PySem.W.looks_mroIn I.kIn T.sub) fun h' hso k => ?_
  have I1 := I.kept (t' := tk) k
  obtain ⟨nm, qn, N, bs, bm, sn, sub, ab, col, dd, k0, k1, k2, k3, k5, hC, hbm⟩ := T.ox.cls
  have hcl : PySem.W.clsIn K C = some { name := nm, bases := bs, mro := .ref C :: bm, ns := N, qualname := qn, hasDict := true, slotNames := sn, subclasses := sub, abstract := ab, collection := col, hasDel := false } := by
    unfold PySem.W.clsIn
    rw [hC] <;> rfl
  have hini := T.ini
  unfold PySem.W.ks_superIn at hini
  rw [hcl] at hini
  have hox1 := k _ _ hox
  have J : PySem.W.InstAt h' a { cls := .ref C, dict := none, data := .fields #[.ref t1, .none, .none, .none, .bool false, .none] } C none := ⟨hox1, rfl, rfl, trivial⟩
  refine PySem.W.kxs_getMethod PySem.W.kxs_ValueError hso (PySem.W.looks_opaque I1.kIn T.tp) (l₀ := .ref C :: bm) (fun A Q E s k q => wpAny_bind ((PySem.W.looks_clsIn I1.kIn hcl) A _ E s k (wpAny_pure q))) rfl I1.kIn hini (J.type.andThen (PySem.W.looks_subIn I1.kIn T.ve)) (PySem.W.ks_ne I1.kIn J hcl) (by decide) ?_
  have kp : ∀ b o, h'.get? b = some o → (h'.push (PySem.W.kxs_mw "ValueError.__init__" a)).get? b = some o := fun b o z => Heap.get?_push_of_some _ z
  have I2 := I1.kept (t' := tk + 1) kp
  have hu : (h'.push (PySem.W.kxs_mw "ValueError.__init__" a)).get? h'.objs.size = some (PySem.W.kxs_mw "ValueError.__init__" a) := Heap.get?_push_at rfl rfl
  have I3 : Inv (cxS CX P w K mg base ps qual sc f (.ref cda) cc A outer s0 H0 E) [(h'.objs.size, PySem.W.kxs_mw "ValueError.__init__" a)] σ H ⟨h'.push (PySem.W.kxs_mw "ValueError.__init__" a), g, d, tk + 1, os⟩ :=
    ⟨I2.ok, I2.os, I2.bare, I2.base, I2.loc, I2.cell, I2.free, I2.freeC, fun p hp => by
      have hp2 : p = (h'.objs.size, PySem.W.kxs_mw "ValueError.__init__" a) := List.mem_singleton.mp hp
      subst hp2
      exact ⟨hu, I1.hok.fresh (Nat.le_refl _), Nat.ne_of_gt I1.lt, I1.nofs (Nat.le_refl _), fun v z => by cases z⟩, I2.hok, I2.len⟩
  have qa : wpAny (model P w) (A.deeper (envS qual sc s0.heap.objs.size f (.ref cda) cc)) (spliced (backTo p3 (starEach (e :: es) (envS qual sc s0.heap.objs.size f (.ref cda) cc)))) (AP (cxS CX P w K mg base ps qual sc f (.ref cda) cc A outer s0 H0 E) [(h'.objs.size, PySem.W.kxs_mw "ValueError.__init__" a)] σ fun ws H1 => ws.length ≤ 1000 ∧ H1 a = some (exo a C none) ∧ Qn H1) (cxS CX P w K mg base ps qual sc f (.ref cda) cc A outer s0 H0 E).xe ⟨h'.push (PySem.W.kxs_mw "ValueError.__init__" a), g, d, tk + 1, os⟩ := hA.run p3 _ _ σ H _ I3 q
  show wpAny _ _ (callWith p3 (.ref h'.objs.size) [] (backTo p3 (starEach (e :: es) (envS qual sc s0.heap.objs.size f (.ref cda) cc))) []) _ _ _
  rw [he] at qa ⊢
  refine PySem.W.kxs_callWith (i := "ValueError.__init__") (x := a) (by show (false || (backTo p3 (starEach es (envS qual sc s0.heap.objs.size f (.ref cda) cc))).any (·.1)) = false; rw [hpl]; rfl) ?_
  refine PySem.Calls.evalArgs_plain (thn qa fun us s1 ⟨ws, H1, J1, r1, hz, e1, q1⟩ => ?_)
  have pu := J1.pin (h'.objs.size, PySem.W.kxs_mw "ValueError.__init__" a) (List.mem_append_right _ (List.mem_singleton.mpr rfl))
  refine ⟨pu.1, ?_⟩
  have J2 : Inv (cxS CX P w K mg base ps qual sc f (.ref cda) cc A outer s0 H0 E) [] σ H1 s1 :=
    ⟨J1.ok, J1.os, J1.bare, J1.base, J1.loc, J1.cell, J1.free, J1.freeC, fun p hp => J1.pin p (List.mem_append_left _ (by rw [List.append_nil] at hp; exact hp)), J1.hok, J1.len⟩
  have hlen : us.length ≤ sizeLine := by
    rw [← Paired.length r1, sizeLine_eq]
    omega
  exact bound_ok (X := cxS CX P w K mg base ps qual sc f (.ref cda) cc A outer s0 H0 E) T.ox J2 e1 pu.1 hlen fun s' J' => ⟨H1, J', q1⟩
end
/-- how its arguments bind -/
theorem FunS.binds {P : Program} {K : PySem.W.Frag} {x qual : Str} {st : Stmt} {D f : Addr} {fd : FuncData} {ps : List Str} (F : FunS P K x qual st D f fd)
    (h : ∀ (kV doc pm : Value) (an : Option Addr) (cda cc : Addr) (ct : Value) (us : List Value), us.length = ps.length → bindArgs (PySem.W.ksFn x qual (defArgs st) (defBody st) (defScope st) .none kV doc pm an (.ref cda) ct cc) ⟨us, []⟩ = pure (ps.zip us)) : Binds K fd ps [] := by
  obtain ⟨oc, od, kV, doc, pm, an, cda, cc, ct, osl, ccl, cdd, vs, ccs, file, tf, cl, cld, csl, rfl, _⟩ := F.ex
  exact .all (h kV doc pm an cda cc ct)
/-- THE RULE: super().__init__(e), then the rest -/
theorem FunS.ok {P : Program} {w : World} {K : PySem.W.Frag} {mg : Str → Option Value} {base : Heap} {x qual : Str} {st : Stmt} {D C f : Addr} {fd : FuncData} {ps : List Str} {k : Nat} {sp : Sp} {ar : Arg} {p0 p1 p2 p3 p4 : Pos} {e : Expr} {es : List Expr} {rest : List Stmt}
    (F : FunS P K x qual st D f fd) (S : ScS ps (defScope st)) (T : SupC K C D) (hms : mg "super" = none) (htop : (P.main.scope.names.lookup ("super" : Str)).isSome = false)
    (hb : defBody st = .Expr (.Call (.Attribute (.Call (.Name "super" p0) [] [] p1) "__init__" p2) (e :: es) [] p3) p4 :: rest)
    (hp : ((defArgs st).posonlyargs ++ (defArgs st).args).head? = some ar) (h0 : ps[0]? = some ar.arg)
    (len : ∀ vs H Q E, sp vs H Q E → vs.length = ps.length) (self : ∀ vs H Q E, sp vs H Q E → ∃ a r, vs = .ref a :: r ∧ H a = some (exo a C none))
    {pl : Env → Sem Bool} (hc : ∀ env : Env, eval (.Call (.Attribute (.Call (.Name "super" p0) [] [] p1) "__init__" p2) (e :: es) [] p3) env = (do
      let ov ← attributeBase (.Call (.Name "super" p0) [] [] p1) "__init__" env (eval (.Call (.Name "super" p0) [] [] p1) env)
      standAt p2.atName
      let (g, first) ← holding [ov] (getMethod ov "__init__" (pl env))
      callWith p3 g first (backTo p3 (starEach (e :: es) env)) []))
    (he : ∀ env : Env, starEach (e :: es) env = (false, eval e env) :: starEach es env) (hpl : ∀ env : Env, (backTo p3 (starEach es env)).any (·.1) = false)
    (hsw : ∀ env : Env, swapsWith (.Call (.Attribute (.Call (.Name "super" p0) [] [] p1) "__init__" p2) (e :: es) [] p3) none p4.line env = pure false)
    (hbody : ∀ (cda cc : Addr) (A : Around) (outer : List Env) (s : Shared) (H : Hp) (a : Addr) (vr : List V) (Q : VK) (E : XK), Room k (A.deeper (envS qual (defScope st) s.heap.objs.size f (.ref cda) cc)) → sp (.ref a :: vr) H Q E →
      ∃ ta t, PA (cxS CX0 P w K mg base ps qual (defScope st) f (.ref cda) cc A outer s H E) (e :: es) ta ∧ PSs (cxS CX0 P w K mg base ps qual (defScope st) f (.ref cda) cc A outer s H E) rest t ∧
        ta (L2.start ps (.ref a :: vr)) H fun ws H1 => ws.length ≤ 1000 ∧ H1 a = some (exo a C none) ∧ t { nx := fun _ H' => Q .non H', rt := Q } (L2.start ps (.ref a :: vr)) H1) :
    FnOk P w K mg base CX0 (k + 1) f fd ps sp := by
  obtain ⟨oc, od, kV, doc, pm, an, cda, cc, ct, osl, ccl, cdd, cvs, ccs, file, tf, cl, cld, csl, rfl, lk, hcd, lcd, hvs, hfile, lc⟩ := F.ex
  refine ⟨len, fun A outer s H args us vs Q E hr e0 hbind r hsp => ?_⟩
  have hl := len _ _ _ _ hsp
  have KX : K.In s.heap := e0.mod.kin.keeps fun b o z => (e0.bs b o z).1
  have lim : s.heap.NoLimit := e0.mod.nolimit.keeps fun b o z => (e0.bs b o z).1
  obtain ⟨a, vr, rfl, hx⟩ := self _ _ _ _ hsp
  obtain ⟨ta, t, hA, hS, hq⟩ := hbody cda cc A outer s H a vr Q E (hr.deeper _) hsp
  refine PySem.ks_codeAny_call_defAt (fd := PySem.W.ksFn x qual (defArgs st) (defBody st) (defScope st) .none kV doc pm an (.ref cda) ct cc) (body := defBody st) (binds := ps.zip us) hr.depth (KX _ _ lk) rfl lim (PySem.W.codeRec_of KX hcd) rfl hbind S.cell
    (fun y hy => S.par _ (List.of_mem_zip hy).1) (fun h₀ hns hk => ?_) S.co S.gen S.kind
  have I := begin_S (CX := CX0) (A := A) (outer := outer) (E := E) (f := f) (cd := .ref cda) (tk := s.toks + (ps.zip us).length) (qual := qual) S hr.hd e0 hl r lc hns hk
  have s0 : (L2.start ps (V.ref a :: vr))[0]? = some (some (.ref a)) := rfl
  have first := sup_first (body := defBody st) S T I lk hp h0 s0 hx lcd hvs hfile lc hms htop (hc _) hA hq (he _) (hpl _) (hsw _)
  have eb : execs (defBody st) (envS qual (defScope st) s.heap.objs.size f (.ref cda) cc) = execs (.Expr (.Call (.Attribute (.Call (.Name "super" p0) [] [] p1) "__init__" p2) (e :: es) [] p3) p4 :: rest) (envS qual (defScope st) s.heap.objs.size f (.ref cda) cc) := by rw [hb]
  show _root_.PySem.wpAt _ _ _ (execs (defBody st) (envS qual (defScope st) s.heap.objs.size f (.ref cda) cc)) _ _ _
  rw [eb]
  refine PySem.ks_wpAt_execs_cons (PySem.ks_wpAt_mono first (fun fl s' h => ?_) fun _ _ h => h)
  cases fl with
  | next =>
    obtain ⟨H', J, q'⟩ := h
    refine PySem.wpAt_of_wpAny (wpAny_mono (hS.run [] s' _ H' _ J q') (fun fl2 s2 hs => ?_) fun _ _ h => h)
    have fin : ∀ {σ' : L2.St} {H2 : Hp} {v : V} {u : Value}, Inv (cxS CX0 P w K mg base ps qual (defScope st) f (.ref cda) cc A outer s H E) [] σ' H2 s2 → RelV v u → Q v H2 → CE outer P w H s Q u s2 :=
      fun {σ' H2 v u} J rv q => ⟨v, H2, J.os, J.bare, J.base, J.hok, rv, q⟩
    cases fl2 with
    | ret u =>
      obtain ⟨v, σ', H2, J2, rv, q2⟩ := hs
      exact fin J2 rv q2
    | next =>
      obtain ⟨σ', H2, J2, q2⟩ := hs
      exact fin (v := V.non) (u := Value.none) J2 rfl q2
    | brk =>
      obtain ⟨_, _, _, q2⟩ := hs
      exact q2.elim
    | cont =>
      obtain ⟨_, _, _, q2⟩ := hs
      exact q2.elim
  | ret u => exact h.elim
  | brk => exact h.elim
  | cont => exact h.elim
end QX

set_option Elab.async false
set_option linter.all false
set_option maxRecDepth 100000
set_option maxHeartbeats 4000000
namespace QX
open PySem PySem.Spec PyProof.Rows L2
/-! ### such an error as a value: made, asked for its class, read -/
section
variable {X : Cx} {pins : List (Addr × Obj)} {σ : L2.St} {H : Hp} {s : Shared} {a C D u : Addr} {Q : VK}
/-- an error that is held -/
def Held (H : Hp) (a C : Addr) : Prop := H a = some (exo a C none) ∨ ∃ dx fs, H a = some (exo a C (some dx)) ∧ H dx = some (exd dx fs)
theorem held_at (I : Inv X pins σ H s) (h : Held H a C) : ∃ ox od, PySem.W.InstAt s.heap a ox C od := by
  rcases h with h | ⟨dx, fs, h, hd⟩
  · obtain ⟨t1, e⟩ := exo_at I.hok h
    exact ⟨_, none, e, rfl, rfl, trivial⟩
  · obtain ⟨t1, e⟩ := exo_at I.hok h
    obtain ⟨mA, hns, _⟩ := exd_at I.hok hd
    obtain ⟨od, es, ep, ho, _⟩ := hns
    exact ⟨_, some od, e, rfl, rfl, ho⟩
theorem run_exo {CX : CXT} {fI : Addr} {k : Nat} {fd : FuncData} {ps : List Str} {sp : Sp} {vs : List V} {us : List Value} (T : OexC X.K C) (iC : PySem.W.findIn X.K (.ref C) "__init__" = some (some (.ref fI))) (tI : PySem.W.typeIn X.K (.ref fI) = some (.type "function"))
    (F1 : FnOk X.prog X.w X.K X.mg X.base CX k fI fd ps sp) (hr : Room (k + 1) X.A) (hb : Binds X.K fd ps []) (hx : Passes CX X (fun _ _ _ => False)) (I1 : Inv X pins σ H s) (r1 : Vals vs us) (hz : vs.length ≤ 1000)
    (q1 : ∀ a, H a = none → sp (.ref a :: vs) (upd H a (exo a C none)) (fun v H2 => v = .non ∧ Q (.ref a) H2) fun _ _ _ => False) :
    wpAny (model X.prog X.w) X.A (call (.ref C) us) (fun u s' => ∃ v H', Inv X pins σ H' s' ∧ RelV v u ∧ Q v H') X.xe s := by
  obtain ⟨nm, q, N, bs, bm, sn, sub, ab, col, dd, k0, k1, k2, k3, k5, hC, hbm⟩ := T.cls
  obtain ⟨hp, g, dr, tk, os⟩ := s
  have hn : H (hp.objs.size + 1) = none := I1.hok.fresh (Nat.le_succ _)
  have hq := q1 (hp.objs.size + 1) hn
  have kk : ∀ b o, hp.get? b = some o → ((hp.push (PySem.W.kdv_tup us)).push (PySem.HandSPX.excO C hp.objs.size)).get? b = some o := fun b o e => Heap.get?_push_of_some _ (Heap.get?_push_of_some _ e)
  have hget : ((hp.push (PySem.W.kdv_tup us)).push (PySem.HandSPX.excO C hp.objs.size)).get? (hp.objs.size + 1) = some (PySem.HandSPX.excO C hp.objs.size) := by heap_get
  have I2 : Inv X pins σ (upd H (hp.objs.size + 1) (exo (hp.objs.size + 1) C none)) ⟨(hp.push (PySem.W.kdv_tup us)).push (PySem.HandSPX.excO C hp.objs.size), g, dr, tk, os⟩ :=
    I1.laid (t' := tk) kk (Nat.le_succ _) (exo_ok hget)
  have r2 : Vals (V.ref (hp.objs.size + 1) :: vs) (Value.ref (hp.objs.size + 1) :: us) := .cons rfl r1
  have hl : (Value.ref (hp.objs.size + 1) :: us ++ []).length = ps.length := by
    have e := r2.length
    rw [F1.len _ _ _ _ hq] at e
    rw [List.append_nil]
    exact e.symm
  have hus : us.length ≤ sizeLine := by
    rw [← Paired.length r1, sizeLine_eq]
    omega
  have hbb := hb _ (Value.ref (hp.objs.size + 1) :: us) I2.kIn hl
  rw [List.append_nil] at hbb
  refine wpAny_call (PySem.HandSPX.call_own F.excBase_ValueError (fun Y => PySem.HandSPX.refsVE_contains Y bm hbm) (I1.kIn _ _ hC) (PySem.W.looks_findIn I1.kIn iC) (fun self => PySem.W.bind_fn I1.kIn self tI) hus
    (codeAny_mono (F1.run _ X.stack _ _ ⟨Value.ref (hp.objs.size + 1) :: us, []⟩ _ _ _ (fun _ _ _ => False) (hr.make C us []) (I2.env0.make C us []) hbb r2 hq) fun r s' hq' => ?_))
  cases r with
  | error er => exact hx pins σ _ _ er s' I2 hq'
  | ok fl =>
    cases fl with
    | ret u =>
      obtain ⟨v, H2, os2, bare2, un2, hok2, rv, ev, q2⟩ := hq'
      subst ev
      exact ⟨rv, .ref (hp.objs.size + 1), H2, I2.call' (ch := []) os2 un2 hok2 bare2 (fun b z => absurd z (by simp)), rfl, q2⟩
    | next => exact False.elim hq'
    | brk => exact False.elim hq'
    | cont => exact False.elim hq'
end
/-- C(e, ..) as a value -/
def tMkV (C : Addr) (sp : Sp) (ta : TA) : TE := fun σ H Q => ta σ H fun vs H1 => vs.length ≤ 1000 ∧ ∀ a, H1 a = none → sp (.ref a :: vs) (upd H1 a (exo a C none)) (fun v H2 => v = .non ∧ Q (.ref a) H2) fun _ _ _ => False
section
variable {X : Cx} {CX : CXT} {x : Str} {C fI : Addr} {k : Nat} {fd : FuncData} {ps : List Str} {sp : Sp} {e : Expr} {es : List Expr} {ta : TA} {p pos : Pos}
theorem pe_exo (T : OexC X.K C) (iC : PySem.W.findIn X.K (.ref C) "__init__" = some (some (.ref fI))) (tI : PySem.W.typeIn X.K (.ref fI) = some (.type "function"))
    (F1 : FnOk X.prog X.w X.K X.mg X.base CX k fI fd ps sp) (hr : Room (k + 1) X.A) (hb : Binds X.K fd ps []) (hx : Passes CX X (fun _ _ _ => False)) (hg : Gl X x) (hm : X.mg x = some (.ref C)) (ha : PA X (e :: es) ta)
    (hdb : (x == ("__debug__" : Str)) = false := by decide) (he : starEach (e :: es) X.env = (false, eval e X.env) :: starEach es X.env := by rfl) (hpl : (backTo pos (starEach es X.env)).any (·.1) = false := by rfl) :
    PE X (.Call (.Name x p) (e :: es) [] pos) (tMkV C sp ta) := by
  refine ⟨fun pins s σ H Q I h => ?_⟩
  refine wpAny_Call_Name_kw (ld_glob I hg hm ?_ hdb)
  refine PySem.W.callWith_K (h₀ := X.base) I.ok.mod.kin T.kC (thn (ha.run pos pins s σ H _ I h) fun us s1 ⟨vs, H1, I1, r1, hz, q1⟩ => ⟨I1.kIn, ?_⟩) he hpl
  exact run_exo T iC tI F1 hr hb hx I1 r1 hz q1
theorem pe_exo0 (T : OexC X.K C) (iC : PySem.W.findIn X.K (.ref C) "__init__" = some (some (.ref fI))) (tI : PySem.W.typeIn X.K (.ref fI) = some (.type "function"))
    (F1 : FnOk X.prog X.w X.K X.mg X.base CX k fI fd ps sp) (hr : Room (k + 1) X.A) (hb : Binds X.K fd ps []) (hx : Passes CX X (fun _ _ _ => False)) (hg : Gl X x) (hm : X.mg x = some (.ref C))
    (hdb : (x == ("__debug__" : Str)) = false := by decide) : PE X (.Call (.Name x p) [] [] pos) (tMkV C sp tNil) := by
  refine ⟨fun pins s σ H Q I h => ?_⟩
  refine wpAny_Call_Name_kw (ld_glob I hg hm ?_ hdb)
  obtain ⟨hz, q1⟩ := h
  exact PySem.W.callWith_K0 I.kIn T.kC (run_exo T iC tI F1 hr hb hx I .nil hz q1)
/-- what isinstance asks of the class -/
structure IsC (K : PySem.W.Frag) (C : Addr) : Prop where
  cl : (PySem.W.clsIn K C).isSome = true
  ga : PySem.W.findIn K (.ref C) "__getattribute__" = some (some (.builtin "BaseException.__getattribute__"))
  gg : PySem.W.findIn K (.ref C) "__getattr__" = some none
  sb : PySem.W.subIn K (.ref C) (.type "BaseException") = some true
  ca : PySem.W.findIn K (.ref C) "__class__" = some (some (.builtin "object.__class__"))
  cn : PySem.W.specialIn K (.builtin "object.__class__") "__get__" = some (some (.builtin "getset_descriptor.__get__"))
  ct : PySem.W.takesIn K (.builtin "object.__class__") = some true
  mo : PySem.W.mroIn K C (.type "object") = some true
  hd : PySem.W.hasDictIn K C = true
def rIsX (K : PySem.W.Frag) : List V → Hp → VK → Prop := fun xs H Q => ∃ (a C : Addr) (c : V) (t : Value) (b : Bool), xs = [.ref a, c] ∧ Held H a C ∧ IsC K C ∧ ClsV c t ∧ PySem.W.kitOne K (.ref C) t = some b ∧ Q (.bl b) H
theorem call_isX : CallR X (.builtin "isinstance") (rIsX X.K) := by
  intro pins s σ H xs us Q I r h
  obtain ⟨a, C, c, t, b, rfl, hh, T, hc, e, q⟩ := h
  cases r with
  | cons rx rr =>
    cases rr with
    | cons rt rr =>
      cases rr
      cases rx
      have ec := hc.eq rt
      subst ec
      obtain ⟨ox, od, J⟩ := held_at I hh
      exact PySem.W.kia_one (PySem.W.kitx_exc T.cl T.ga T.gg T.sb T.ca T.cn T.ct T.mo) I.kIn J e (fun z => nomatch z) fun tk => ⟨.bl b, H, I.kept (t' := tk) fun _ _ z => z, rfl, q⟩
/-- e.f of such an error -/
def tFx (K : PySem.W.Frag) (f : Str) (te : TE) : TE := fun σ H Q => te σ H fun x H1 => ∃ (a C dx : Addr) (fs : List (Str × V)) (v : V), x = .ref a ∧ IsC K C ∧ PySem.W.findIn K (.ref C) f = some none ∧ H1 a = some (exo a C (some dx)) ∧ H1 dx = some (exd dx fs) ∧ fs.lookup f = some v ∧ Q v H1
theorem pe_fx {o : Expr} {te : TE} {f : Str} (he : PE X o te) (hb : attributeBase o f X.env (eval o X.env) = eval o X.env := by rfl) : PE X (.Attribute o f pos) (tFx X.K f te) := by
  refine ⟨fun pins s σ H Q I h => ?_⟩
  refine attr_of hb (thn (he.run pins s σ H _ I h) fun u s1 hh => ?_)
  obtain ⟨y, H1, I1, ry, a, C, dx, fs, v, ey, T, hno, ha, hd, hl, q⟩ := hh
  subst ey
  obtain rfl : u = Value.ref a := ry
  obtain ⟨t1, ho⟩ := exo_at I1.hok ha
  obtain ⟨mA, hns, rel⟩ := exd_at I1.hok hd
  obtain ⟨od, hod, hlk⟩ := lookIn_ns hns
  obtain ⟨u, hu, ru⟩ := RelO.some_of (v := v) (o := mA f) (by rw [← hl]; exact rel f)
  have J : PySem.W.InstAt s1.heap a _ C (some od) := ⟨ho, rfl, rfl, hod⟩
  exact HandSPX.exc_get I1.kIn J T.ga T.gg T.sb (PySem.W.findObj_own T.hd hno rfl (by rw [hlk, hu])) (handed_of ru) ⟨v, H1, I1.tok _, ru, q⟩
end
/-- an error class of the text, as the top has made it -/
structure Err (P : Program) (K : PySem.W.Frag) (mg : Str → Option Value) (x qual : Str) (st : Stmt) (ps attrs : List Str) where
  C : Addr
  f : Addr
  fd : FuncData
  F : FunS P K "__init__" qual st C f fd
  b : Binds K fd ps []
  S : SupC K C C
  T : IsC K C
  g : mg x = some (.ref C)
  ini : PySem.W.findIn K (.ref C) "__init__" = some (some (.ref f))
  tI : PySem.W.typeIn K (.ref f) = some (.type "function")
  no : ∀ y ∈ attrs, PySem.W.findIn K (.ref C) y = some none
/-- what may be written into its text -/
def Say : V → Prop
  | .str y => y.length ≤ 1000
  | .int i => 0 ≤ i ∧ i < 10 ^ 10
  | _ => False
def spI0 (C : Addr) : Sp := fun vs H Q _ => ∃ a, vs = [.ref a] ∧ H a = some (exo a C none) ∧ Q .non H
def spI1 (C : Addr) (n : Str) : Sp := fun vs H Q _ => ∃ a v, vs = [.ref a, v] ∧ H a = some (exo a C none) ∧ Say v ∧
  ∀ dx H', H dx = none → (∀ b o, b ≠ a → H b = some o → H' b = some o) → H' a = some (exo a C (some dx)) → H' dx = some (exd dx [(n, v)]) → Q .non H'
def spI2 (C : Addr) (n m : Str) : Sp := fun vs H Q _ => ∃ a v u, vs = [.ref a, v, u] ∧ H a = some (exo a C none) ∧ Say v ∧ Say u ∧
  ∀ dx H', H dx = none → (∀ b o, b ≠ a → H b = some o → H' b = some o) → H' a = some (exo a C (some dx)) → H' dx = some (exd dx [(m, u), (n, v)]) → Q .non H'
theorem fin1 {H : Hp} {a dx C : Addr} {fs : List (Str × V)} (nd : H dx = none) (ne : dx ≠ a) {R : Hp → Prop}
    (q : ∀ H', H dx = none → (∀ b o, b ≠ a → H b = some o → H' b = some o) → H' a = some (exo a C (some dx)) → H' dx = some (exd dx fs) → R H') : R (upd (upd H dx (exd dx fs)) a (exo a C (some dx))) :=
  q _ nd (fun b o nb e => by rw [upd_ne nb, upd_ne (ne_of_none e nd)]; exact e) upd_same (by rw [upd_ne ne, upd_same])
theorem fin2 {H : Hp} {a dx C : Addr} {fs gs : List (Str × V)} (nd : H dx = none) (ne : dx ≠ a) {R : Hp → Prop}
    (q : ∀ H', H dx = none → (∀ b o, b ≠ a → H b = some o → H' b = some o) → H' a = some (exo a C (some dx)) → H' dx = some (exd dx gs) → R H') : R (upd (upd (upd H dx (exd dx fs)) a (exo a C (some dx))) dx (exd dx gs)) :=
  q _ nd (fun b o nb e => by rw [upd_ne (ne_of_none e nd), upd_ne nb, upd_ne (ne_of_none e nd)]; exact e) (by rw [upd_ne ne.symm, upd_same]) upd_same
theorem digits {i : Int} (h0 : 0 ≤ i) (h : i < 10 ^ 10) : (PySem.Str.ofString (toString i)).length ≤ 10 := toString_length_le h0 (by decide) h
theorem log_of {i : Int} (h0 : 0 ≤ i) (h : i < 10 ^ 10) : i.natAbs.log2 < 1920 := by
  have h1 : i.natAbs < 2 ^ 40 := by omega
  have := PySem.Flt.log2_lt_of (by decide : 0 < 40) h1
  omega
theorem app_len (x y : Str) : (x ++ y).length = x.length + y.length := by
  show (x.cps ++ y.cps).size = x.cps.size + y.cps.size
  exact Array.size_append
theorem Say.two {v : V} (h : Say v) : (∃ y : Str, v = .str y ∧ y.length ≤ 1000) ∨ ∃ i : Int, v = .int i ∧ i.natAbs.log2 < 1920 ∧ (toString i : Str).length ≤ 10 := by
  cases v with
  | str y => exact .inl ⟨y, rfl, h⟩
  | int i =>
    obtain ⟨h0, h1⟩ : 0 ≤ i ∧ i < 10 ^ 10 := h
    exact .inr ⟨i, rfl, log_of h0 h1, digits h0 h1⟩
  | non => exact h.elim
  | bl _ => exact h.elim
  | byt _ => exact h.elim
  | flt _ => exact h.elim
  | ref _ => exact h.elim
  | ty _ => exact h.elim
theorem big {n : Nat} (h : n ≤ 5000) : n ≤ sizeLine := Nat.le_trans h (by decide)
theorem len_app {x y : Str} {a b : Nat} (hx : x.length ≤ a) (hy : y.length ≤ b) : (x ++ y).length ≤ a + b := by
  rw [app_len]
  omega
/-- what is asked of an error's class, as one test -/
def errB (K : PySem.W.Frag) (C f : Addr) (attrs : List Str) : Bool :=
  decide (PySem.W.findIn K (.ref C) "__setattr__" = some (some (.builtin "object.__setattr__"))) && (decide (PySem.W.subIn K (.ref C) (.type "BaseException") = some true) &&
  (decide (PySem.W.typeIn K (.ref C) = some (.type "type")) && (PySem.W.keepIn K (.ref C) && ((PySem.W.clsIn K C).isSome && (decide (PySem.W.mroIn K C (.ref C) = some true) &&
  (decide (PySem.W.ks_superIn K C C "__init__" = some (some (.builtin "ValueError.__init__"))) && (decide (PySem.W.subIn K (.ref C) (.type "ValueError") = some true) && (decide (PySem.W.nsIn K cStatics "thirdparty.any" = some none) &&
  (decide (PySem.W.findIn K (.ref C) "__getattribute__" = some (some (.builtin "BaseException.__getattribute__"))) && (decide (PySem.W.findIn K (.ref C) "__getattr__" = some none) &&
  (decide (PySem.W.findIn K (.ref C) "__class__" = some (some (.builtin "object.__class__"))) && (decide (PySem.W.specialIn K (.builtin "object.__class__") "__get__" = some (some (.builtin "getset_descriptor.__get__"))) &&
  (decide (PySem.W.takesIn K (.builtin "object.__class__") = some true) && (decide (PySem.W.mroIn K C (.type "object") = some true) && (PySem.W.hasDictIn K C &&
  (decide (PySem.W.typeIn K (.ref f) = some (.type "function")) && attrs.all fun y => decide (PySem.W.findIn K (.ref C) y = some none)))))))))))))))))
theorem err_of {P : Program} {K : PySem.W.Frag} {mg : Str → Option Value} {x qual : Str} {st : Stmt} {ps attrs : List Str} {C f : Addr} {fd : FuncData} (F : FunS P K "__init__" qual st C f fd) (b : Binds K fd ps []) (g : mg x = some (.ref C))
    (cls : ∃ nm q N bs bm sn sub ab col dd k0 k1 k2 k3 k5, K.lookup C = some (excClassObj nm q C N bs bm true sn sub ab col dd k0 k1 k2 k3 k5 "ValueError.__new__") ∧ PySem.HandSPX.refsVE bm = true)
    (ini : PySem.W.findIn K (.ref C) "__init__" = some (some (.ref f))) (h : errB K C f attrs = true) : Nonempty { E : Err P K mg x qual st ps attrs // E.C = C } := by
  unfold errB at h
  simp only [Bool.and_eq_true, decide_eq_true_eq, List.all_eq_true] at h
  obtain ⟨h1, h2, h3, h4, h5, h6, h7, h8, h9, h10, h11, h12, h13, h14, h15, h16, h17, h18⟩ := h
  exact ⟨⟨⟨C, f, fd, F, b, ⟨⟨cls, h1, h2, h3, h4⟩, Option.isSome_iff_exists.mp h5, h6, h7, h8, h9⟩, ⟨h5, h10, h11, h2, h12, h13, h14, h15, h16⟩, g, ini, h17, h18⟩, rfl⟩⟩
/-- isinstance between errors of the text: each is of its own class alone, of the class q and a ValueError -/
def isB (K : PySem.W.Frag) (q : Addr) (cs : List Addr) : Bool := (List.range cs.length).all fun i => decide (PySem.W.kitOne K (.ref (cs.getD i 0)) (.type "ValueError") = some true) && (decide (PySem.W.kitOne K (.ref (cs.getD i 0)) (.ref q) = some true) &&
  (List.range cs.length).all fun j => decide (PySem.W.kitOne K (.ref (cs.getD i 0)) (.ref (cs.getD j 0)) = some (decide (i = j))))
theorem isB_of {K : PySem.W.Frag} {q : Addr} {cs : List Addr} (h : isB K q cs = true) {i : Nat} (hi : i < cs.length) : PySem.W.kitOne K (.ref (cs.getD i 0)) (.type "ValueError") = some true ∧ PySem.W.kitOne K (.ref (cs.getD i 0)) (.ref q) = some true ∧
    ∀ j, j < cs.length → PySem.W.kitOne K (.ref (cs.getD i 0)) (.ref (cs.getD j 0)) = some (decide (i = j)) := by
  unfold isB at h
  rw [List.all_eq_true] at h
  have h1 := h i (List.mem_range.mpr hi)
  simp only [Bool.and_eq_true, decide_eq_true_eq, List.all_eq_true] at h1
  exact ⟨h1.1, h1.2.1, fun j hj => h1.2.2 j (List.mem_range.mpr hj)⟩
end QX

set_option Elab.async false
set_option linter.all false
set_option maxRecDepth 100000
set_option maxHeartbeats 4000000
/-! An own error raised, caught, and its field read in the suite. -/
namespace QX
open PySem PySem.Spec PyProof.Rows L2
theorem Err.xf {P : Program} {K : PySem.W.Frag} {mg : Str → Option Value} {x qual : Str} {st : Stmt} {ps attrs : List Str} (R : Err P K mg x qual st ps attrs) : XfC K R.C := ⟨R.T.ga, R.T.gg, R.T.sb, R.T.hd⟩
/-- a callee that may raise, where it is shown that it doesn't -/
theorem passF {X : Cx} : Passes (L2.CX X.prog X.w) X (fun _ _ _ => False) := fun _ _ _ _ _ _ _ c => by
  obtain ⟨_, _, _, _, _, _, _, _, _, _, _, _, z⟩ := c
  exact z.elim
/-- a callee that may raise, in a def that lets it out -/
theorem passE {X : Cx} {E : XK} {E₁ : Value → Shared → Prop} (hs : X.stack = X.env :: X.outer := by rfl) (hf : X.env.frame = some X.env.locals := by rfl) (hex : X.ex = [] := by rfl)
    (hx : X.xe = (fun e s' => wpAny (model X.prog X.w) X.A (leaving X.env e) (fun _ s'' => CX X.prog X.w X.outer X.H_0 X.s_0 E e s'') E₁ s') := by rfl) : Passes (L2.CX X.prog X.w) X E :=
  passes_call (takes_of hs hf hex hx) fun _ _ _ _ h => h
/-- what raise X(v) asks, v its one part -/
theorem mkO1_of {C : Addr} {n : Str} {v : V} {H1 : Hp} {Q : XK} (sv : Say v) (q : ∀ d G, H1 d = none → (∀ b o, H1 b = some o → G b = some o) → G d = some (.xd [(n, v)]) → Q (.ref C) (some d) G) :
    ([v] : List V).length ≤ 1000 ∧ ∀ a, H1 a = none → spI1 C n (.ref a :: ([v] ++ [])) (upd H1 a (exo a C none)) (fun x H2 => x = .non ∧ ∃ (d : Addr) (fs : List (Str × V)), H2 a = some (exo a C (some d)) ∧ H2 d = some (exd d fs) ∧ H1 d = none ∧ Q (.ref C) (some d) (upd (del H2 a) d (.xd fs))) fun _ _ _ => False := by
  refine ⟨by show 1 ≤ 1000; decide, fun a na => ⟨a, v, rfl, upd_same, sv, fun dx H' nd kp ha hd => ⟨rfl, dx, _, ha, hd, ?_, ?_⟩⟩⟩
  · by_cases e : dx = a
    · rw [e, upd_same] at nd
      cases nd
    · rwa [upd_ne e] at nd
  · have n1 : H1 dx = none := by
      by_cases e : dx = a
      · rw [e, upd_same] at nd
        cases nd
      · rwa [upd_ne e] at nd
    refine q dx _ n1 (fun b o hb => ?_) upd_same
    rw [upd_ne (ne_of_none hb n1), del_ne (ne_of_none hb na)]
    exact kp b o (ne_of_none hb na) (by rw [upd_ne (ne_of_none hb na)]; exact hb)
/-- what raise X(v, u) asks -/
theorem mkO2_of {C : Addr} {n m : Str} {v u : V} {H1 : Hp} {Q : XK} (sv : Say v) (su : Say u) (q : ∀ d G, H1 d = none → (∀ b o, H1 b = some o → G b = some o) → G d = some (.xd [(m, u), (n, v)]) → Q (.ref C) (some d) G) :
    ([v, u] : List V).length ≤ 1000 ∧ ∀ a, H1 a = none → spI2 C n m (.ref a :: ([v, u] ++ [])) (upd H1 a (exo a C none)) (fun x H2 => x = .non ∧ ∃ (d : Addr) (fs : List (Str × V)), H2 a = some (exo a C (some d)) ∧ H2 d = some (exd d fs) ∧ H1 d = none ∧ Q (.ref C) (some d) (upd (del H2 a) d (.xd fs))) fun _ _ _ => False := by
  refine ⟨by show 2 ≤ 1000; decide, fun a na => ⟨a, v, u, rfl, upd_same, sv, su, fun dx H' nd kp ha hd => ⟨rfl, dx, _, ha, hd, ?_, ?_⟩⟩⟩
  · by_cases e : dx = a
    · rw [e, upd_same] at nd
      cases nd
    · rwa [upd_ne e] at nd
  · have n1 : H1 dx = none := by
      by_cases e : dx = a
      · rw [e, upd_same] at nd
        cases nd
      · rwa [upd_ne e] at nd
    refine q dx _ n1 (fun b o hb => ?_) upd_same
    rw [upd_ne (ne_of_none hb n1), del_ne (ne_of_none hb na)]
    exact kp b o (ne_of_none hb na) (by rw [upd_ne (ne_of_none hb na)]; exact hb)
end QX

set_option Elab.async false
set_option linter.all false
set_option maxRecDepth 100000
/-! isinstance(e, C) in the suite of an except, e the error that was caught, with its dict -/
namespace QX
open PySem PySem.Spec PyProof.Rows L2
/-- a: the caught error, cls: its class, d: its dict -/
def rIsCaught (K : PySem.W.Frag) (a : Addr) (cls : Value) (d : Option Addr) : List V → Hp → VK → Prop := fun xs H Q => ∃ (C dd : Addr) (fs : List (Str × V)) (c : V) (t : Value) (b : Bool),
  xs = [.ref a, c] ∧ cls = .ref C ∧ d = some dd ∧ H dd = some (.xd fs) ∧ IsC K C ∧ ClsV c t ∧ PySem.W.kitOne K (.ref C) t = some b ∧ Q (.bl b) H
theorem call_isCaught {X : Cx} {a : Addr} {oe : Obj} {cls : Value} {d : Option Addr} {pn : List (Addr × Obj)} (hz : Zc cls d oe) (hf : ∃ vs, oe.data = .fields vs) : CallR (X.suite a ((a, oe) :: pn)) (.builtin "isinstance") (rIsCaught X.K a cls d) := by
  intro pins s σ H xs us Q I r h
  obtain ⟨C, dd, fs, c, t, b, rfl, rfl, rfl, ea, T, hc, e, q⟩ := h
  match us, r with
  | [_, _], .cons rx (.cons rt .nil) =>
    cases rx
    obtain rfl := hc.eq rt
    obtain ⟨ha, _⟩ := I.pin (a, oe) (List.mem_append_left _ (List.mem_cons.mpr (.inl rfl)))
    obtain ⟨vs, hd⟩ := hf
    obtain ⟨mA, hns, _⟩ : ObjOk X.prog X.w H s.heap dd (.xd fs) := I.hok dd _ ea
    obtain ⟨od, ho, _⟩ := lookIn_ns hns
    have J : PySem.W.InstAt s.heap a oe C (some od) := ⟨ha, hz.1, (by unfold PySem.W.notCls; rw [hd] <;> rfl), (by rw [hz.2]; exact ho)⟩
    exact PySem.W.kia_one (PySem.W.kitx_exc T.cl T.ga T.gg T.sb T.ca T.cn T.ct T.mo) I.kIn J e (fun z => nomatch z) fun tk => ⟨.bl b, H, I.kept (t' := tk) (fun _ _ z => z), rfl, q⟩
end QX

set_option Elab.async false
set_option linter.all false
set_option maxRecDepth 100000
/-! a dict of the module's top with text keys: d.get(k, x), d[k], k in d -/
namespace KDx
open PySem PySem.Spec PyProof.Rows L2
section
variable {X : Cx} {o e f : Expr} {apos cpos : Pos} {td ty tx : TE}
def tKGet2 (K : PySem.W.Frag) (w : World) (td ty tx : TE) : TE := fun σ H Q => td σ H fun x H1 => ∃ d es n, x = .ref d ∧ KDict K w d es n ∧ ty σ H1 fun y H2 => tx σ H2 fun z H3 => ∃ (q : Str) (r : Option Value), y = .str q ∧ PySem.W.nsIn K d q = some r ∧
  (r = none → Q z H3) ∧ (∀ u, r = some u → ∃ v, RelV v u ∧ Q v H3)
theorem pe_kget2 (ho : PE X o td) (he : PE X e ty) (hf : PE X f tx) (m : M2 X o "get" apos e f cpos := by exact ⟨rfl, rfl, rfl, rfl⟩) : PE X (.Call (.Attribute o "get" apos) [e, f] [] cpos) (tKGet2 X.K X.w td ty tx) := by
  refine ⟨fun pins s σ H Q I h => ?_⟩
  refine wpAny_Call_method m.base m.few m.line PySem.F.plainAttrs_dict PySem.F.slot_dict_get PySem.F.type_dict_get (thn (ho.run pins s σ H _ I h) fun u s1 ⟨x, H1, I1, rx, d, es, n, ex, D, q1⟩ => ?_)
  subst ex
  obtain rfl : u = Value.ref d := rx
  have hm1 := PySem.W.mapOf_K (prog := X.prog) (w := X.w) I1.kIn D.at_ D.lit
  refine ⟨hm1.typeIs, fun b e => by cases e; exact ⟨_, I1.kIn _ _ D.at_, rfl⟩, ?_⟩
  rw [m.trees]
  refine Calls.callWith_builtin rfl (Calls.evalArgs_plain (Calls.spliced_cons (thn (he.run pins s1 σ H1 _ I1 q1) fun iv s2 ⟨y, H2, I2, ry, q2⟩ =>
    Calls.spliced_cons (thn (hf.run pins s2 σ H2 _ I2 q2) fun fv s3 ⟨z, H3, I3, rz, q, r, ey, er, qn, qs⟩ => Calls.spliced_nil ?_))))
  subst ey
  obtain ⟨t, rfl⟩ := ry
  have hm := PySem.W.mapOf_K (prog := X.prog) (w := X.w) I3.kIn D.at_ D.lit
  refine call_meetsIn PySem.F.slot_dict_get hm.typeIs PySem.F.entry_dict_get (PySem.F.args_dict_get_3 _ _ _) (meets_dict_get_default (strKind X.prog X.w) d (strKind_is X.prog X.w q t) D.low fv) ⟨_, hm, ?_⟩
  rw [PySem.W.find_K D.at_ er]
  cases r with
  | none => exact ⟨z, H3, I3.tok _, rz, qn rfl⟩
  | some u =>
    obtain ⟨v, rv, qv⟩ := qs u rfl
    exact ⟨v, H3, I3.tok _, rv, qv⟩
end
/-- what d.get(x, dflt) gives for each x of the list -/
def getB (K : PySem.W.Frag) (a : Addr) (dflt : Int) (l : List (Str × Int)) : Bool := l.all fun q => match PySem.W.nsIn K a q.1 with
  | some none => q.2 == dflt
  | some (some (.int i _)) => i == q.2
  | _ => false
theorem getB_ok {K : PySem.W.Frag} {a : Addr} {dflt : Int} {l : List (Str × Int)} (h : getB K a dflt l = true) {x : Str} {v : Int} (hx : (x, v) ∈ l) : ∃ r, PySem.W.nsIn K a x = some r ∧ (r = none → v = dflt) ∧ (∀ u, r = some u → RelV (.int v) u) := by
  have q := List.all_eq_true.mp h _ hx
  dsimp only at q
  split at q
  · rename_i e
    exact ⟨none, e, fun _ => by simpa using q, fun u z => by cases z⟩
  · rename_i i t e
    refine ⟨_, e, fun z => (by cases z), fun u z => ?_⟩
    cases z
    have : i = v := by simpa using q
    subst this
    exact ⟨t, rfl⟩
  · cases q
/-- the values of a dict of texts -/
def strB (K : PySem.W.Frag) (a : Addr) (l : List (Str × Str)) : Bool := l.all fun q => match PySem.W.nsIn K a q.1 with
  | some (some (.str z _)) => decide (z = q.2)
  | _ => false
theorem strB_ok {K : PySem.W.Frag} {a : Addr} {l : List (Str × Str)} (h : strB K a l = true) {x z : Str} (hx : (x, z) ∈ l) : ∃ u, PySem.W.nsIn K a x = some (some u) ∧ RelV (.str z) u := by
  have q := List.all_eq_true.mp h _ hx
  dsimp only at q
  split at q
  · rename_i y t e
    have : y = z := by simpa using q
    subst this
    exact ⟨_, e, t, rfl⟩
  · cases q
/-- a tuple of texts of the module's top -/
def strOf : Value → Option Str
  | .str z _ => some z
  | _ => none
def tupB (K : PySem.W.Frag) (a : Addr) (l : List Str) : Bool := match K.lookup a with
  | some ⟨.type "tuple", _, .seq its _, _⟩ => decide (its.toList.map strOf = l.map some)
  | _ => false
theorem vals_strs : ∀ {us : List Value} {l : List Str}, us.map strOf = l.map some → Vals (l.map V.str) us
  | [], [], _ => .nil
  | [], _ :: _, h => by cases h
  | _ :: _, [], h => by cases h
  | u :: us, z :: l, h => by
    have h1 : strOf u :: us.map strOf = some z :: l.map some := h
    injection h1 with h2 h3
    refine .cons ?_ (vals_strs h3)
    cases u <;> simp only [strOf] at h2 <;> cases h2
    exact ⟨_, rfl⟩
theorem tupB_ok {K : PySem.W.Frag} {H : Hp} {a : Addr} {l : List Str} (h : tupB K a l = true) (hl : l.length ≤ 1000) : SqT K H a (l.map V.str) := by
  unfold tupB at h
  split at h
  · rename_i dd its n sl hk
    have e := of_decide_eq_true h
    have e2 := congrArg List.length e
    rw [List.length_map, List.length_map] at e2
    refine .inr ⟨_, its, n, hk, rfl, rfl, ?_, vals_strs e⟩
    have : its.size = its.toList.length := by simp
    rw [this, e2, sizeLine_eq]
    omega
  · cases h
def cycles25 : List (Str × Int) := [("set", 1), ("move", 1), ("add", 1), ("addc", 1), ("sub", 1), ("subc", 1), ("and", 1), ("or", 1), ("xor", 1), ("less", 1), ("down", 1), ("up", 1), ("carry", 1), ("clear", 1), ("load", 1), ("store", 1), ("below", 1), ("halt", 1),
  ("downby", 2), ("jump", 2), ("call", 2), ("ret", 2), ("div", 2), ("mul", 4), ("high", 4)]
end KDx

set_option Elab.async false
set_option linter.all false
set_option maxRecDepth 100000
/-! the texts of instructions' forms -/
namespace KDx
open PySem PySem.Spec PyProof.Rows L2
/-- none of these is a key -/
def noneB (K : PySem.W.Frag) (a : Addr) (l : List Str) : Bool := l.all fun x => match PySem.W.nsIn K a x with
  | some none => true
  | _ => false
theorem noneB_ok {K : PySem.W.Frag} {a : Addr} {l : List Str} (h : noneB K a l = true) {x : Str} (hx : x ∈ l) : PySem.W.nsIn K a x = some none := by
  have q := List.all_eq_true.mp h x hx
  split at q
  · assumption
  · cases q
def rrr12 : List Str := ["add", "addc", "sub", "subc", "mul", "high", "div", "and", "or", "xor", "less", "downby"]
def forms25 : List (Str × Str) := ([("set", "rn"), ("move", "rr")] : List (Str × Str)) ++ rrr12.map (fun x => (x, ("rrr" : Str))) ++ ([("down", "rrk"), ("up", "rrk"), ("carry", "r"), ("clear", ""), ("load", "rrd"), ("store", "rrd"), ("jump", "p"), ("below", "rnp"), ("call", "p"), ("ret", ""), ("halt", "")] : List (Str × Str))
def tops5 : List (Str × Int) := [("r", 15), ("n", 65535), ("k", 15), ("d", 4095), ("p", 19999)]
def odd8 : List Str := ["", "0", "SET", "set ", "sets", "region", "carr", "below1"]
end KDx

set_option Elab.async false
set_option linter.all false
set_option maxRecDepth 100000
set_option maxHeartbeats 400000
/-! zip(a, b), where each of a and b is a text, a tuple or a list. -/
namespace ZG
open PySem PySem.Spec PyProof.Rows L2

/-- what a zip goes over -/
inductive Src where
  | txt (x : Str) | tup (a : Addr) | lst (a : Addr)
def Src.v : Src → V
  | .txt x => .str x | .tup a => .ref a | .lst a => .ref a
/-- it stands, with these items -/
def Src.has (K : PySem.W.Frag) (H : Hp) : Src → List V → Prop
  | .txt x, ys => ys = x.cps.toList.map fun c => .str ⟨#[c]⟩
  | .tup a, ys => SqT K H a ys
  | .lst a, ys => SqL K H a ys
def Src.cells : Src → List Addr
  | .txt _ => [] | .tup a => [a] | .lst a => [a]
def Src.itAt : Src → Addr → Nat → Heap → Prop
  | .txt x, it, i, h => ∃ t, h.IsStrIter it (strIterType x) x t i
  | .tup a, it, i, h => h.IsTupleIter it a i
  | .lst a, it, i, h => h.IsListIter it a i
theorem Src.itAt_obj {S : Src} {it : Addr} {i : Nat} {h : Heap} (st : S.itAt it i h) : ∃ o, h.get? it = some o ∧ ∀ v, o.data ≠ .cell v := by
  cases S with
  | txt x => obtain ⟨t, o, ho, _, hd⟩ := st; exact ⟨o, ho, fun v q => by rw [hd] at q; cases q⟩
  | tup a => obtain ⟨o, ho, _, hd⟩ := st; exact ⟨o, ho, fun v q => by rw [hd] at q; cases q⟩
  | lst a => obtain ⟨o, ho, _, hd⟩ := st; exact ⟨o, ho, fun v q => by rw [hd] at q; cases q⟩
theorem Src.itAt_keep {S : Src} {it : Addr} {i : Nat} {h h' : Heap} (st : S.itAt it i h) (k : ∀ o, h.get? it = some o → h'.get? it = some o) : S.itAt it i h' := by
  cases S with
  | txt x => obtain ⟨t, o, ho, r⟩ := st; exact ⟨t, o, k o ho, r⟩
  | tup a => obtain ⟨o, ho, r⟩ := st; exact ⟨o, k o ho, r⟩
  | lst a => obtain ⟨o, ho, r⟩ := st; exact ⟨o, k o ho, r⟩
theorem Src.inj {X : Cx} {pins : List (Addr × Obj)} {σ : L2.St} {H : Hp} {s : Shared} (I : Inv X pins σ H s) {S : Src} {xs ys : List V} (h1 : S.has X.K H xs) (h2 : S.has X.K H ys) : xs = ys := by
  cases S with
  | txt x => exact h1.trans h2.symm
  | tup a => exact I.tuple_inj h1 h2
  | lst a => exact I.list_inj h1 h2

theorem Src.draws {X : Cx} {pins : List (Addr × Obj)} {σ : L2.St} {H : Hp} {s : Shared} (I : Inv X pins σ H s) (hh : X.A.in1.handled = none) {S : Src} {it : Addr} {i : Nat} {xs : List V} (hs : S.has X.K H xs) (st : S.itAt it i s.heap) (hne : ∀ c ∈ S.cells, c ≠ it) :
    ∃ (P : Nat → Value → Prop) (St : Nat → Heap → Prop), Draws X.prog X.w X.A.in1 it (it :: S.cells) xs.length P St ∧ St i s.heap ∧ (∀ j v, P j v → ∃ x, xs[j]? = some x ∧ RelV x v) ∧ ∀ j h, St j h → S.itAt it j h := by
  cases S with
  | txt x =>
    obtain ⟨t, st⟩ := st
    have hs : xs = x.cps.toList.map fun c => V.str ⟨#[c]⟩ := hs
    have hl : xs.length = x.cps.size := by rw [hs]; simp
    rw [hl]
    refine ⟨_, _, Draws.text hh it x t, st, fun j v hv => ?_, fun j h q => ⟨t, q⟩⟩
    obtain ⟨c, u, hc, rfl⟩ := hv
    refine ⟨.str ⟨#[c]⟩, ?_, u, rfl⟩
    rw [hs, List.getElem?_map, Array.getElem?_toList, hc]; rfl
  | tup a =>
    obtain ⟨its, rv, p, _⟩ := I.tuple (show SqT X.K H a xs from hs)
    have hl : xs.length = its.toArray.size := by rw [rv.length]; simp
    rw [hl]
    refine ⟨_, _, Draws.tuple hh it a (hne a (List.mem_cons_self ..)) its.toArray, ⟨st, p⟩, fun j v hv => ?_, fun j h q => q.1⟩
    have hv : its[j]? = some v := by simpa using hv
    have hj : j < xs.length := by
      rw [rv.length]
      rcases Nat.lt_or_ge j its.length with z | z
      · exact z
      · rw [List.getElem?_eq_none z] at hv; cases hv
    obtain ⟨u, hu, ru⟩ := rv.get (List.getElem?_eq_getElem hj)
    rw [hv] at hu
    cases hu
    exact ⟨_, List.getElem?_eq_getElem hj, ru⟩
  | lst a =>
    obtain ⟨its, rv, p, _⟩ := I.list (show SqL X.K H a xs from hs)
    have hl : xs.length = its.toArray.size := by rw [rv.length]; simp
    rw [hl]
    refine ⟨_, _, Draws.list hh it a (hne a (List.mem_cons_self ..)) its.toArray, ⟨st, p.isList⟩, fun j v hv => ?_, fun j h q => q.1⟩
    have hv : its[j]? = some v := by simpa using hv
    have hj : j < xs.length := by
      rw [rv.length]
      rcases Nat.lt_or_ge j its.length with z | z
      · exact z
      · rw [List.getElem?_eq_none z] at hv; cases hv
    obtain ⟨u, hu, ru⟩ := rv.get (List.getElem?_eq_getElem hj)
    rw [hv] at hu
    cases hu
    exact ⟨_, List.getElem?_eq_getElem hj, ru⟩

/-- both as they stand at each turn; the items in a new pair -/
def ItG (K : PySem.W.Frag) (S1 S2 : Src) : It where
  go i H := ∃ xs ys, S1.has K H xs ∧ S2.has K H ys ∧ i < xs.length ∧ i < ys.length
  yld i H v H' := ∃ T x y, v = .ref T ∧ H T = none ∧ H' = upd H T (.tup [x, y]) ∧ (∀ xs, S1.has K H xs → xs[i]? = some x) ∧ ∀ ys, S2.has K H ys → ys[i]? = some y
  stop i H := ∃ xs ys, S1.has K H xs ∧ S2.has K H ys ∧ i = min xs.length ys.length
structure Apart (z TI TO i1 i2 : Addr) (S1 S2 : Src) : Prop where
  sep : ZipSep2 z TI TO i1 i2 (i1 :: S1.cells) (i2 :: S2.cells)
  n1 : ∀ c ∈ S1.cells, c ≠ i1
  n2 : ∀ c ∈ S2.cells, c ≠ i2

theorem turnG {P : Program} {w : World} {K : PySem.W.Frag} {elts : List Expr} {kk : Nat} {tpos : Pos} {S1 S2 : Src} {z TI TO i1 i2 : Addr} (D : Apart z TI TO i1 i2 S1 S2) :
    Turn P w K (.Tuple elts kk tpos) (ItG K S1 S2) [z, TI, TO, i1, i2] z (fun i h => (IsZip h z TI TO .none ∧ IsTupOf2 h TI (.ref i1) (.ref i2) ∧ ∃ x y, IsTupOf2 h TO x y) ∧ S1.itAt i1 i h ∧ S2.itAt i2 i h) where
  mem := by simp
  obj := by
    rintro i h ⟨⟨hz, hI, x, y, hO⟩, h1, h2⟩ c hc
    simp only [List.mem_cons, List.not_mem_nil, or_false] at hc
    rcases hc with rfl | rfl | rfl | rfl | rfl
    · exact ⟨_, hz, nofun⟩
    · exact ⟨_, hI, nofun⟩
    · exact ⟨_, hO, nofun⟩
    · exact Src.itAt_obj h1
    · exact Src.itAt_obj h2
  keep := by
    rintro i h h' ⟨⟨hz, hI, x, y, hO⟩, h1, h2⟩ k
    exact ⟨⟨k z (by simp) _ hz, k TI (by simp) _ hI, x, y, k TO (by simp) _ hO⟩, Src.itAt_keep h1 (k i1 (by simp)), Src.itAt_keep h2 (k i2 (by simp))⟩
  item := by
    intro X hP hw hK hc i pins s σ H E I hf ⟨⟨hz, hI, x0, y0, hO⟩, h1, h2⟩ ⟨xs, ys, q1, q2, l1, l2⟩
    subst hP hw hK
    have hh : X.A.in1.handled = none := I.ok.hd hc
    obtain ⟨P1, St1, D1, st1, e1, k1⟩ := Src.draws I hh q1 h1 D.n1
    obtain ⟨P2, St2, D2, st2, e2, k2⟩ := Src.draws I hh q2 h2 D.n2
    have lz : z < s.heap.objs.size := Heap.lt_size hz
    refine wpAny_pyNext_zipD2_item D.sep D1 D2 hz hI hO st1 st2 l1 l2 fun u1 u2 h' tk p1 p2 z' o' n1 n2 hT hsz hk => ?_
    obtain ⟨x, hx, rx⟩ := e1 i u1 p1
    obtain ⟨y, hy, ry⟩ := e2 i u2 p2
    refine ⟨_, rfl, wpAny_letOwnedTupleGo_zip (s := { s with heap := h', toks := tk }) z' fun h'' z'' sb => ?_⟩
    have hT2 := (sb.2 _ (Nat.ne_of_gt lz)).trans hT
    have new : ObjOk X.prog X.w (upd H s.heap.objs.size (.tup [x, y])) h'' s.heap.objs.size (.tup [x, y]) :=
      ⟨by show 2 ≤ sizeLine; decide, [u1, u2], .cons rx (.cons ry .nil), _, hT2, rfl, _, rfl⟩
    have all : ∀ c o, c ∉ [z, TI, TO, i1, i2] → s.heap.get? c = some o → h''.get? c = some o := fun c o hb q => by
      simp only [List.mem_cons, List.not_mem_nil, or_false, not_or] at hb
      exact (sb.2 c hb.1).trans (hk c o hb.1 hb.2.2.1 hb.2.2.2.1 hb.2.2.2.2 q)
    have I1 : Inv X pins σ (upd H s.heap.objs.size (.tup [x, y])) { s with heap := h'', toks := tk } := I.turnedNew all hf (Nat.le_refl _) new
    have lt : ∀ {c o}, s.heap.get? c = some o → c < s.heap.objs.size := fun e => Heap.lt_size e
    obtain ⟨oa, ha, _⟩ := Src.itAt_obj h1
    obtain ⟨ob, hb, _⟩ := Src.itAt_obj h2
    refine ⟨.ref s.heap.objs.size, _, I1, rfl, ⟨_, x, y, rfl, I.hok.fresh (Nat.le_refl _), rfl, fun l hl => by rw [Src.inj I hl q1]; exact hx, fun l hl => by rw [Src.inj I hl q2]; exact hy⟩, ⟨⟨z'', ?_, u1, u2, ?_⟩, ?_, ?_⟩, fun c hcm => ?_⟩
    · exact (sb.2 _ D.sep.TIz).trans (hk _ _ D.sep.TIz D.sep.TITO D.sep.TIi1 D.sep.TIi2 hI)
    · exact (sb.2 _ D.sep.TOz).trans o'
    · exact Src.itAt_keep (k1 _ _ n1) fun o e => (sb.2 _ (Ne.symm D.sep.zi1)).trans e
    · exact Src.itAt_keep (k2 _ _ n2) fun o e => (sb.2 _ (Ne.symm D.sep.zi2)).trans e
    · have hlt : c < s.heap.objs.size := by
        simp only [List.mem_cons, List.not_mem_nil, or_false] at hcm
        rcases hcm with rfl | rfl | rfl | rfl | rfl
        · exact lz
        · exact lt hI
        · exact lt hO
        · exact lt ha
        · exact lt hb
      rw [upd_ne (Nat.ne_of_lt hlt)]
      exact (hf c hcm).1
  done := by
    intro X hP hw hK hc i pins s σ H E I hf ⟨⟨hz, hI, x0, y0, hO⟩, h1, h2⟩ ⟨xs, ys, q1, q2, hend⟩
    subst hP hw hK
    have hh : X.A.in1.handled = none := I.ok.hd hc
    obtain ⟨P1, St1, D1, st1, e1, k1⟩ := Src.draws I hh q1 h1 D.n1
    obtain ⟨P2, St2, D2, st2, e2, k2⟩ := Src.draws I hh q2 h2 D.n2
    refine wpAny_pyNext_zipD2_end D.sep D1 D2 hz hI hO st1 st2 (by omega) (by omega) (by omega) fun h' tk hk => ⟨rfl, I.turnedL (ch := [z, TI, TO, i1, i2]) (fun c o hb q => ?_) hf⟩
    simp only [List.mem_cons, List.not_mem_nil, or_false, not_or] at hb
    exact hk c o hb.1 hb.2.2.1 hb.2.2.2.1 hb.2.2.2.2 q
  self := fun A i s Q E st h => wpAny_pyIter_zip st.1.1 h

/-- the object of its iterator, at the start -/
def Src.o1 (S : Src) (u : Value) : Obj :=
  match S with
  | .txt x => { cls := .type (strIterType x), data := .fields #[u, .int 0 0] }
  | .tup _ => { cls := .type "tuple_iterator", data := .fields #[u, .int 0 0] }
  | .lst _ => { cls := .type "list_iterator", data := .fields #[u, .int 0 0] }
theorem Src.begins {X : Cx} {pins : List (Addr × Obj)} {σ : L2.St} {H : Hp} {s : Shared} (I : Inv X pins σ H s) {S : Src} {xs : List V} (hs : S.has X.K H xs) {u : Value} (hu : RelV S.v u) :
    ∃ G : Heap → Prop, Begins u (S.o1 u) G ∧ G s.heap ∧ (∀ h it, h.get? it = some (S.o1 u) → S.itAt it 0 h) ∧ ∀ c ∈ S.cells, c < s.heap.objs.size := by
  cases S with
  | txt x =>
    obtain ⟨t, rfl⟩ := hu
    exact ⟨_, begins_text x t, trivial, fun h it e => ⟨t, _, e, rfl, rfl⟩, nofun⟩
  | tup a =>
    cases hu
    obtain ⟨its, rv, p, _⟩ := I.tuple (show SqT X.K H a xs from hs)
    obtain ⟨o, ho, _⟩ := id p
    exact ⟨_, begins_tuple a its.toArray, p, fun h it e => ⟨_, e, rfl, rfl⟩, fun c hc => by rw [List.mem_singleton.mp hc]; exact Heap.lt_size ho⟩
  | lst a =>
    cases hu
    obtain ⟨its, rv, p, _⟩ := I.list (show SqL X.K H a xs from hs)
    exact ⟨_, begins_list a its.toArray, p.isList, fun h it e => ⟨_, e, rfl, rfl⟩, fun c hc => by rw [List.mem_singleton.mp hc]; exact p.lt⟩

def iZipG (K : PySem.W.Frag) (ta : TA) : TI := fun σ H R => ta σ H fun vs H1 => ∃ S1 S2 xs ys, vs = [Src.v S1, Src.v S2] ∧ S1.has K H1 xs ∧ S2.has K H1 ys ∧ R (ItG K S1 S2) H1
theorem pi_zipG {X : Cx} {e e2 : Expr} {ta : TA} {p pos tpos : Pos} {elts : List Expr} {kk : Nat} (hg : Gl X "zip") (hm : X.mg "zip" = none) (ha : PA X [e, e2] ta)
    (hs : starEach [e, e2] X.env = (false, eval e X.env) :: starEach [e2] X.env := by rfl) (hpl : (backTo pos (starEach [e2] X.env)).any (·.1) = false := by rfl) :
    PI X (.Tuple elts kk tpos) (.Call (.Name "zip" p) [e, e2] [] pos) (iZipG X.K ta) := by
  refine ⟨fun pins s σ H R I h => Call_ (ld_blt I hg hm PyProof.Rows.boot_zip (PyProof.Rows.callWith_type1 (thn (ha.run pos pins s σ H _ I h) fun us s1 ⟨vs, H1, I1, r1, q1⟩ => ?_) hs hpl))⟩
  obtain ⟨S1, S2, xs, ys, rfl, g1, g2, q⟩ := q1
  cases r1 with
  | cons r rr =>
    cases rr with
    | cons r' rr =>
      cases rr
      obtain ⟨G1, B1, b1, f1, c1⟩ := Src.begins I1 g1 r
      obtain ⟨G2, B2, b2, f2, c2⟩ := Src.begins I1 g2 r'
      refine zip_begins2 B1 B2 b1 b2 ?_
      intro h' hz hI hO o1 o2 hsz hk
      refine wpAny_pyIter_zip hz ?_
      have I2 : Inv X pins σ H1 { s1 with heap := h' } := I1.kept (t' := s1.toks) hk
      have D : Apart (s1.heap.objs.size + 4) (s1.heap.objs.size + 2) (s1.heap.objs.size + 3) s1.heap.objs.size (s1.heap.objs.size + 1) S1 S2 := ⟨zip_sep2 c1 c2, fun c hc => Nat.ne_of_lt (c1 c hc), fun c hc => Nat.ne_of_lt (Nat.lt_succ_of_lt (c2 c hc))⟩
      refine ⟨s1.heap.objs.size + 4, [s1.heap.objs.size + 4, s1.heap.objs.size + 2, s1.heap.objs.size + 3, s1.heap.objs.size, s1.heap.objs.size + 1], _, _, H1, rfl, I2, turnG D, ⟨⟨hz, hI, _, _, hO⟩, f1 _ _ o1, f2 _ _ o2⟩, fun c hc => ?_, q⟩
      have hle : s1.heap.objs.size ≤ c := by
        simp only [List.mem_cons, List.not_mem_nil, or_false] at hc
        rcases hc with rfl | rfl | rfl | rfl | rfl
        · exact Nat.le_add_right _ _
        · exact Nat.le_add_right _ _
        · exact Nat.le_add_right _ _
        · exact Nat.le_refl _
        · exact Nat.le_add_right _ _
      exact I1.fpOk hle (I1.hok.fresh hle)

theorem walkG {K : PySem.W.Frag} {S1 S2 : Src} {xs ys : List V} {n : Nat} (hn : n = min xs.length ys.length) : Walk (ItG K S1 S2) n (fun H => S1.has K H xs ∧ S2.has K H ys) (YPair (fun i => xs[i]?) (fun i => ys[i]?)) := by
  refine ⟨fun i _ hi q => ⟨xs, ys, q.1, q.2, by omega, by omega⟩, fun _ q => ⟨xs, ys, q.1, q.2, hn⟩, fun i H v H' _ q y => ?_⟩
  obtain ⟨T, x, w, e1, e2, e3, e4, e5⟩ := y
  exact ⟨T, x, w, e1, e2, e3, e4 xs q.1, e5 ys q.2⟩
end ZG

set_option Elab.async false
set_option linter.all false
set_option maxRecDepth 100000
set_option maxHeartbeats 4000000
/-! tuple * int for every int from 0 on: once is the tuple itself, never is an empty one -/
namespace TR
open PySem PySem.Spec PyProof.Rows L2
theorem tuple_mul1 (l : Addr) (items : Array Value) (n : Nat) (dd : Option Addr) (sl : Array (Option Value)) (u : Tok) :
    Meets (Builtin.«tuple.__mul__» ⟨[.ref l, .int 1 u], []⟩) (fun _ R s => s.heap.get? l = some { cls := .type "tuple", dict := dd, data := .seq items n, slots := sl } ∧ R (.ok (.ret (Value.ref l))) s) :=
  .of_wp fun prog w A R s h => by
    obtain ⟨hp, g, d, tk, os⟩ := s
    obtain ⟨hl, h⟩ := h
    have f1 := AutoSeq1.idx_int
    have c1 : (items.isEmpty || (1 : Int) == 1) = true := by simp
    wp_walk using wpAny_loadPart' hl
    repeat (first
      | (refine wpAny_ite_true (decide_eq_true (by rw [c1])) ?_; wp_walk using wpAny_loadPart' hl)
      | (refine wpAny_ite_false (decide_eq_false (by decide)) ?_; wp_walk using wpAny_loadPart' hl))
    exact ⟨_, rfl, h⟩
theorem tuple_mul0 (l : Addr) (items : Array Value) (n : Nat) (dd : Option Addr) (sl : Array (Option Value)) (u : Tok) (hi : items.isEmpty = false) :
    Meets (Builtin.«tuple.__mul__» ⟨[.ref l, .int 0 u], []⟩) (fun _ R s => s.heap.get? l = some { cls := .type "tuple", dict := dd, data := .seq items n, slots := sl } ∧
      R (.ok (.ret (Value.ref s.heap.objs.size))) { s with heap := s.heap.push { cls := Value.type "tuple", data := Data.seq #[] }, toks := s.toks }) :=
  .of_wp fun prog w A R s h => by
    obtain ⟨hp, g, d, tk, os⟩ := s
    obtain ⟨hl, h⟩ := h
    have f1 := AutoSeq1.idx_int
    have c1 : (items.isEmpty || (0 : Int) == 1) = false := by rw [hi]; rfl
    have c2 : (decide ((0 : Int) ≤ 0) || items.isEmpty) = true := by simp
    wp_walk using wpAny_loadPart' hl
    exact ⟨_, rfl, h⟩
def rRepA (K : PySem.W.Frag) : R2 := fun x y H Q => ∃ l k xs, x = .ref l ∧ y = .int k ∧ SqT K H l xs ∧ xs ≠ [] ∧ 0 ≤ k ∧ k ≤ 1000 ∧ xs.length ≤ 1000 ∧
  (k = 1 → Q (.ref l) H) ∧ (k ≠ 1 → ∀ p, H p = none → Q (.ref p) (upd H p (.tup (List.replicate k.toNat xs).flatten)))
section
variable {X : Cx}
theorem op_repA : OpR X (binaryOp .Mult) (rRepA X.K) := by
  intro pins s σ H x y v u Q I rx ry h
  obtain ⟨l, k, xs, rfl, rfl, hT, hne, h1, h2, hz, q1, q2⟩ := h
  by_cases hk2 : 2 ≤ k
  · exact op_repT pins s σ H _ _ v u Q I rx ry ⟨l, k, xs, rfl, rfl, hT, hne, hk2, h2, hz, q2 (by omega)⟩
  cases rx
  obtain ⟨t, rfl⟩ := ry
  obtain ⟨its, r, ⟨⟨cls, dd, data, sl⟩, ho, hc, n, hd⟩, hs⟩ := I.tuple hT
  simp only at hc hd
  subst hc hd
  have hle : its.length = xs.length := r.length.symm
  have hi : its.toArray.isEmpty = false := by
    cases its with
    | nil => exact absurd (List.eq_nil_of_length_eq_zero hle.symm) hne
    | cons a b => rfl
  have hk : k = 0 ∨ k = 1 := by omega
  rcases hk with rfl | rfl
  · refine wpAny_binaryOp_repeat_ref (T := "tuple") (U := "int") (by decide) ⟨_, ho, rfl⟩ (fun s' => typeIs_int s' 0 t) noFill_tuple_mul F.fills_int_mul F.slot_int_rmul repeat_tuple F.slot_int_index.lookup
      (call_meets F.slot_int_rmul (typeIs_int s 0 t) F.entry_int_rmul (F.args_int_rmul_2 _ _) (int_rmul_tuple 0 t l its.toArray n dd sl)
        ⟨ho, rfl, ⟨_, ho, rfl⟩, call_meets F.slot_tuple_mul ⟨_, ho, rfl⟩ F.entry_tuple_mul (F.args_tuple_mul_2 _ _) (tuple_mul0 l its.toArray n dd sl t hi) ⟨ho, ?_⟩⟩)
    refine ⟨.ref s.heap.objs.size, _, I.laid (t' := s.toks) (o := .tup []) (fun b ob q => Heap.get?_push_of_some _ q) (Nat.le_refl _) ?_, rfl, q2 (by decide) _ (I.hok.fresh (Nat.le_refl _))⟩
    exact ⟨Nat.zero_le _, [], .nil, IsTup.new _ _⟩
  · refine wpAny_binaryOp_repeat_ref (T := "tuple") (U := "int") (by decide) ⟨_, ho, rfl⟩ (fun s' => typeIs_int s' 1 t) noFill_tuple_mul F.fills_int_mul F.slot_int_rmul repeat_tuple F.slot_int_index.lookup
      (call_meets F.slot_int_rmul (typeIs_int s 1 t) F.entry_int_rmul (F.args_int_rmul_2 _ _) (int_rmul_tuple 1 t l its.toArray n dd sl)
        ⟨ho, rfl, ⟨_, ho, rfl⟩, call_meets F.slot_tuple_mul ⟨_, ho, rfl⟩ F.entry_tuple_mul (F.args_tuple_mul_2 _ _) (tuple_mul1 l its.toArray n dd sl t) ⟨ho, ?_⟩⟩)
    exact ⟨.ref l, H, I, rfl, q1 rfl⟩
end
end TR

set_option Elab.async false
set_option linter.all false
set_option maxRecDepth 100000
/-! heaps that a law's own text works on: what it holds, as a list of addresses and objects; the two first helpers' promises -/
namespace Lw
open PySem PySem.Spec PyProof.Rows L2
theorem same_upd {H : Hp} {p : Addr} {o : HO} (h : H p = none) : Same H (upd H p o) := fun b x e => by
  rw [upd_ne (ne_of_none e h)]
  exact e
/-- what stood stands, but for the object at p -/
def Keep (H H' : Hp) (p : Addr) : Prop := ∀ b o, b ≠ p → H b = some o → H' b = some o
theorem Keep.trans {H H1 H2 : Hp} {p : Addr} (a : Keep H H1 p) (b : Keep H1 H2 p) : Keep H H2 p := fun c o n e => b c o n (a c o n e)
theorem keep_upd (H : Hp) (p : Addr) (o : HO) : Keep H (upd H p o) p := fun b u n e => by
  rw [upd_ne n]
  exact e
theorem Same.keep {H H' : Hp} {p : Addr} (s : Same H H') : Keep H H' p := fun b o _ e => s b o e
theorem Keep.new {H H1 H2 : Hp} {p : Addr} (n : H p = none) (s : Same H H1) (k : Keep H1 H2 p) : Same H H2 := fun b o e => k b o (ne_of_none e n) (s b o e)
theorem Keep.free {H H' : Hp} {p r : Addr} {o : HO} (k : Keep H H' p) (hp : H' p = some o) (hr : H' r = none) : H r = none := by
  cases e : H r with
  | none => rfl
  | some u =>
    have n : r ≠ p := fun z => by
      rw [z, hp] at hr
      cases hr
    rw [k r u n e] at hr
    cases hr
theorem at_int {ns : List Int} {i : Int} (h0 : 0 ≤ i) (h1 : i < ns.length) : ∃ z, atI (ns.map V.int) i = some (.int z) := by
  obtain ⟨j, rfl⟩ := Int.eq_ofNat_of_zero_le h0
  have hj : j < ns.length := by omega
  refine ⟨ns[j], atI_nat ?_⟩
  rw [List.getElem?_map, List.getElem?_eq_getElem hj]
  rfl
def spSource (K : PySem.W.Frag) : Sp := fun vs H Q _ => ∃ (a : Addr) (ns : List Int) (k : Int), vs = [.ref a, .int k] ∧ SqL K H a (ns.map V.int) ∧ ns.length ≤ 63 ∧ 0 ≤ k ∧
  ∀ (p : Addr) (x y : Int), H p = none → 0 ≤ x → Q (.ref p) (upd H p (.lst [.int x, .int y]))
def spDraw : Sp := fun vs H Q _ => ∃ (p : Addr) (x y m : Int), vs = [.ref p, .int m] ∧ H p = some (.lst [.int x, .int y]) ∧ 0 ≤ x ∧ 0 < m ∧ m ≤ 100000 ∧
  ∀ (v x' y' : Int), 0 ≤ v → v < m → 0 ≤ x' → Q (.int v) (upd H p (.lst [.int x', .int y']))
/-- since H0: what stood stands; L: what is new and known, each place once -/
structure Objs (H0 H : Hp) (L : List (Addr × HO)) : Prop where
  same : Same H0 H
  at_ : ∀ q ∈ L, H q.1 = some q.2
  nd : (L.map (·.1)).Nodup
  new : ∀ q ∈ L, H0 q.1 = none
section
variable {H0 H H' : Hp} {L : List (Addr × HO)} {a : Addr} {o o' : HO} {i : Nat}
theorem Objs.nil (H : Hp) : Objs H H [] := ⟨Same.refl H, fun _ h => absurd h (by simp), List.nodup_nil, fun _ h => absurd h (by simp)⟩
theorem Objs.get (h : Objs H0 H L) (i : Nat) (hi : L[i]? = some (a, o)) : H a = some o := h.at_ _ (List.mem_of_getElem? hi)
theorem Objs.mono (h : Objs H0 H L) (s : Same H H') : Objs H0 H' L := ⟨h.same.trans s, fun q hq => s _ _ (h.at_ q hq), h.nd, h.new⟩
theorem Objs.fresh (h : Objs H0 H L) (n : H a = none) : a ∉ L.map (·.1) ∧ H0 a = none :=
  ⟨fun z => (by
    obtain ⟨q, hq, e⟩ := List.mem_map.mp z
    have := h.at_ q hq
    rw [e, n] at this
    cases this), h.same.free n⟩
theorem Objs.push (h : Objs H0 H L) (n : H a = none) (s : Same H H') (e : H' a = some o) : Objs H0 H' ((a, o) :: L) := by
  obtain ⟨h1, h2⟩ := h.fresh n
  refine ⟨h.same.trans s, fun q hq => ?_, ?_, fun q hq => ?_⟩
  · rcases List.mem_cons.mp hq with z | z
    · rw [z]; exact e
    · exact s _ _ (h.at_ q z)
  · rw [List.map_cons, List.nodup_cons]
    exact ⟨h1, h.nd⟩
  · rcases List.mem_cons.mp hq with z | z
    · rw [z]; exact h2
    · exact h.new q z
theorem Objs.add (h : Objs H0 H L) (n : H a = none) : Objs H0 (upd H a o) ((a, o) :: L) := h.push n (same_upd n) upd_same
theorem Objs.skip (h : Objs H0 H L) (n : H a = none) : Objs H0 (upd H a o) L := h.mono (same_upd n)
theorem Objs.set (h : Objs H0 H L) (i : Nat) (hi : L[i]? = some (a, o)) (k : Keep H H' a) (e : H' a = some o') : Objs H0 H' (L.set i (a, o')) := by
  have hm : (a, o) ∈ L := List.mem_of_getElem? hi
  obtain ⟨hlt, hie⟩ := List.getElem?_eq_some_iff.mp hi
  have hmap : (L.set i (a, o')).map (·.1) = L.map (·.1) := by
    rw [List.map_set]
    apply List.ext_getElem?
    intro j
    by_cases hj : i = j
    · subst hj
      rw [List.getElem?_set_self (by simpa using hlt), List.getElem?_map, hi]
      rfl
    · rw [List.getElem?_set_ne hj]
  have h0 := h.new _ hm
  refine ⟨Keep.new h0 h.same k, fun q hq => ?_, by rw [hmap]; exact h.nd, fun q hq => ?_⟩
  · obtain ⟨j, hj⟩ := List.getElem?_of_mem hq
    by_cases hij : i = j
    · subst hij
      rw [List.getElem?_set_self hlt] at hj
      cases hj
      exact e
    · rw [List.getElem?_set_ne hij] at hj
      have hq2 := List.mem_of_getElem? hj
      refine k _ _ (fun z => ?_) (h.at_ q hq2)
      have e1 : (L.map (·.1))[i]? = some a := by rw [List.getElem?_map, hi]; rfl
      have e2 : (L.map (·.1))[j]? = some a := by rw [List.getElem?_map, hj, ← z]; rfl
      obtain ⟨g1, f1⟩ := List.getElem?_eq_some_iff.mp e1
      obtain ⟨g2, f2⟩ := List.getElem?_eq_some_iff.mp e2
      exact hij ((List.getElem_inj h.nd).mp (f1.trans f2.symm))
  · obtain ⟨j, hj⟩ := List.getElem?_of_mem hq
    by_cases hij : i = j
    · subst hij
      rw [List.getElem?_set_self hlt] at hj
      cases hj
      exact h0
    · rw [List.getElem?_set_ne hij] at hj
      exact h.new q (List.mem_of_getElem? hj)
theorem Objs.put (h : Objs H0 H L) (i : Nat) (hi : L[i]? = some (a, o)) : Objs H0 (upd H a o') (L.set i (a, o')) := h.set i hi (keep_upd H a o') upd_same
/-- one more, that was new at some time since -/
theorem Objs.join {b : Addr} {u : HO} (h : Objs H0 H' L) (n : b ∉ L.map (·.1)) (n0 : H0 b = none) (e : H' b = some u) : Objs H0 H' ((b, u) :: L) := by
  refine ⟨h.same, fun q hq => ?_, ?_, fun q hq => ?_⟩
  · rcases List.mem_cons.mp hq with z | z
    · rw [z]; exact e
    · exact h.at_ q z
  · rw [List.map_cons, List.nodup_cons]
    exact ⟨n, h.nd⟩
  · rcases List.mem_cons.mp hq with z | z
    · rw [z]; exact n0
    · exact h.new q z
theorem Objs.sub {L' : List (Addr × HO)} (h : Objs H0 H L) (s : List.Sublist L' L) : Objs H0 H L' :=
  ⟨h.same, fun q hq => h.at_ q (s.subset hq), h.nd.sublist (s.map _), fun q hq => h.new q (s.subset hq)⟩
theorem Objs.ne (h : Objs H0 H L) {b : Addr} {u : HO} (i j : Nat) (hi : L[i]? = some (a, o)) (hj : L[j]? = some (b, u)) (hij : i ≠ j) : a ≠ b := fun z => by
  have e1 : (L.map (·.1))[i]? = some a := by rw [List.getElem?_map, hi]; rfl
  have e2 : (L.map (·.1))[j]? = some a := by rw [List.getElem?_map, hj, z]; rfl
  obtain ⟨g1, f1⟩ := List.getElem?_eq_some_iff.mp e1
  obtain ⟨g2, f2⟩ := List.getElem?_eq_some_iff.mp e2
  exact hij ((List.getElem_inj h.nd).mp (f1.trans f2.symm))
end
theorem ixN_of {n : Nat} {i : Int} (h0 : 0 ≤ i) (h1 : i < n) : ixN n i = some i.toNat := by
  unfold ixN
  rw [if_pos h0, if_pos h1]
theorem get_at {ns : List Int} {i : Nat} (h : i < ns.length) : atI (ns.map V.int) (0 + (i : Int)) = some (.int ns[i]) := by
  rw [Int.zero_add]
  refine atI_nat ?_
  rw [List.getElem?_map, List.getElem?_eq_getElem h]
  rfl
theorem at_back {ns : List Int} {i : Nat} (h : i < ns.length) : atI (ns.map V.int) ((ns.length : Int) - 1 - (0 + (i : Int))) = some (.int (ns[ns.length - 1 - i]'(by omega))) := by
  rw [show (ns.length : Int) - 1 - (0 + (i : Int)) = ((ns.length - 1 - i : Nat) : Int) by omega]
  refine atI_nat ?_
  rw [List.getElem?_map, List.getElem?_eq_getElem (by omega)]
  rfl
theorem ne_of_none' {H : Hp} {a b : Addr} {o : HO} (h : H a = some o) (h' : H b = none) : b ≠ a := (ne_of_none h h').symm
end Lw

set_option Elab.async false
set_option linter.all false
set_option maxRecDepth 100000
set_option maxHeartbeats 2000000
/-! all(e for target in walked), any(..): the element may call own defs; by the frame of the generator as a context of its own. -/
namespace GA
open PySem PySem.Spec PyProof.Rows L2 GenW GxR

/-- the frame of a generator expression that was made at s -/
abbrev gen (X : Cx) (A : Around) (s : Shared) (H : Hp) (cenv : Env) (fp : List Addr) (pn : List (Addr × Obj)) : Cx :=
  { X with A := A, s_0 := s, H_0 := H, env := cenv, outer := X.stack, stack := cenv :: X.stack, ex := fp, fn := fun _ => false, pn := pn, xe := fun _ _ => False }
/-- its environment -/
abbrev genv (X : Cx) (scope : Scope) (C : Addr) (code : Value) : Env := genEnv scope (cloFrom X.env.cells scope.names []) C code builtinsNs X.env
structure GenOk (N : List Str) (sc scope : Scope) (own : List (Str × Nat)) : Prop where
  blk : BlkOk N sc scope own
  co : scope.isCoroutine = false
  cell : ∀ y ∈ scope.names, y.2 ≠ .cell
  dot : scope.names.lookup (".0" : Str) = some NameKind.local
theorem genOk_by {N : List Str} {sc scope : Scope} {own : List (Str × Nat)} (h : (scope.kind = .function ∧ (∀ y ∈ scope.names, scope.names.lookup y.1 = some y.2) ∧ (∀ p ∈ own, N[p.2]? = some p.1) ∧
    (∀ y ∈ scope.names, y.2 = .free → sc.names.lookup y.1 = some .cell ∨ sc.names.lookup y.1 = some .free) ∧ (∀ y ∈ scope.names, y.2 = .local ∨ y.2 = .cell → y.1 ∈ own.map (·.1) ∨ y.1 ∉ N)) ∧
    scope.isCoroutine = false ∧ (∀ y ∈ scope.names, y.2 ≠ .cell) ∧ scope.names.lookup (".0" : Str) = some NameKind.local) : GenOk N sc scope own :=
  ⟨⟨h.1.1, h.1.2.1, h.1.2.2.1, h.1.2.2.2.1, h.1.2.2.2.2⟩, h.2.1, h.2.2.1, h.2.2.2⟩

section
variable {X : Cx} {pins : List (Addr × Obj)} {σ : L2.St} {H : Hp} {s : Shared}
theorem gen_start {A : Around} {scope : Scope} {own : List (Str × Nat)} {fp : List Addr} {a : Addr} {code : Value} {go : Obj} {m0 : Str → Option Value} {s5 : Shared} (I : Inv X pins σ H s) (ok : GenOk X.N X.env.scope scope own) (hN : X.N.Nodup)
    (hA : A.frames = some X.stack) (hh : A.handled = none) (hfp : ∀ b ∈ fp, FpOk X pins H b ∧ b < s.heap.objs.size) (kp : ∀ b o, s.heap.get? b = some o → s5.heap.get? b = some o) (hns : s5.heap.Ns s.heap.objs.size m0) (hos : s5.os = s.os) (hb5 : AllBare s5.gens)
    (ha : s.heap.objs.size < a) (hgo : s5.heap.get? a = some go) (hgd : ∀ v, go.data ≠ .cell v) :
    Inv (gen X (A.deeper (genv X scope s.heap.objs.size code)) s H (genv X scope s.heap.objs.size code) fp [(a, go)]) [] (wipe σ (own.map (·.2))) H s5 := by
  have hfree : ∀ y ∈ scope.names, y.2 = .free → ∃ c, X.env.cells.lookup y.1 = some c := fun y hy e => by
    rcases ok.blk.free y hy e with k | k
    · exact I.ok.has _ (.inl k)
    · exact I.ok.has _ (.inr k)
  have cm : ∀ {y c}, (y, c) ∈ cloFrom X.env.cells scope.names [] → X.env.cells.lookup y = some c ∧ c < s.heap.objs.size ∧ (y, NameKind.free) ∈ scope.names := fun {y c} hm => by
    rcases cloFrom_mem hm with hm | ⟨h1, rfl⟩
    · cases hm
    · obtain ⟨c, hc⟩ := hfree _ h1 rfl
      rw [hc]
      obtain ⟨w, z⟩ := I.cell _ _ hc
      exact ⟨rfl, z.lt, h1⟩
  have cm2 : ∀ {y c}, (cloFrom X.env.cells scope.names []).lookup y = some c → X.env.cells.lookup y = some c ∧ c < s.heap.objs.size ∧ (y, NameKind.free) ∈ scope.names := fun {y c} e => cm (PySem.mem_of_lookup e)
  have look : ∀ {y}, scope.names.lookup y = some .free → ∃ c, (cloFrom X.env.cells scope.names []).lookup y = some c := fun {y} hl =>
    mem_lookup (cloFrom_has (cells := X.env.cells) (acc := []) (PySem.mem_of_lookup hl))
  refine ⟨⟨I.ok.mod, ok.blk.kind, I.ok.glob, rfl, Nat.le_refl _, fun y z c e1 e2 => I.ok.inj y z c (cm2 e1).1 (cm2 e2).1, fun y hy => ?_, fun y c z e => ?_, fun _ => hh, Around.frames_deeper hA, .inr ⟨rfl, rfl⟩, fun b hb => ⟨?_, fun y c e z => ?_⟩, I.bs, Nat.le_trans I.ok.bsz I.sz, fun b o e hb => ?_, fun b hb z => ?_, I.stack, I.stkFree⟩,
    hos, hb5, Un.kept kp, ⟨m0, hns, fun i y av e1 e2 e3 => ?_⟩, fun y c e => ?_, I.hok.fresh (Nat.le_refl _), fun y c e => ?_, fun p hp => ?_, I.hok.kept kp, by rw [wipe_length]; exact I.len⟩
  · have hy : scope.names.lookup y = some .cell ∨ scope.names.lookup y = some .free := hy
    rcases hy with hy | hy
    · exact absurd rfl (ok.cell _ (PySem.mem_of_lookup hy))
    · exact look hy
  · cases z
  · exact Nat.ne_of_lt (hfp b hb).2
  · exact (hfp b hb).1.2.2.2.2.1 y c (cm2 e).1 z
  · rcases (hfp b hb).1.2.2.2.1 with z | z
    · exact I.ok.noex b o e z
    · exact absurd (Nat.lt_of_lt_of_le (Heap.lt_size e) (Nat.le_trans I.ok.bsz z)) (Nat.lt_irrefl _)
  · rcases List.mem_cons.mp (I.stkSub b z) with z | z
    · exact (hfp b hb).1.2.1 z
    · exact (hfp b hb).1.2.2.1 z
  · obtain ⟨e2, hne⟩ := wipe_some e2
    have hfr : scope.names.lookup y = some .free := by
      have no : ∀ k, scope.names.lookup y = some k → ¬ (k = .local ∨ k = .cell) := fun k e hh => by
        rcases ok.blk.own _ (PySem.mem_of_lookup e) hh with e' | e'
        · obtain ⟨p, hp, hpy⟩ := List.mem_map.mp e'
          have e3 := ok.blk.ix p hp
          have : p.1 = y := hpy
          rw [this] at e3
          exact hne (List.mem_map.mpr ⟨p, hp, nodup_ix hN e3 e1⟩)
        · exact e' (List.mem_of_getElem? e1)
      have e3 : Vis scope y := e3
      rcases e3 with e3 | e3 | e3
      · exact absurd (.inl rfl) (no _ e3)
      · exact absurd (.inr rfl) (no _ e3)
      · exact e3
    obtain ⟨m, hn, hl⟩ := I.loc
    have hvis : Vis X.env.scope y := (ok.blk.free _ (PySem.mem_of_lookup hfr) rfl).elim (fun k => .inr (.inl k)) (fun k => .inr (.inr k))
    obtain ⟨w, r, q⟩ := hl i y av e1 e2 hvis
    obtain ⟨c, hc⟩ := look hfr
    refine ⟨w, r, .inr ⟨.inr hfr, c, hc, ?_⟩⟩
    rcases q with ⟨k, _⟩ | ⟨_, c', e', z⟩
    · have k : X.env.scope.names.lookup y = some .local := k
      rcases ok.blk.free _ (PySem.mem_of_lookup hfr) rfl with k' | k' <;> rw [show X.env.scope.names.lookup y = _ from k'] at k <;> cases k
    · rw [(cm2 hc).1] at e'
      cases e'
      obtain ⟨o, ho, hd⟩ := z
      exact ⟨o, kp _ _ ho, hd⟩
  · obtain ⟨v, o, ho, hd⟩ := I.cell y c (cm2 e).1
    exact ⟨v, o, kp _ _ ho, hd⟩
  · exact I.freeC y c (cm2 e).1
  · have e : p = (a, go) := by simpa using hp
    subst e
    refine ⟨hgo, I.hok.fresh (Nat.le_of_lt ha), Nat.ne_of_gt ha, fun z => ?_, hgd⟩
    have z : a ∈ frs X.stack := z
    rcases List.mem_cons.mp (I.stkSub a z) with e | e
    · exact absurd (Nat.lt_trans I.lt ha) (by rw [e]; exact Nat.lt_irrefl _)
    · exact I.nofs (Nat.le_of_lt ha) e

/-- the generator expression's code object: made, or found in the def's table; the table may have grown -/
theorem gcode {A : Around} {E : Value → Shared → Prop} {c P : Addr} {gpos : Pos} {qn : Str} {scope : Scope} {Q : Value → Shared → Prop} (TB : LamX.TabB X.base X.mg c P) (hcode : X.env.code = .ref c) (I : Inv X pins σ H s) (ht : TabG H P)
    (hQ : ∀ code s' H', Tabbed P H H' → Inv X pins σ H' s' → s.heap.objs.size ≤ s'.heap.objs.size → (∀ b o, b ≠ P → s.heap.get? b = some o → s'.heap.get? b = some o) → Q code s') :
    wpAny (model X.prog X.w) A (genexprCode X.env gpos qn scope) Q E s := by
  obtain ⟨ps, hP, ht⟩ := ht
  have hPs : s.heap.get? P = some { cls := .none, data := .fields ps } := I.hok P _ hP
  have cd : PySem.W.CodeHd s.heap c P := TB.code.keeps fun b u e => I.bk b u e
  cases hf : codeAmong gpos ps.toList with
  | none =>
    refine wpAny_genexprCodeX hcode (cd.code hPs ht) (cd.tab hPs) hf fun c' h' tk hx hge hlt hco' _ htab' _ => ?_
    obtain ⟨o1, vs, f1, tf, fl, tg, inF, tx, tt, op, _, _, _, _, _, _, _, _, _, htr, _⟩ := hco'
    have J := inv_tab (h' := h') (g' := s.gens) (d' := s.drawn) (t' := tk) I hP (fun b o hb e => hx b o hb e) htab'.2 I.bare
    exact hQ _ _ _ ⟨⟨_, upd_same, htr⟩, fun b hb => upd_ne hb⟩ J (Nat.le_trans hge (Nat.le_of_lt hlt)) fun b o hb e => hx b o hb e
  | some cv =>
    refine wpAny_genexprCode_hit hcode (cd.code hPs ht) hf ?_
    exact hQ cv s H ⟨⟨ps, hP, ht⟩, fun _ _ => rfl⟩ I (Nat.le_refl _) fun _ _ _ e => e
theorem gblt {A : Around} {E : Value → Shared → Prop} {c P : Addr} {Q : Addr → Shared → Prop} (TB : LamX.TabB X.base X.mg c P) (I : Inv X pins σ H s) (h : Q builtinsNs s) : wpAny (model X.prog X.w) A (builtinsFor X.env.globals X.env.builtins) Q E s := by
  obtain ⟨bm, ob, e1, e2, e3, e4, e5, e6, e7, e8⟩ := TB.bm
  exact wpAny_builtinsFor (m := X.mg) (by rw [I.ok.glob]; exact I.mod.glob.keeps I.bk) e1 e2 (I.bk _ _ e5) e6 e7 e8 h

/-! ### the generator's run -/
structure Wk (s s' : Shared) : Prop where
  os : s'.os = s.os
  bare : AllBare s'.gens
  keep : ∀ b o, s.heap.get? b = some o → s'.heap.get? b = some o
def YB (Y0 : Bool → Shared → Prop) : Protocol := fun _ _ v s kap => ∃ b, v = .bool b ∧ Y0 b s ∧ (b = true → ∀ s', Wk s s' → kap (.send .none) s')
def RB (F : Shared → Prop) : GenEnd := fun _ _ r s => ((r = .ok (.ret .none) ∨ r = .ok .next) ∧ F s) ∨ ∃ e, r = .error e ∧ False
theorem over_gloop {A : Around} {e : Expr} {gs : List Comprehension} {sc : Scope} {pos : Pos} {it : Value} {cenv : Env} : A.over (.compLoop (.GeneratorExp e gs sc pos) 0 it .none cenv) [] = A.deeper cenv := by
  first
    | rfl
    | (obtain ⟨hd, d, fr, gs, u⟩ := A; simp [Around.over, Around.deeper, marksOver, frameCount, unitsOf, envsOf, guardsOf, pushEnvs, pushGuards, Code.envs, Code.env?, Code.isFrame, Code.guards, Code.isGuard, Code.weight, Code.frames, Code.isCreation, Code.isCaller, Code.cUnits])
theorem over_gstart {A : Around} {e : Expr} {gs : List Comprehension} {sc : Scope} {pos : Pos} {it : Value} {cenv : Env} : A.over (.compStart (.GeneratorExp e gs sc pos) 0 it .none cenv) [] = A.deeper cenv := by
  first
    | rfl
    | (obtain ⟨hd, d, fr, gs, u⟩ := A; simp [Around.over, Around.deeper, marksOver, frameCount, unitsOf, envsOf, guardsOf, pushEnvs, pushGuards, Code.envs, Code.env?, Code.isFrame, Code.guards, Code.isGuard, Code.weight, Code.frames, Code.isCreation, Code.isCaller, Code.cUnits])
end
section
variable {Z : Cx} {tg iter elt : Expr} {scope : Scope} {gpos : Pos} {A : Around} {it : Addr} {fp : List Addr} {tn : Nat → Heap → Prop} {J : It} {g : TG} {te : TE} {W : Nat → Nat → Hp → Prop} {QT QF : Hp → Prop} {σ0 : L2.St} {vs : List Nat}
theorem seg_gloop (hA : A.deeper Z.env = Z.A) (hc : Z.calm = true) (hxe : ∀ e s, ¬ Z.xe e s) (hco : Z.env.scope.isCoroutine = false) (T : Turn Z.prog Z.w Z.K tg J fp it tn) (pg : PG Z tg g) (pe : PE Z elt te)
    (hσ : ∀ σ2 : L2.St, wipe σ2 vs = σ0 → ∀ (i : Nat) v, σ0[i]? = some (some v) → σ2[i]? = some (some v)) (hl : ∀ σ2 : L2.St, wipe σ2 vs = σ0 → σ0.length = σ2.length)
    (stat : ∀ {σ' : L2.St} {H' : Hp} {s' : Shared}, Inv Z [] σ' H' s' → (∀ b ∈ fp, H' b = none) → ∀ b ∈ fp, FpOk Z [] H' b)
    (turn : ∀ i m H, W i m H → (J.stop i H ∧ QT H) ∨ (J.go i H ∧ ∃ Nx : Hp → Prop, (∀ H', Nx H' → ∃ m', m' < m ∧ W (i + 1) m' H') ∧ ∀ x H', J.yld i H x H' → g x σ0 H' fun σ2 H2 => wipe σ2 vs = σ0 ∧
      te σ2 H2 fun y H4 => ∃ b, y = .bl b ∧ (if b = true then Nx H4 else QF H4))) :
    ∀ (m n i : Nat) (s₀ s : Shared) (H : Hp), m < n → Inv Z [] σ0 H s → tn i s.heap → (∀ b ∈ fp, H b = none) → W i m H →
      Seg (model Z.prog Z.w) A (RB fun s => ∃ H', Inv Z [] σ0 H' s ∧ QT H') (YB fun b s => ∃ H', Inv Z [] σ0 H' s ∧ (b = false → QF H')) n s₀
        (.compLoop (.GeneratorExp elt [⟨tg, iter, [], 0⟩] scope gpos) 0 (.ref it) .none Z.env)
        ((model Z.prog Z.w).den (.compLoop (.GeneratorExp elt [⟨tg, iter, [], 0⟩] scope gpos) 0 (.ref it) .none Z.env)) [] s := by
  intro m
  induction m using Nat.strongRecOn with
  | ind m ih =>
    intro n i s₀ s H hmn I st nfp w
    have ov : A.over (.compLoop (.GeneratorExp elt [⟨tg, iter, [], 0⟩] scope gpos) 0 (.ref it) .none Z.env) [] = Z.A := over_gloop.trans hA
    obtain ⟨n, rfl⟩ : ∃ k, n = k + 1 := ⟨n - 1, by omega⟩
    show Seg _ A _ _ _ s₀ _ ((compTurn (.GeneratorExp elt [⟨tg, iter, [], 0⟩] scope gpos) 0 (.ref it) .none Z.env).onRaise (leaving Z.env)) [] s
    rw [compTurn_gen, Sem.onRaise_eq_wrap]
    refine seg_bind_wrap (wpAny_standAt ?_)
    refine seg_bind_wrap ?_
    rw [ov]
    rcases turn i m H w with ⟨stop, q⟩ | ⟨go, Nx, hNx, step⟩
    · refine thnF (T.done Z rfl rfl rfl hc i [] s σ0 H (fun _ _ => False) I (stat I nfp) st stop) fun r s1 ⟨hr, I1⟩ => ?_
      subst hr
      exact seg_end (.ok .next) (.inl ⟨.inr rfl, H, I1, q⟩)
    · refine thnF (T.item Z rfl rfl rfl hc i [] s σ0 H (fun _ _ => False) I (stat I nfp) st go) fun r s1 ⟨u, hr, h1⟩ => ?_
      subst hr
      refine seg_bind_wrap ?_
      rw [ov]
      refine thnF h1 fun _ s2 ⟨x, H2, I2, r2, y2, st2, n2⟩ => ?_
      have I2' := I2.pinned (stat I2 n2) (T.obj _ _ st2)
      refine seg_bind_wrap ?_
      rw [ov]
      refine wpAny_mono (pg.run _ s2 _ H2 x u _ I2' r2 (step x H2 y2)) (fun _ s3 ⟨σ3, H3, I3, hw3, q3⟩ => ?_) fun e s' z => (hxe e s' z).elim
      refine seg_bind_wrap (wpAny_tests_nil ?_)
      simp only [if_true]
      have hy : ∀ v, yieldOut Z.env v = yieldValue v := fun v => by simp only [yieldOut, hco, Bool.false_eq_true, if_false]
      simp only [hy]
      rw [Sem.bind_eq_wrap', Sem.bind_eq_wrap', Sem.wrap_wrap, Sem.wrap_wrap]
      refine seg_wrap ?_
      rw [ov]
      refine wpAny_mono (pe.run _ s3 σ3 H3 _ I3 q3) (fun z s4 ⟨yv, H4, I4, r4, b, eb, q4⟩ => ?_) fun e s' z => (hxe e s' z).elim
      subst eb
      obtain rfl : z = Value.bool b := r4
      have pin' : ∀ b ∈ fp, ∀ o, s2.heap.get? b = some o → s4.heap.get? b = some o ∧ H4 b = none := fun b hb o e =>
        let z := I4.pin (b, o) (List.mem_append_right _ (List.mem_append_right _ (mem_pinsAt hb e)))
        ⟨z.1, z.2.1⟩
      have I5 : Inv Z [] σ0 H4 s4 := (I4.unpinned (pins := [])).weak (hl σ3 hw3) (hσ σ3 hw3)
      refine seg_at (seg_yield rfl rfl rfl ⟨b, rfl, ⟨H4, I5, fun hb => by subst hb; simpa using q4⟩, fun hb s' wk => ?_⟩)
      subst hb
      obtain ⟨m', hm, w'⟩ := hNx H4 (by simpa using q4)
      have I6 : Inv Z [] σ0 H4 s' := I5.call' (ch := []) wk.os (Un.kept wk.keep) (I5.hok.kept wk.keep) wk.bare fun b hb => absurd hb (by simp)
      refine seg_again rfl (ih m' hm n (i + 1) s' s' H4 (by omega) I6 (T.keep _ _ _ st2 fun b hb o e => wk.keep b o (pin' b hb o e).1) (fun b hb => ?_) w')
      obtain ⟨o, e, _⟩ := T.obj _ _ st2 b hb
      exact (pin' b hb o e).2

theorem seg_gstart (hA : A.deeper Z.env = Z.A) (hc : Z.calm = true) (hxe : ∀ e s, ¬ Z.xe e s) (hco : Z.env.scope.isCoroutine = false) (T : Turn Z.prog Z.w Z.K tg J fp it tn) (pg : PG Z tg g) (pe : PE Z elt te)
    (hσ : ∀ σ2 : L2.St, wipe σ2 vs = σ0 → ∀ (i : Nat) v, σ0[i]? = some (some v) → σ2[i]? = some (some v)) (hl : ∀ σ2 : L2.St, wipe σ2 vs = σ0 → σ0.length = σ2.length)
    (stat : ∀ {σ' : L2.St} {H' : Hp} {s' : Shared}, Inv Z [] σ' H' s' → (∀ b ∈ fp, H' b = none) → ∀ b ∈ fp, FpOk Z [] H' b)
    (turn : ∀ i m H, W i m H → (J.stop i H ∧ QT H) ∨ (J.go i H ∧ ∃ Nx : Hp → Prop, (∀ H', Nx H' → ∃ m', m' < m ∧ W (i + 1) m' H') ∧ ∀ x H', J.yld i H x H' → g x σ0 H' fun σ2 H2 => wipe σ2 vs = σ0 ∧
      te σ2 H2 fun y H4 => ∃ b, y = .bl b ∧ (if b = true then Nx H4 else QF H4))) (m n : Nat) (s₀ s : Shared) (H : Hp) (hmn : m < n) (I : Inv Z [] σ0 H s) (st : tn 0 s.heap) (nfp : ∀ b ∈ fp, H b = none) (w : W 0 m H) :
      Seg (model Z.prog Z.w) A (RB fun s => ∃ H', Inv Z [] σ0 H' s ∧ QT H') (YB fun b s => ∃ H', Inv Z [] σ0 H' s ∧ (b = false → QF H')) n s₀
        (.compStart (.GeneratorExp elt [⟨tg, iter, [], 0⟩] scope gpos) 0 (.ref it) .none Z.env)
        ((model Z.prog Z.w).den (.compStart (.GeneratorExp elt [⟨tg, iter, [], 0⟩] scope gpos) 0 (.ref it) .none Z.env)) [] s := by
  have loop := seg_gloop (iter := iter) (scope := scope) (gpos := gpos) hA hc hxe hco T pg pe hσ hl stat turn m n 0 s₀ s H hmn I st nfp w
  show Seg _ A _ _ _ s₀ _ ((compStart (.GeneratorExp elt [⟨tg, iter, [], 0⟩] scope gpos) 0 (.ref it) .none Z.env).onRaise (leaving Z.env)) [] s
  unfold compStart
  rw [Sem.onRaise_eq_wrap]
  show Seg _ A _ _ _ s₀ _ ((ask >>= _).wrap _ _ _ _) [] s
  refine seg_bind_wrap (wpAny_askSetting ?_)
  split
  · exact seg_again rfl loop
  · first
      | exact seg_bind_wrap (wpAny_rule (seg_bind_wrap (wpAny_standAt (seg_bind_wrap (T.self _ 0 s _ _ st (seg_again rfl loop))))))
      | (refine seg_bind_wrap (wpAny_rule ?_); show Seg _ A _ _ _ s₀ _ ((standAt iter.pos >>= _).wrap _ _ _ _) [] s; exact seg_bind_wrap (wpAny_standAt (seg_bind_wrap (T.self _ 0 s _ _ st (seg_again rfl loop)))))
/-- only the table of generators, the tokens and what was drawn are others; the heap has grown -/
theorem inv_wk {H : Hp} {s s' : Shared} (I : Inv Z [] σ0 H s) (wk : Wk s s') : Inv Z [] σ0 H s' :=
  I.call' (ch := []) wk.os (Un.kept wk.keep) (I.hok.kept wk.keep) wk.bare fun b hb => absurd hb (by simp)
/-! ### who asks: all, any -/
theorem all_loop {A : Around} {a : Addr} {gi : Nat} (hh : A.handled = none) (hd : A.depth < recursionLimit) (hgen : ∀ {H : Hp} {s : Shared}, Inv Z [] σ0 H s → s.heap.IsGen a gi) :
    ∀ (n : Nat) (s : Shared) (gs : GenState) (H : Hp), Inv Z [] σ0 H s → s.gens[gi]? = some gs →
      gs.Goes (model Z.prog Z.w) A.in1.in1 (RB fun s => ∃ H', Inv Z [] σ0 H' s ∧ QT H') (YB fun b s => ∃ H', Inv Z [] σ0 H' s ∧ (b = false → QF H')) n (.send .none) (s.setGen gi .running) →
      codeAny (model Z.prog Z.w) A (.builtin "all.loop" ⟨[.ref a], []⟩) (fun r s' => ∃ b H', r = .ok (.ret (.bool b)) ∧ Inv Z [] σ0 H' s' ∧ (if b = true then QT H' else QF H')) s := by
  intro n
  induction n with
  | zero =>
    intro s gs H I hgs hgo
    refine codeAny_builtin F.entry_all_loop ?_
    rw [Around.under_plainId F.plain_all_loop _]
    show wpAny _ A.in1 (pyNext (.ref a) >>= _) _ _ s
    refine wpAny_bind (next_genG (F := fun _ _ s => ∃ H', Inv Z [] σ0 H' s ∧ QT H') (Er := fun _ _ => False) hh I.nolimit hd (hgen I) hgs hgo (fun v s₁ gs' hb hv => ?_) (fun s₁ hp h' hk => ?_) fun _ _ z => z.elim)
    · obtain ⟨b, rfl, ⟨H1, I1, q1⟩, nx⟩ := hv
      refine wpAny_bind (wpAny_holding (wpAny_truthy_bool ?_))
      refine wpAny_bind (wpAny_letGo ?_)
      cases b with
      | true => exact (nx rfl s₁ ⟨rfl, I1.bare, fun _ _ e => e⟩).elim
      | false =>
        first
          | exact wpAny_pure ⟨false, H1, rfl, inv_wk I1 ⟨rfl, allBare_setGen I1.bare hb, fun _ _ e => e⟩, by simpa using q1 rfl⟩
          | (simp only [Bool.false_eq_true, if_false]; exact wpAny_pure ⟨false, H1, rfl, inv_wk I1 ⟨rfl, allBare_setGen I1.bare hb, fun _ _ e => e⟩, by simpa using q1 rfl⟩)
          | (simp only [Bool.false_eq_true, if_false]; exact wpAny_bind (wpAny_rule (wpAny_pure ⟨false, H1, rfl, inv_wk I1 ⟨rfl, allBare_setGen I1.bare hb, fun _ _ e => e⟩, by simpa using q1 rfl⟩)))
    · obtain ⟨H1, I1, q1⟩ := hp
      refine wpAny_bind (wpAny_rule (wpAny_pure ⟨true, H1, rfl, inv_wk I1 ⟨rfl, allBare_setGen I1.bare rfl, hk⟩, by simpa using q1⟩))
  | succ n ih =>
    intro s gs H I hgs hgo
    refine codeAny_builtin F.entry_all_loop ?_
    rw [Around.under_plainId F.plain_all_loop _]
    show wpAny _ A.in1 (pyNext (.ref a) >>= _) _ _ s
    have hsz : gi + 1 ≤ s.gens.size := by
      rcases Nat.lt_or_ge gi s.gens.size with h | h
      · exact h
      · rw [Array.getElem?_eq_none h] at hgs; cases hgs
    refine wpAny_bind (wpAny_gsz hsz (next_genG (F := fun _ _ s => ∃ H', Inv Z [] σ0 H' s ∧ QT H') (Er := fun _ _ => False) hh I.nolimit hd (hgen I) hgs hgo (fun v s₁ gs' hb hv => fun hs1 => ?_) (fun s₁ hp h' hk => fun _ => ?_) fun _ _ z => z.elim))
    · obtain ⟨b, rfl, ⟨H1, I1, q1⟩, nx⟩ := hv
      refine wpAny_bind (wpAny_holding (wpAny_truthy_bool ?_))
      refine wpAny_bind (wpAny_letGo ?_)
      have hs1' : gi < s₁.gens.size := by
        rw [setGen_size] at hs1
        exact hs1
      cases b with
      | true =>
        simp only [if_true]
        refine wpAny_pure ⟨plainId_quiet F.plain_all_loop _, ih _ gs' H1 (inv_wk I1 ⟨rfl, allBare_setGen I1.bare hb, fun _ _ e => e⟩) (setGen_at hs1') ?_⟩
        exact nx rfl _ ⟨rfl, allBare_setGen (allBare_setGen I1.bare hb) rfl, fun _ _ e => e⟩
      | false =>
        first
          | exact wpAny_pure ⟨false, H1, rfl, inv_wk I1 ⟨rfl, allBare_setGen I1.bare hb, fun _ _ e => e⟩, by simpa using q1 rfl⟩
          | (simp only [Bool.false_eq_true, if_false]; exact wpAny_pure ⟨false, H1, rfl, inv_wk I1 ⟨rfl, allBare_setGen I1.bare hb, fun _ _ e => e⟩, by simpa using q1 rfl⟩)
          | (simp only [Bool.false_eq_true, if_false]; exact wpAny_bind (wpAny_rule (wpAny_pure ⟨false, H1, rfl, inv_wk I1 ⟨rfl, allBare_setGen I1.bare hb, fun _ _ e => e⟩, by simpa using q1 rfl⟩)))
    · obtain ⟨H1, I1, q1⟩ := hp
      refine wpAny_bind (wpAny_rule (wpAny_pure ⟨true, H1, rfl, inv_wk I1 ⟨rfl, allBare_setGen I1.bare rfl, hk⟩, by simpa using q1⟩))
end

section
variable {X : Cx} {tg iter elt : Expr} {scope : Scope} {gpos p pos : Pos} {wi : TI} {g : TG} {te : TE} {own : List (Str × Nat)} {c P : Addr} {k : Nat}
/-- all(elt for target in iter): W by the turn and a measure, Nx what a turn is to reach -/
def tAll (P : Addr) (wi : TI) (g : TG) (te : TE) (vs : List Nat) : TE := fun σ H Q => wi σ H fun J H1 => TabG H1 P ∧ ∀ H2, Tabbed P H1 H2 → ∃ W : Nat → Nat → Hp → Prop, (∃ m, W 0 m H2) ∧ ∀ i m H, W i m H →
  (J.stop i H ∧ Q (.bl true) H) ∨ (J.go i H ∧ ∃ Nx : Hp → Prop, (∀ H', Nx H' → ∃ m', m' < m ∧ W (i + 1) m' H') ∧ ∀ x H', J.yld i H x H' → g x (wipe σ vs) H' fun σ2 H2 => wipe σ2 vs = wipe σ vs ∧
    te σ2 H2 fun y H4 => ∃ b, y = .bl b ∧ (if b = true then Nx H4 else Q (.bl false) H4))
theorem wipe_wipe {σ σ2 : L2.St} {vs : List Nat} (h : wipe σ2 vs = wipe σ vs) : (∀ (i : Nat) v, (wipe σ vs)[i]? = some (some v) → σ2[i]? = some (some v)) ∧ (wipe σ vs).length = σ2.length := by
  refine ⟨fun i v e => ?_, ?_⟩
  · rw [← h] at e
    exact (wipe_some e).1
  · rw [← h, wipe_length]
theorem pe_all (hr : Room (k + 1) X.A) (hc : X.calm = true) (hN : X.N.Nodup) (hg : Gl X "all") (hm : X.mg "all" = none) (hb : bootBuiltins "all" = some (.builtin "all")) (TB : LamX.TabB X.base X.mg c P) (hcode : X.env.code = .ref c) (hi : PI X tg iter wi) (ok : GenOk X.N X.env.scope scope own)
    (hpg : ∀ (s : Shared) (H : Hp) (C : Addr) (code : Value) (fp : List Addr) (pn : List (Addr × Obj)), PG (gen X (X.A.in1.in1.deeper (genv X scope C code)) s H (genv X scope C code) fp pn) tg g)
    (hpe : ∀ (s : Shared) (H : Hp) (C : Addr) (code : Value) (fp : List Addr) (pn : List (Addr × Obj)), Room k (X.A.in1.in1.deeper (genv X scope C code)) → PE (gen X (X.A.in1.in1.deeper (genv X scope C code)) s H (genv X scope C code) fp pn) elt te)
    (hs : ∀ v, genFold iter X.env v = pure v := by intro _; rfl)
    (he : starEach [.GeneratorExp elt [⟨tg, iter, [], 0⟩] scope gpos] X.env = (false, eval (.GeneratorExp elt [⟨tg, iter, [], 0⟩] scope gpos) X.env) :: starEach [] X.env := by rfl) :
    PE X (.Call (.Name "all" p) [.GeneratorExp elt [⟨tg, iter, [], 0⟩] scope gpos] [] pos) (tAll P wi g te (own.map (·.2))) := by
  refine ⟨fun pins s σ H Q I h => ?_⟩
  refine wpAny_Call_Name_kw (ld_blt I hg hm hb ?_)
  refine PyProof.Rows.callWith_builtin1 ?_ he (by rfl)
  rw [he]
  show wpAny _ _ (spliced ((false, eval (.GeneratorExp elt [⟨tg, iter, [], 0⟩] scope gpos) X.env) :: backTo pos (starEach [] X.env))) _ _ s
  refine Calls.spliced_cons ?_
  have hfree : ∀ y ∈ scope.names, y.2 = .free → ∃ c, X.env.cells.lookup y.1 = some c := fun y hy e => by
    rcases ok.blk.free y hy e with k | k
    · exact I.ok.has _ (.inl k)
    · exact I.ok.has _ (.inr k)
  refine wpAny_GeneratorExp_make ok.co (closure_ok hfree) ok.cell ok.dot ok.blk.kind hr.depth ?_ hs
  refine thn (hi.run pins s σ H _ I h) fun xv s1 h1 => thn h1 fun itv s2 h2 => ?_
  obtain ⟨it, fp, tn, J, H2, rfl, I2, T, st2, f2, tab2, q2⟩ := h2
  refine ⟨I2.nolimit, ?_⟩
  refine gcode TB hcode I2 tab2 fun code s3 H3 tb3 I3 sz3 kp3 => ?_
  refine gblt TB I3 ?_
  intro h' hn' hs'
  have nP : ∀ b, H2 b = none → b ≠ P := fun b e z => by
    obtain ⟨ps, e2, _⟩ := tab2
    rw [z, e2] at e
    cases e
  have f3 : ∀ b ∈ fp, FpOk X pins H3 b ∧ b < s3.heap.objs.size := fun b hb => by
    obtain ⟨o, e, _⟩ := T.obj _ _ st2 b hb
    have hP := nP b (f2 b hb).1
    refine ⟨⟨by rw [tb3.2 b hP]; exact (f2 b hb).1, (f2 b hb).2⟩, Heap.lt_size (kp3 b o hP e)⟩
  have st3 : tn 0 s3.heap := T.keep _ _ _ st2 fun b hb o e => kp3 b o (nP b (f2 b hb).1) e
  have hsz : h'.objs.size = s3.heap.objs.size + 1 := by rw [hs'.1, Heap.size_push]
  have keep' : ∀ b o, s3.heap.get? b = some o → h'.get? b = some o := fun b o e => hs'.extBut b o (Nat.ne_of_lt (Heap.lt_size e)) (Heap.get?_push_of_some _ e)
  generalize hgo : ({ cls := .type "generator", data := .fields #[.int s3.gens.size 0, .str "<genexpr>" (s3.toks + 1), .str (X.env.qual ++ "<genexpr>") (s3.toks + 1 + 1)] } : Obj) = go
  have hgoc : go.cls = .type "generator" ∧ go.data = .fields #[.int s3.gens.size 0, .str "<genexpr>" (s3.toks + 1), .str (X.env.qual ++ "<genexpr>") (s3.toks + 1 + 1)] ∧ go.slots = #[] := by rw [← hgo]; exact ⟨rfl, rfl, rfl⟩
  have hpush : (h'.push go).get? h'.objs.size = some go := by rw [← hgo]; exact Heap.get?_push_size _ rfl
  generalize hgi : s3.gens.size = gi at hgoc
  obtain ⟨W, ⟨m0, w0⟩, turn⟩ := q2 H3 tb3
  generalize hs5 : ({ s3 with gens := s3.gens.push (.fresh (.compStart (.GeneratorExp elt [⟨tg, iter, [], 0⟩] scope gpos) 0 (.ref it) .none (genEnv scope (cloFrom X.env.cells scope.names []) s3.heap.objs.size code builtinsNs X.env))), toks := s3.toks + 1 + 1 + 1, heap := h'.push go } : Shared) = s5
  have e5h : s5.heap = h'.push go := by rw [← hs5]
  have kp5 : ∀ b o, s3.heap.get? b = some o → s5.heap.get? b = some o := fun b o e => by rw [e5h]; exact Heap.get?_push_of_some _ (keep' b o e)
  have hns5 := hn'.push go
  rw [← e5h] at hns5
  have b5 : AllBare s5.gens := by rw [← hs5]; exact I3.bare.push rfl
  have os5 : s5.os = s3.os := by rw [← hs5]
  have g5 : s5.gens[gi]? = some (.fresh (.compStart (.GeneratorExp elt [⟨tg, iter, [], 0⟩] scope gpos) 0 (.ref it) .none (genv X scope s3.heap.objs.size code))) := by
    rw [← hs5, ← hgi]
    exact Array.getElem?_push_size ..
  have ha : s3.heap.objs.size < h'.objs.size := by rw [hsz]; exact Nat.lt_succ_self _
  have I5 := gen_start (code := code) (s5 := s5) I3 ok hN (show X.A.in1.in1.frames = some X.stack from I.ok.frames) (show X.A.in1.in1.handled = none from I.ok.hd hc) f3 kp5 hns5 os5 b5 ha (by rw [e5h]; exact hpush) (fun v q => by rw [hgoc.2.1] at q; cases q)
  have st5 : tn 0 s5.heap := T.keep _ _ _ st3 fun b _ o e => kp5 b o e
  have pg := hpg s3 H3 s3.heap.objs.size code fp [(h'.objs.size, go)]
  have pe := hpe s3 H3 s3.heap.objs.size code fp [(h'.objs.size, go)] ⟨hr.hd, by have := hr.dp; show X.A.depth + 1 + 3 * k + 5 < _; omega, by have := hr.un; show X.A.units + 1 + 1 + 3 + 16 * k + 200 < _; omega⟩
  generalize hZ : gen X (X.A.in1.in1.deeper (genv X scope s3.heap.objs.size code)) s3 H3 (genv X scope s3.heap.objs.size code) fp [(h'.objs.size, go)] = Z at I5 pg pe
  have zp : Z.prog = X.prog := by rw [← hZ]
  have zw : Z.w = X.w := by rw [← hZ]
  have zK : Z.K = X.K := by rw [← hZ]
  have ze : Z.env = genv X scope s3.heap.objs.size code := by rw [← hZ]
  have stat : ∀ {σ' : L2.St} {H' : Hp} {s' : Shared}, Inv Z [] σ' H' s' → (∀ b ∈ fp, H' b = none) → ∀ b ∈ fp, FpOk Z [] H' b := fun {σ' H' s'} I' hn b hb => by
    have hx : Z.ex = fp := by rw [← hZ]
    have hb' : b ∈ Z.ex := by rw [hx]; exact hb
    refine ⟨hn b hb, (I'.ok.exf b hb').1, I'.ok.exfs b hb', .inl hb', fun x c e => (I'.ok.exf b hb').2 x c e, fun p hp => ?_⟩
    have hpn : Z.pn = [(h'.objs.size, go)] := by rw [← hZ]
    rw [hpn] at hp
    have e : p = (h'.objs.size, go) := by simpa using hp
    rw [e]
    exact Nat.ne_of_gt (Nat.lt_trans (f3 b hb).2 ha)
  have hσ : ∀ σ2 : L2.St, wipe σ2 (own.map (·.2)) = wipe σ (own.map (·.2)) → ∀ (i : Nat) v, (wipe σ (own.map (·.2)))[i]? = some (some v) → σ2[i]? = some (some v) := fun σ2 e => (wipe_wipe e).1
  have hl : ∀ σ2 : L2.St, wipe σ2 (own.map (·.2)) = wipe σ (own.map (·.2)) → (wipe σ (own.map (·.2))).length = σ2.length := fun σ2 e => (wipe_wipe e).2
  have T' : Turn Z.prog Z.w Z.K tg J fp it tn := by rw [zp, zw, zK]; exact T
  have hgen : ∀ {H : Hp} {s : Shared}, Inv Z [] (wipe σ (own.map (·.2))) H s → s.heap.IsGen h'.objs.size gi := fun {H s} J => by
    have hpn : Z.pn = [(h'.objs.size, go)] := by rw [← hZ]
    have q := (J.pin (h'.objs.size, go) (by rw [hpn]; simp)).1
    exact ⟨go, _, _, q, hgoc.1, hgoc.2.1, hgoc.2.2⟩
  refine Calls.spliced_nil ?_
  refine call_function_tree F.kind_all F.plain_all F.entry_all (F.args_all1 _) ?_
  unfold Builtin.«all»
  refine wpAny_bind (m := oneArg "all" _) (wpAny_pure ?_)
  refine wpAny_bind (wpAny_pyIter_gen (s := s5) (hgen I5) ?_)
  refine wpAny_pure ⟨plainId_quiet F.plain_all_loop _, ?_⟩
  have seg := seg_gstart (A := X.A.in1.in1) (Z := Z) (iter := iter) (scope := scope) (gpos := gpos) (QT := Q (.bl true)) (QF := Q (.bl false)) (by rw [ze, ← hZ]) (by rw [← hZ]; exact hc) (fun e s z => by rw [← hZ] at z; exact z) (by rw [ze]; exact ok.co) T' pg pe hσ hl stat turn m0 (m0 + 1) (s5.setGen gi .running) (s5.setGen gi .running) H3
    (Nat.lt_succ_self _) (inv_wk I5 ⟨rfl, allBare_setGen b5 rfl, fun _ _ e => e⟩) st5 (fun b hb => (f3 b hb).1.1) w0
  have loop := all_loop (A := X.A) (Z := Z) (QT := Q (.bl true)) (QF := Q (.bl false)) (a := h'.objs.size) (gi := gi) hr.hd hr.depth hgen (m0 + 1) s5 _ H3 I5 g5 ⟨rfl, by rw [ze] at seg; exact seg⟩
  rw [zp, zw] at loop
  refine codeAny_mono loop fun r s' hq => ?_
  obtain ⟨b, H', rfl, I6, q6⟩ := hq
  have u6 : Un (frs X.stack) fp H3 H' s3.heap s'.heap := by
    have := I6.base
    rw [← hZ] at this
    exact this
  have o6 : s'.os = s3.os := by
    have := I6.os
    rw [← hZ] at this
    exact this
  have k6 : HOk X.prog X.w H' s'.heap := by
    have := I6.hok
    rw [zp, zw] at this
    exact this
  refine ⟨.bl b, H', I3.call' (ch := fp) o6 u6 k6 I6.bare fun b hb => ⟨(f3 b hb).1.2.2.2.1, (f3 b hb).1.2.1, (f3 b hb).1.2.2.2.2.1, (f3 b hb).1.2.2.2.2.2⟩, rfl, ?_⟩
  cases b with
  | true => simpa using q6
  | false => simpa using q6
end

/-- a reading of all(..) over what a Walk walks: Pv by the turn and the heap -/
theorem all_it {J : It} {n : Nat} {G : Hp → Prop} {Y : Nat → Hp → V → Hp → Prop} (w : Walk J n G Y) {g : TG} {te : TE} {vs : List Nat} {σ : L2.St} {H2 : Hp} {QT QF : Hp → Prop} (Pv : Nat → Hp → Prop) (h0 : Pv 0 H2) (hG : ∀ i H, i ≤ n → Pv i H → G H)
    (hs : ∀ i x H H', i < n → Pv i H → Y i H x H' → g x (wipe σ vs) H' fun σ2 H2 => wipe σ2 vs = wipe σ vs ∧ te σ2 H2 fun y H4 => ∃ b, y = .bl b ∧ (if b = true then Pv (i + 1) H4 else QF H4)) (hd : ∀ H, Pv n H → QT H) :
    ∃ W : Nat → Nat → Hp → Prop, (∃ m, W 0 m H2) ∧ ∀ i m H, W i m H →
      (J.stop i H ∧ QT H) ∨ (J.go i H ∧ ∃ Nx : Hp → Prop, (∀ H', Nx H' → ∃ m', m' < m ∧ W (i + 1) m' H') ∧ ∀ x H', J.yld i H x H' → g x (wipe σ vs) H' fun σ2 H2 => wipe σ2 vs = wipe σ vs ∧
        te σ2 H2 fun y H4 => ∃ b, y = .bl b ∧ (if b = true then Nx H4 else QF H4)) := by
  refine ⟨fun i m H => m = n - i ∧ i ≤ n ∧ Pv i H, ⟨n, rfl, Nat.zero_le _, h0⟩, ?_⟩
  rintro i m H ⟨rfl, hi, p⟩
  have q := hG i H hi p
  by_cases hlt : i < n
  · refine .inr ⟨w.goes i H hlt q, Pv (i + 1), fun H' p' => ⟨n - (i + 1), by omega, rfl, hlt, p'⟩, fun x H' y => hs i x H H' hlt p (w.yields i H x H' hlt q y)⟩
  · have e : i = n := by omega
    subst e
    exact .inl ⟨w.stops H q, hd H p⟩
/-- a def of the text whose code object stands at c -/
structure FunC (K : PySem.W.Frag) (x qual : Str) (st : Stmt) (f : Addr) (fd : FuncData) (c : Addr) : Prop where
  ex : ∃ (oc : Value) (od : Option Addr) (kV doc pm : Value) (an : Option Addr) (ct : Value) (osl : Array (Option Value)),
    fd = PySem.W.fnOf x qual (defArgs st) (defBody st) (defScope st) .none kV doc pm an (.ref c) ct ∧ K.lookup f = some ⟨oc, od, .func fd, osl⟩ ∧ PySem.W.codeIn K (.ref c) qual = true
  kp : PySem.W.keepIn K (.ref f) = true
section
variable {P : Program} {w : World} {K : PySem.W.Frag} {mg : Str → Option Value} {base : Heap}
theorem FunC.ok {x qual : Str} {st : Stmt} {f c : Addr} {fd : FuncData} {N ps : List Str} {k : Nat} {sp : Sp} (F : FunC K x qual st f fd c) (S : FnScope N ps (defScope st)) (len : ∀ vs H Q E, sp vs H Q E → vs.length = ps.length)
    (hbody : ∀ (A : Around) (outer : List Env) (s : Shared) (H : Hp) (vs : List V) (Q : VK) (E : XK), Room k (A.deeper (envOfC qual (defScope st) s.heap.objs.size f (.ref c))) → sp vs H Q E →
      ∃ t, PSs (cxOf CX0 P w K mg base N qual (defScope st) f (.ref c) A outer s H E).nox (defBody st) t ∧ t { nx := fun _ H' => Q .non H', rt := Q } (start N vs) H) : FnOk P w K mg base CX0 (k + 1) f fd ps sp := by
  obtain ⟨oc, od, kV, doc, pm, an, ct, osl, rfl, lk, hcd⟩ := F.ex
  refine fn_of lk hcd S len fun A outer s H vs Q E hr hsp => ?_
  obtain ⟨t, h, q⟩ := hbody A outer s H vs Q E hr hsp
  exact ⟨t, h.nox, q⟩
theorem FunC.binds {x qual : Str} {st : Stmt} {f c : Addr} {fd : FuncData} {ps : List Str} (F : FunC K x qual st f fd c)
    (h : ∀ (kV doc pm : Value) (an : Option Addr) (cdv ct : Value) (us : List Value), us.length = ps.length → bindArgs (PySem.W.fnOf x qual (defArgs st) (defBody st) (defScope st) .none kV doc pm an cdv ct) ⟨us, []⟩ = pure (ps.zip us)) : Binds K fd ps [] := by
  obtain ⟨oc, od, kV, doc, pm, an, ct, osl, rfl, lk, hcd⟩ := F.ex
  exact .all (h kV doc pm an (.ref c) ct)
theorem func_mk {x qual : Str} {st : Stmt} {f c : Addr} {oc : Value} {od an : Option Addr} {osl : Array (Option Value)} {kV doc pm ct : Value} (l : K.lookup f = some ⟨oc, od, .func (PySem.W.fnOf x qual (defArgs st) (defBody st) (defScope st) .none kV doc pm an (.ref c) ct), osl⟩)
    (k1 : PySem.W.codeIn K (.ref c) qual = true) (k : PySem.W.keepIn K (.ref f) = true) : FunC K x qual st f (PySem.W.fnOf x qual (defArgs st) (defBody st) (defScope st) .none kV doc pm an (.ref c) ct) c := ⟨⟨oc, od, kV, doc, pm, an, ct, osl, rfl, l, k1⟩, k⟩
end
/-! ### the end of a law whose defs hold generator expressions -/
def GTab (q : Program) (K : PySem.W.Frag) (h : Heap) : Prop := ∀ (x : Str) (c P : Addr), ((recsOf q).find? fun e => e.name == x).isSome = true → PySem.W.tabIn K x = some (c, P) → PySem.W.CodeHd h c P ∧ h.get? P = some { cls := .none, data := .fields #[] }
theorem tab_by {K : PySem.W.Frag} {x : Str} {f c P : Addr} {oc oq : Value} {od dq : Option Addr} {fd : FuncData} {sl sq : Array (Option Value)} {vq : Array Value} (a : PySem.W.nsIn K mainGlobals x = some (some (.ref f))) (l : K.lookup f = some ⟨oc, od, .func fd, sl⟩) (e : fd.code = .ref c) (q : K.lookup c = some ⟨oq, dq, .fields vq, sq⟩) (v : vq[11]? = some (.ref P)) : PySem.W.tabIn K x = some (c, P) := by
  unfold PySem.W.tabIn
  rw [a]
  simp only [l, e, q, v]
theorem walk_ofG {l : PySem.W.OpenLaw} {n k : Nat} {q : Program} {loose : List Str} {XP : (Str → Option Value) → Heap → Prop} {YP : World → Heap → Prop} {d : DefRec} {K : Params → PySem.W.Frag} {CX : World → CXT} {x : Str}
    (hn : l.most = some n) (hn2 : n ≤ sizeLine) (hdf : d.params.defaults = []) (hr : Room k callerA) (hY : ∀ (w : World) (h : Heap), YP w h → (K w.params).In h)
    (F : ∀ (w : World) (mg : Str → Option Value) (fa : Addr) (h : Heap), YP w h → (K w.params).In h → h.Ns mainGlobals mg → mg d.name = some (.ref fa) → GTab q (K w.params) h → LamX.LawAtS l w (K w.params) (CX w) k n x mg fa h)
    (hCX : ∀ (w : World) (H : Hp) (s : Shared) (e : Value) (s' : Shared), CX w [] H s (fun _ _ _ => False) e s' → False) :
    PySem.W.WalkO q loose XP YP l.row.toRowW d [] (fun f vs => PySem.call f vs) := by
  refine Att.attach_callB hn hdf fun w s₀ s₁ mg mb fa o pm cd doc a vs ns G Y ho hd hcd hmg hobj hints hlen hbits hg => ?_
  have KX := hY w _ Y
  have gt : GTab q (K w.params) s₁.heap := fun x c P hr ht => by
    obtain ⟨d2, hd2⟩ := Option.isSome_iff_exists.mp hr
    exact PySem.W.tab_of (mb := mb) G.T KX hd2 ht
  obtain ⟨fd, cs, sp, hT, nT, C, hb, hsp, hF⟩ := F w mg fa _ Y KX G.T.g hmg gt
  exact LamX.law_callTs KX G.T.g G.T.b G.T.builtins G.T.nolimit hg hT nT C G.T.bmain hobj hints (Nat.le_trans hlen hn2) hr hF hb (fun H hH hS => hsp H a ns hlen hbits hH hS) fun H e s' => hCX w H s₁ e s'
end GA

set_option Elab.async false
set_option linter.all false
set_option maxRecDepth 100000
/-! a field of an instance as one of several targets; a method that may raise, called in a try; an expression that is never come to -/
namespace Fl
open PySem PySem.Spec PyProof.Rows L2
section
variable {X : Cx} {pos : Pos}
/-- o.f = v -/
def gFld (K : PySem.W.Frag) (to : TE) (f : Str) : TG := fun v σ H Q => to σ H fun x H1 => ∃ a C dx fs, x = .ref a ∧ H1 a = some (.ins C dx fs) ∧ Cls K C ∧ NoAttr K C f ∧ fs.length < 1000 ∧ Q σ (upd H1 a (.ins C dx (putF f v fs)))
theorem pg_fld {o : Expr} {to : TE} {f : Str} (ho : PE X o to) : PG X (.Attribute o f pos) (gFld X.K to f) where
  run := by
    intro pins s σ H v u Q I r h
    rw [assign_Attribute]
    refine wpAny_bind (wpAny_holding (thn (ho.run pins s σ H _ I h) ?_))
    rintro ov s1 ⟨x, H1, I1, r1, a, C, dx, fs, rfl, ea, c, n, l, q⟩
    cases r1
    refine wpAny_bind (wpAny_standAt (wpAny_bind (wpAny_holding ?_)))
    exact setattr_ok I1 ea c n l r fun s2 I2 => wpAny_release ⟨σ, _, I2, q⟩
/-- an expression that is never come to -/
def tNo : TE := fun _ _ _ => False
theorem pe_no {e : Expr} : PE X e tNo where
  run := fun _ _ _ _ _ _ h => absurd h id
/-- o.m(..), with what it raises read at the slots -/
def tMethAt (C : Addr) (m : Str) (sp : Sp) (E : L2.St → XK) (ta : TE) (t : TA) : TE := fun σ H Q => tMeth C m sp [] (E σ) ta t σ H Q
section
variable {CX : CXT} {k : Nat} {f C : Addr} {fd : FuncData} {ps : List Str} {sp : Sp} {E : L2.St → XK} {m : Str} {apos : Pos} {e o : Expr} {es : List Expr} {ta : TE} {t : TA} {pl : Sem Bool}
theorem pe_methT (he : PE X o ta) (c : Cls X.K C) (hm : Meth X.K C m f) (F : FnOk X.prog X.w X.K X.mg X.base CX k f fd ps sp) (hr : Room k X.A) (hb : Binds X.K fd ps []) (hx : ∀ σ, PassesAt CX X σ (E σ)) (ha : PA X (e :: es) t)
    (hs : starEach (e :: es) X.env = (false, eval e X.env) :: starEach es X.env := by rfl) (hp : (backTo pos (starEach es X.env)).any (·.1) = false := by rfl)
    (ht : eval (.Call (.Attribute o m apos) (e :: es) [] pos) X.env = (do let ov ← eval o X.env; standAt apos.atName; let (f, first) ← holding [ov] (getMethod ov m pl); callWith pos f first (backTo pos (starEach (e :: es) X.env)) (backToKw pos (keywordEach [] X.env))) := by rfl) :
    PE X (.Call (.Attribute o m apos) (e :: es) [] pos) (tMethAt C m sp E ta t) where
  run := by
    intro pins s σ H Q I h
    refine PySem.W.methodCall_KW (pl := pl) (thn (he.run pins s σ H _ I h) ?_) ht
    rintro u s1 ⟨x, H1, I1, rx, a, dx, fs, rfl, ea, l, q⟩
    cases rx
    refine getmeth_ok I1 ea c hm l (PySem.W.callWith_K (first := [.ref a]) (h₀ := X.base) I.ok.mod.kin hm.kp (thn (ha.run pos pins s1 σ H1 _ I1 q) ?_) hs hp)
    rintro us s2 ⟨vs, H2, I2, r, q2⟩
    rw [List.append_nil] at q2
    exact ⟨I2.kIn, run_fnS (us := .ref a :: us) (vs := .ref a :: vs) F hr hb (hx σ) I2 (.cons rfl r) q2⟩
theorem pe_methT0 (he : PE X o ta) (c : Cls X.K C) (hm : Meth X.K C m f) (F : FnOk X.prog X.w X.K X.mg X.base CX k f fd ps sp) (hr : Room k X.A) (hb : Binds X.K fd ps []) (hx : ∀ σ, PassesAt CX X σ (E σ))
    (ht : eval (.Call (.Attribute o m apos) [] [] pos) X.env = (do let ov ← eval o X.env; standAt apos.atName; let (f, first) ← holding [ov] (getMethod ov m pl); callWith pos f first (backTo pos (starEach [] X.env)) (backToKw pos (keywordEach [] X.env))) := by rfl) :
    PE X (.Call (.Attribute o m apos) [] [] pos) (tMethAt C m sp E ta tNil) where
  run := by
    intro pins s σ H Q I h
    refine PySem.W.methodCall_KW (pl := pl) (thn (he.run pins s σ H _ I h) ?_) ht
    rintro u s1 ⟨x, H1, I1, rx, a, dx, fs, rfl, ea, l, q⟩
    cases rx
    exact getmeth_ok I1 ea c hm l (PySem.W.callWith_K0 (first := [.ref a]) I1.kIn hm.kp (run_fnS (us := [.ref a]) (vs := [.ref a]) F hr hb (hx σ) I1 (.cons rfl .nil) q))
end
end
end Fl

set_option Elab.async false
set_option linter.all false
set_option maxRecDepth 100000
set_option maxHeartbeats 4000000
namespace K26
open PySem PySem.Spec PyProof.Rows L2 QX
def topS (i : Nat) : Stmt := PySem.Challenge.pw_quietsmith_k26_instruction_forms.main.body.getD i (.Pass ⟨0, 0, 0, 0⟩)
abbrev s_is_integer : Stmt := topS 1
abbrev n_is_integer : List Str := ["value", "least", "greatest"]
theorem sc_is_integer : FnScope ["value", "least", "greatest"] ["value", "least", "greatest"] (defScope s_is_integer) := ⟨rfl, rfl, rfl, by decide +kernel, rfl, by decide +kernel, by decide +kernel⟩
abbrev s_is_instruction : Stmt := topS 6
abbrev n_is_instruction : List Str := ["value", "kinds", "kind", "number"]
theorem sc_is_instruction : FnScope ["value", "kinds", "kind", "number"] ["value"] (defScope s_is_instruction) := ⟨rfl, rfl, rfl, by decide +kernel, rfl, by decide +kernel, by decide +kernel⟩
abbrev s_is_code : Stmt := topS 7
abbrev n_is_code : List Str := ["value", "item"]
theorem sc_is_code : FnScope ["value", "item"] ["value"] (defScope s_is_code) := ⟨rfl, rfl, rfl, by decide +kernel, rfl, by decide +kernel, by decide +kernel⟩
abbrev s_targets : Stmt := topS 8
abbrev n_targets : List Str := ["instruction"]
theorem sc_targets : FnScope ["instruction"] ["instruction"] (defScope s_targets) := ⟨rfl, rfl, rfl, by decide +kernel, rfl, by decide +kernel, by decide +kernel⟩
abbrev s_law_source : Stmt := topS 10
abbrev n_law_source : List Str := ["script", "k", "cell", "state"]
theorem sc_law_source : FnScope ["script", "k", "cell", "state"] ["script", "k"] (defScope s_law_source) := ⟨rfl, rfl, rfl, by decide +kernel, rfl, by decide +kernel, by decide +kernel⟩
abbrev s_law_draw : Stmt := topS 11
abbrev n_law_draw : List Str := ["source", "many", "worth"]
theorem sc_law_draw : FnScope ["source", "many", "worth"] ["source", "many"] (defScope s_law_draw) := ⟨rfl, rfl, rfl, by decide +kernel, rfl, by decide +kernel, by decide +kernel⟩
abbrev s_law_limits : Stmt := topS 12
abbrev n_law_limits : List Str := ["name"]
theorem sc_law_limits : FnScope ["name"] ["name"] (defScope s_law_limits) := ⟨rfl, rfl, rfl, by decide +kernel, rfl, by decide +kernel, by decide +kernel⟩
abbrev s_law_is_right : Stmt := topS 13
abbrev n_law_is_right : List Str := ["value", "limits", "k", "part"]
theorem sc_law_is_right : FnScope ["value", "limits", "k", "part"] ["value"] (defScope s_law_is_right) := ⟨rfl, rfl, rfl, by decide +kernel, rfl, by decide +kernel, by decide +kernel⟩
abbrev s_law_name : Stmt := topS 14
abbrev n_law_name : List Str := ["source", "names"]
theorem sc_law_name : FnScope ["source", "names"] ["source"] (defScope s_law_name) := ⟨rfl, rfl, rfl, by decide +kernel, rfl, by decide +kernel, by decide +kernel⟩
abbrev s_law_good : Stmt := topS 15
abbrev n_law_good : List Str := ["source", "name", "parts", "limit", "shape"]
theorem sc_law_good : FnScope ["source", "name", "parts", "limit", "shape"] ["source"] (defScope s_law_good) := ⟨rfl, rfl, rfl, by decide +kernel, rfl, by decide +kernel, by decide +kernel⟩
abbrev s_law_other : Stmt := topS 16
abbrev n_law_other : List Str := ["source", "shape"]
theorem sc_law_other : FnScope ["source", "shape"] ["source"] (defScope s_law_other) := ⟨rfl, rfl, rfl, by decide +kernel, rfl, by decide +kernel, by decide +kernel⟩
abbrev s_law_changed : Stmt := topS 17
abbrev n_law_changed : List Str := ["source", "good", "change", "at", "other"]
theorem sc_law_changed : FnScope ["source", "good", "change", "at", "other"] ["source", "good"] (defScope s_law_changed) := ⟨rfl, rfl, rfl, by decide +kernel, rfl, by decide +kernel, by decide +kernel⟩
abbrev s_law_same_answer : Stmt := topS 18
abbrev n_law_same_answer : List Str := ["actual", "due"]
theorem sc_law_same_answer : FnScope ["actual", "due"] ["actual", "due"] (defScope s_law_same_answer) := ⟨rfl, rfl, rfl, by decide +kernel, rfl, by decide +kernel, by decide +kernel⟩
abbrev s_law_targets_hold : Stmt := topS 19
abbrev n_law_targets_hold : List Str := ["instruction", "due", "turn", "actual", "place"]
theorem sc_law_targets_hold : FnScope ["instruction", "due", "turn", "actual", "place"] ["instruction"] (defScope s_law_targets_hold) := ⟨rfl, rfl, rfl, by decide +kernel, rfl, by decide +kernel, by decide +kernel⟩
abbrev s_law_code : Stmt := topS 20
abbrev n_law_code : List Str := ["script", "source", "changed", "code", "at", "size", "k"]
theorem sc_law_code : FnScope ["script", "source", "changed", "code", "at", "size", "k"] ["script", "source", "changed"] (defScope s_law_code) := ⟨rfl, rfl, rfl, by decide +kernel, rfl, by decide +kernel, by decide +kernel⟩
abbrev s_law_row_holds : Stmt := topS 21
abbrev n_law_row_holds : List Str := ["source", "good", "changed", "asked", "value"]
theorem sc_law_row_holds : FnScope ["source", "good", "changed", "asked", "value"] ["source"] (defScope s_law_row_holds) := ⟨rfl, rfl, rfl, by decide +kernel, rfl, by decide +kernel, by decide +kernel⟩
abbrev s_law : Stmt := topS 22
abbrev n_law : List Str := ["script", "turn", "source", "good", "changed", "code", "wrong", "due", "kept", "row"]
theorem sc_law : FnScope ["script", "turn", "source", "good", "changed", "code", "wrong", "due", "kept", "row"] ["script"] (defScope s_law) := ⟨rfl, rfl, rfl, by decide +kernel, rfl, by decide +kernel, by decide +kernel⟩
structure Tx (w : World) (K : PySem.W.Frag) (mg : Str → Option Value) where
  a_is_integer : Addr
  d_is_integer : FuncData
  F_is_integer : Fun K "is_integer" "is_integer" s_is_integer a_is_integer d_is_integer
  b_is_integer : Binds K d_is_integer ["value", "least", "greatest"] []
  g_is_integer : mg "is_integer" = some (.ref a_is_integer)
  a_is_instruction : Addr
  d_is_instruction : FuncData
  cc_is_instruction : Addr
  P_is_instruction : Addr
  F_is_instruction : GA.FunC K "is_instruction" "is_instruction" s_is_instruction a_is_instruction d_is_instruction cc_is_instruction
  b_is_instruction : Binds K d_is_instruction ["value"] []
  g_is_instruction : mg "is_instruction" = some (.ref a_is_instruction)
  a_is_code : Addr
  d_is_code : FuncData
  cc_is_code : Addr
  P_is_code : Addr
  F_is_code : GA.FunC K "is_code" "is_code" s_is_code a_is_code d_is_code cc_is_code
  b_is_code : Binds K d_is_code ["value"] []
  g_is_code : mg "is_code" = some (.ref a_is_code)
  a_targets : Addr
  d_targets : FuncData
  F_targets : Fun K "targets" "targets" s_targets a_targets d_targets
  b_targets : Binds K d_targets ["instruction"] []
  g_targets : mg "targets" = some (.ref a_targets)
  a_law_source : Addr
  d_law_source : FuncData
  F_law_source : Fun K "_law_source" "_law_source" s_law_source a_law_source d_law_source
  b_law_source : Binds K d_law_source ["script", "k"] []
  g_law_source : mg "_law_source" = some (.ref a_law_source)
  a_law_draw : Addr
  d_law_draw : FuncData
  F_law_draw : Fun K "_law_draw" "_law_draw" s_law_draw a_law_draw d_law_draw
  b_law_draw : Binds K d_law_draw ["source", "many"] []
  g_law_draw : mg "_law_draw" = some (.ref a_law_draw)
  a_law_limits : Addr
  d_law_limits : FuncData
  F_law_limits : Fun K "_law_limits" "_law_limits" s_law_limits a_law_limits d_law_limits
  b_law_limits : Binds K d_law_limits ["name"] []
  g_law_limits : mg "_law_limits" = some (.ref a_law_limits)
  a_law_is_right : Addr
  d_law_is_right : FuncData
  F_law_is_right : Fun K "_law_is_right" "_law_is_right" s_law_is_right a_law_is_right d_law_is_right
  b_law_is_right : Binds K d_law_is_right ["value"] []
  g_law_is_right : mg "_law_is_right" = some (.ref a_law_is_right)
  a_law_name : Addr
  d_law_name : FuncData
  F_law_name : Fun K "_law_name" "_law_name" s_law_name a_law_name d_law_name
  b_law_name : Binds K d_law_name ["source"] []
  g_law_name : mg "_law_name" = some (.ref a_law_name)
  a_law_good : Addr
  d_law_good : FuncData
  F_law_good : Fun K "_law_good" "_law_good" s_law_good a_law_good d_law_good
  b_law_good : Binds K d_law_good ["source"] []
  g_law_good : mg "_law_good" = some (.ref a_law_good)
  a_law_other : Addr
  d_law_other : FuncData
  F_law_other : Fun K "_law_other" "_law_other" s_law_other a_law_other d_law_other
  b_law_other : Binds K d_law_other ["source"] []
  g_law_other : mg "_law_other" = some (.ref a_law_other)
  a_law_changed : Addr
  d_law_changed : FuncData
  F_law_changed : Fun K "_law_changed" "_law_changed" s_law_changed a_law_changed d_law_changed
  b_law_changed : Binds K d_law_changed ["source", "good"] []
  g_law_changed : mg "_law_changed" = some (.ref a_law_changed)
  a_law_same_answer : Addr
  d_law_same_answer : FuncData
  F_law_same_answer : Fun K "_law_same_answer" "_law_same_answer" s_law_same_answer a_law_same_answer d_law_same_answer
  b_law_same_answer : Binds K d_law_same_answer ["actual", "due"] []
  g_law_same_answer : mg "_law_same_answer" = some (.ref a_law_same_answer)
  a_law_targets_hold : Addr
  d_law_targets_hold : FuncData
  F_law_targets_hold : Fun K "_law_targets_hold" "_law_targets_hold" s_law_targets_hold a_law_targets_hold d_law_targets_hold
  b_law_targets_hold : Binds K d_law_targets_hold ["instruction"] []
  g_law_targets_hold : mg "_law_targets_hold" = some (.ref a_law_targets_hold)
  a_law_code : Addr
  d_law_code : FuncData
  F_law_code : Fun K "_law_code" "_law_code" s_law_code a_law_code d_law_code
  b_law_code : Binds K d_law_code ["script", "source", "changed"] []
  g_law_code : mg "_law_code" = some (.ref a_law_code)
  a_law_row_holds : Addr
  d_law_row_holds : FuncData
  F_law_row_holds : Fun K "_law_row_holds" "_law_row_holds" s_law_row_holds a_law_row_holds d_law_row_holds
  b_law_row_holds : Binds K d_law_row_holds ["source"] []
  g_law_row_holds : mg "_law_row_holds" = some (.ref a_law_row_holds)
  a_law : Addr
  d_law : FuncData
  F_law : Fun K "law" "law" s_law a_law d_law
  b_law : Binds K d_law ["script"] []
  g_law : mg "law" = some (.ref a_law)
  t_MOST_INSTRUCTIONS : Tok
  g_MOST_INSTRUCTIONS : mg "MOST_INSTRUCTIONS" = some (.int (20000) t_MOST_INSTRUCTIONS)
  r_MOST_INSTRUCTIONS : RelV (.int (20000)) (.int (20000) t_MOST_INSTRUCTIONS)
  c_NUMBERS : Addr
  g_NUMBERS : mg "NUMBERS" = some (.ref c_NUMBERS)
  r_NUMBERS : RelV (.ref c_NUMBERS) (.ref c_NUMBERS)
  es_NUMBERS : Array DictEntry
  n_NUMBERS : Nat
  D_NUMBERS : KDict K w c_NUMBERS es_NUMBERS n_NUMBERS
  c_GREATEST : Addr
  g_GREATEST : mg "GREATEST" = some (.ref c_GREATEST)
  r_GREATEST : RelV (.ref c_GREATEST) (.ref c_GREATEST)
  es_GREATEST : Array DictEntry
  n_GREATEST : Nat
  D_GREATEST : KDict K w c_GREATEST es_GREATEST n_GREATEST
  z_abs : mg "abs" = none
  z_all : mg "all" = none
  z_bool : mg "bool" = none
  z_int : mg "int" = none
  z_isinstance : mg "isinstance" = none
  z_len : mg "len" = none
  z_list : mg "list" = none
  z_range : mg "range" = none
  z_str : mg "str" = none
  z_tuple : mg "tuple" = none
  z_zip : mg "zip" = none
  kitn : KDx.strB K c_NUMBERS KDx.forms25 = true
  kito : KDx.noneB K c_NUMBERS KDx.odd8 = true
  kitg : KDx.getB K c_GREATEST 0 KDx.tops5 = true

open Lw GxR
/-! ### the forms of instructions -/
def texts33 : List Str := KDx.forms25.map (·.1) ++ KDx.odd8
def topOf (c : Nat) : Int := if c = 114 then 15 else if c = 110 then 65535 else if c = 107 then 15 else if c = 100 then 4095 else 19999
def kindsOf (z : Str) : Option Str := KDx.forms25.lookup z
def limsOf (z : Str) : Option (List Int) := (kindsOf z).map fun ks => ks.cps.toList.map topOf
def partB (l : Int) : PyData → Bool
  | .int i => decide (0 ≤ i) && decide (i ≤ l)
  | _ => false
def allIn : List Int → List PyData → Bool
  | [], [] => true
  | l :: ls, d :: ds => partB l d && allIn ls ds
  | _, _ => false
def insD : PyData → Bool
  | .tuple (.str n :: ds) => match limsOf n with
    | some ls => allIn ls ds
    | none => false
  | _ => false
/-! ### values, by what stands on the heap -/
def Atom : V → PyData → Prop
  | .int i, .int j => i = j
  | .bl a, .bool b => a = b
  | .non, .none => True
  | .str x, .str y => x = y ∧ x ∈ texts33
  | _, _ => False
def PL : Nat → List (Addr × HO) → V → PyData → Prop
  | 0, _, v, d => Atom v d
  | n + 1, L, v, d => Atom v d ∨ ∃ a xs ds, v = .ref a ∧ Paired (PL n L) xs ds ∧ (((a, HO.tup xs) ∈ L ∧ d = .tuple ds) ∨ ((a, HO.lst xs) ∈ L ∧ d = .list ds))
theorem Paired.imp {α β : Type} {R S : α → β → Prop} (f : ∀ a b, R a b → S a b) : ∀ {xs : List α} {ys : List β}, Paired R xs ys → Paired S xs ys
  | _, _, .nil => .nil
  | _, _, .cons r t => .cons (f _ _ r) (Paired.imp f t)
theorem PL.mono {L M : List (Addr × HO)} (h : ∀ q ∈ L, q ∈ M) : ∀ (n : Nat) (v : V) (d : PyData), PL n L v d → PL n M v d
  | 0, _, _, q => q
  | n + 1, v, d, q => by
    rcases q with q | ⟨a, xs, ds, e, p, q⟩
    · exact .inl q
    · refine .inr ⟨a, xs, ds, e, Paired.imp (PL.mono h n) p, ?_⟩
      rcases q with q | q
      · exact .inl ⟨h _ q.1, q.2⟩
      · exact .inr ⟨h _ q.1, q.2⟩
theorem PL.up {L : List (Addr × HO)} : ∀ (n : Nat) (v : V) (d : PyData), PL n L v d → PL (n + 1) L v d
  | 0, _, _, q => .inl q
  | n + 1, v, d, q => by
    rcases q with q | ⟨a, xs, ds, e, p, q⟩
    · exact .inl q
    · exact .inr ⟨a, xs, ds, e, Paired.imp (PL.up n) p, q⟩
def isTup : PyData → Bool | .tuple _ => true | _ => false
def isLst : PyData → Bool | .list _ => true | _ => false
def isStr : PyData → Bool | .str _ => true | _ => false
def isBool : PyData → Bool | .bool _ => true | _ => false
def isInt : PyData → Bool | .int _ => true | _ => false
/-- what isinstance says of a value -/
structure TyD (K : PySem.W.Frag) (H : Hp) (v : V) (d : PyData) (t : Value) : Prop where
  ty : TyX K H v t
  tup : PySem.W.kitOne K t (.type "tuple") = some (isTup d)
  lst : PySem.W.kitOne K t (.type "list") = some (isLst d)
  str : PySem.W.kitOne K t (.type "str") = some (isStr d)
  int : PySem.W.kitOne K t (.type "int") = some (isInt d || isBool d)
  bl : PySem.W.kitOne K t (.type "bool") = some (isBool d)
  at_ : ∀ i, d = .int i → v = .int i
theorem tyd_mk {K : PySem.W.Frag} {H : Hp} {v : V} {d : PyData} (z : String) (b : TyOf K H v (.type z)) (a1 a2 a3 a4 a5 : Bool) (k : kitB z "tuple" = some a1 ∧ kitB z "list" = some a2 ∧ kitB z "str" = some a3 ∧ kitB z "int" = some a4 ∧ kitB z "bool" = some a5)
    (e : isTup d = a1 ∧ isLst d = a2 ∧ isStr d = a3 ∧ (isInt d || isBool d) = a4 ∧ isBool d = a5) (i : ∀ i, d = .int i → v = .int i) : ∃ t, TyD K H v d t := by
  obtain ⟨e1, e2, e3, e4, e5⟩ := e
  obtain ⟨k1, k2, k3, k4, k5⟩ := k
  exact ⟨_, .base b, by rw [e1]; exact kit_ty k1, by rw [e2]; exact kit_ty k2, by rw [e3]; exact kit_ty k3, by rw [e4]; exact kit_ty k4, by rw [e5]; exact kit_ty k5, i⟩
theorem Atom.ty {K : PySem.W.Frag} {H : Hp} : ∀ {v : V} {d : PyData}, Atom v d → ∃ t, TyD K H v d t
  | .int i, .int j, h => tyd_mk "int" (.int _) false false false true false (by decide +kernel) ⟨rfl, rfl, rfl, rfl, rfl⟩ fun k e => by cases e; cases (show i = j from h); rfl
  | .bl a, .bool b, _ => tyd_mk "bool" (.bl _) false false false true true (by decide +kernel) ⟨rfl, rfl, rfl, rfl, rfl⟩ fun k e => by cases e
  | .non, .none, _ => tyd_mk "NoneType" .non false false false false false (by decide +kernel) ⟨rfl, rfl, rfl, rfl, rfl⟩ fun k e => by cases e
  | .str x, .str y, _ => tyd_mk "str" (.str _) false false true false false (by decide +kernel) ⟨rfl, rfl, rfl, rfl, rfl⟩ fun k e => by cases e
theorem PL.ty {K : PySem.W.Frag} {H : Hp} {L : List (Addr × HO)} (hL : ∀ q ∈ L, H q.1 = some q.2) {n : Nat} {v : V} {d : PyData} (h : PL n L v d) : ∃ t, TyD K H v d t := by
  cases n with
  | zero => exact Atom.ty h
  | succ n =>
    rcases h with h | ⟨a, xs, ds, rfl, _, ⟨m, rfl⟩ | ⟨m, rfl⟩⟩
    · exact Atom.ty h
    · exact tyd_mk "tuple" (.tup (hL _ m)) true false false false false (by decide +kernel) ⟨rfl, rfl, rfl, rfl, rfl⟩ fun k e => by cases e
    · exact tyd_mk "list" (.lst (hL _ m)) false true false false false (by decide +kernel) ⟨rfl, rfl, rfl, rfl, rfl⟩ fun k e => by cases e
/-! ### the heap of the law's text -/
/-- a source at p, the tables of the two code objects, and what is new and known since H0 -/
def Wd (P1 P2 : Addr) (H0 H : Hp) (p : Addr) (L : List (Addr × HO)) : Prop := ∃ x y t1 t2, (0 : Int) ≤ x ∧ TriplesOk t1.toList ∧ TriplesOk t2.toList ∧ Objs H0 H ((p, .lst [.int x, .int y]) :: (P1, .tbl t1) :: (P2, .tbl t2) :: L)
theorem Objs.perm' {H0 H : Hp} {L L' : List (Addr × HO)} (h : Objs H0 H L) (p : List.Perm L L') : Objs H0 H L' :=
  ⟨h.same, fun q hq => h.at_ q (p.mem_iff.mpr hq), (p.map _).nodup_iff.mp h.nd, fun q hq => h.new q (p.mem_iff.mpr hq)⟩
section
variable {P1 P2 : Addr} {H0 H H' : Hp} {p a : Addr} {L : List (Addr × HO)} {u : HO} {Q : VK} {E : XK} {m : Int}
theorem Wd.draw (h : Wd P1 P2 H0 H p L) (m0 : 0 < m) (m1 : m ≤ 100000) (q : ∀ v H', 0 ≤ v → v < m → Wd P1 P2 H0 H' p L → Q (.int v) H') : spDraw [.ref p, .int m] H Q E := by
  obtain ⟨x, y, t1, t2, hx, h1, h2, o⟩ := h
  exact ⟨p, x, y, m, rfl, o.get 0 rfl, hx, m0, m1, fun v x' y' v0 v1 x0 => q v _ v0 v1 ⟨x', y', t1, t2, x0, h1, h2, o.put 0 rfl⟩⟩
theorem Wd.add (h : Wd P1 P2 H0 H p L) (n : H a = none) : Wd P1 P2 H0 (upd H a u) p ((a, u) :: L) := by
  obtain ⟨x, y, t1, t2, hx, h1, h2, o⟩ := h
  exact ⟨x, y, t1, t2, hx, h1, h2, Objs.perm' (o.add n) (((List.Perm.swap _ _ _).trans (.cons _ ((List.Perm.swap _ _ _).trans (.cons _ (.swap _ _ _))))))⟩
theorem Wd.mem (h : Wd P1 P2 H0 H p L) {q : Addr × HO} (hm : q ∈ L) : H q.1 = some q.2 := by
  obtain ⟨x, y, t1, t2, hx, h1, h2, o⟩ := h
  exact o.at_ q (List.mem_cons_of_mem _ (List.mem_cons_of_mem _ (List.mem_cons_of_mem _ hm)))
theorem Wd.tab1 (h : Wd P1 P2 H0 H p L) : TabG H P1 := by
  obtain ⟨x, y, t1, t2, hx, h1, h2, o⟩ := h
  exact ⟨t1, o.get 1 rfl, h1⟩
theorem Wd.tab2 (h : Wd P1 P2 H0 H p L) : TabG H P2 := by
  obtain ⟨x, y, t1, t2, hx, h1, h2, o⟩ := h
  exact ⟨t2, o.get 2 rfl, h2⟩
theorem Wd.tabbed1 (h : Wd P1 P2 H0 H p L) (t : Tabbed P1 H H') : Wd P1 P2 H0 H' p L := by
  obtain ⟨x, y, t1, t2, hx, h1, h2, o⟩ := h
  obtain ⟨⟨t1', e, h1'⟩, k⟩ := t
  exact ⟨x, y, t1', t2, hx, h1', h2, o.set 1 rfl (fun b v n z => (k b n).trans z) e⟩
theorem Wd.tabbed2 (h : Wd P1 P2 H0 H p L) (t : Tabbed P2 H H') : Wd P1 P2 H0 H' p L := by
  obtain ⟨x, y, t1, t2, hx, h1, h2, o⟩ := h
  obtain ⟨⟨t2', e, h2'⟩, k⟩ := t
  exact ⟨x, y, t1, t2', hx, h1, h2', o.set 2 rfl (fun b v n z => (k b n).trans z) e⟩
end
def spIsInt (K : PySem.W.Frag) : Sp := fun vs H Q _ => ∃ v l d t, vs = [v, .int 0, .int l] ∧ TyD K H v d t ∧ Q (.bl (partB l d)) H
section
variable {P : Program} {w : World} {K : PySem.W.Frag} {mg : Str → Option Value} {base : Heap}
theorem ok_int (T : Tx w K mg) : FnOk P w K mg base CX0 1 T.a_is_integer T.d_is_integer ["value", "least", "greatest"] (spIsInt K) := by
  refine T.F_is_integer.ok sc_is_integer (fun vs H Q E h => ?_) (fun cdv A outer s H vs Q E hr h => ?_)
  · obtain ⟨v, l, d, t, rfl, _⟩ := h
    rfl
  · obtain ⟨v, l, d, t, rfl, h, q⟩ := h
    refine ⟨_, (pss_cons (ps_if (PW.pt (pw_or (pt_not (pt_val (pe_callB call_isi (by rfl) T.z_isinstance (by decide +kernel) (pa_cons (pv 0) (pa_cons (pe_bltn (v := .ty "int") (u := .type "int") (by rfl) T.z_int (by decide +kernel) rfl) pa_nil))))) (pw_or1 (pt_val (pe_callB call_isi (by rfl) T.z_isinstance (by decide +kernel) (pa_cons (pv 0) (pa_cons (pe_bltn (v := .ty "bool") (u := .type "bool") (by rfl) T.z_bool (by decide +kernel) rfl) pa_nil)))))))
        (pss_one (ps_ret pe_bl))
        pss_nil)
        (pss_one (ps_ret (pe_chain op_le op_le (pv 1) (pv 0) (pv 2))))), ?_⟩
    refine ⟨_, rfl, _, _, _, _, _, rfl, .ty "int", h.ty, h.int, ?_⟩
    cases hb : isBool d with
    | true =>
      have e : partB l d = false := by cases d <;> first | rfl | cases hb
      rw [e] at q
      rw [Bool.or_true]
      (repeat (first | refine ⟨_, rfl, ?_⟩ | refine ⟨_, _, rfl, rfl, ?_⟩ | refine ⟨rfl, ?_⟩ | refine .inl ⟨_, rfl, ?_⟩ | refine .inr ⟨_, rfl, ?_⟩ | refine ⟨.inr ⟨by decide, by decide⟩, ?_⟩ | refine ⟨⟨by decide, by decide⟩, ?_⟩ | refine ⟨⟨by decide, by decide, by decide⟩, ?_⟩ | refine ⟨.inr ⟨by omega, by omega⟩, ?_⟩ | refine ⟨(by show (0 : Int) < _; first | decide | omega), ?_⟩ | refine ⟨Nat.le_trans (Nat.le_of_ble_eq_true rfl : _ ≤ 50) (by decide), ?_⟩ | refine ⟨_, _, _, _, rfl, rfl, upd_same, rfl, ?_⟩ | refine ⟨_, _, _, _, rfl, rfl, SqL.of upd_same, rfl, ?_⟩ | refine ⟨_, _, _, _, rfl, rfl, SqT.of upd_same, rfl, ?_⟩ | refine ⟨_, _, rfl, .inl (SqL.of upd_same), ?_⟩ | refine ⟨_, _, rfl, .inr (SqT.of upd_same), ?_⟩ | (refine' ⟨_, _, _, _, rfl, rfl, _, _, _⟩; rotate_left 2; (focus (first | assumption | exact SqL.of (by assumption) | exact SqT.of (by assumption) | exact Same.seq (by assumption) (by assumption))); (focus (exact rfl))) | (refine' ⟨_, _, rfl, _, _⟩; rotate_left 1; (focus (first | exact .inl (by assumption) | exact .inl (SqL.of (by assumption)) | exact .inr (by assumption) | exact .inr (SqT.of (by assumption)))))))
      refine ⟨_, _, _, _, true, rfl, .ty "bool", h.ty, h.bl.trans (by rw [hb]), ?_⟩
      (repeat (first | refine ⟨_, rfl, ?_⟩ | refine ⟨_, _, rfl, rfl, ?_⟩ | refine ⟨rfl, ?_⟩ | refine .inl ⟨_, rfl, ?_⟩ | refine .inr ⟨_, rfl, ?_⟩ | refine ⟨.inr ⟨by decide, by decide⟩, ?_⟩ | refine ⟨⟨by decide, by decide⟩, ?_⟩ | refine ⟨⟨by decide, by decide, by decide⟩, ?_⟩ | refine ⟨.inr ⟨by omega, by omega⟩, ?_⟩ | refine ⟨(by show (0 : Int) < _; first | decide | omega), ?_⟩ | refine ⟨Nat.le_trans (Nat.le_of_ble_eq_true rfl : _ ≤ 50) (by decide), ?_⟩ | refine ⟨_, _, _, _, rfl, rfl, upd_same, rfl, ?_⟩ | refine ⟨_, _, _, _, rfl, rfl, SqL.of upd_same, rfl, ?_⟩ | refine ⟨_, _, _, _, rfl, rfl, SqT.of upd_same, rfl, ?_⟩ | refine ⟨_, _, rfl, .inl (SqL.of upd_same), ?_⟩ | refine ⟨_, _, rfl, .inr (SqT.of upd_same), ?_⟩ | (refine' ⟨_, _, _, _, rfl, rfl, _, _, _⟩; rotate_left 2; (focus (first | assumption | exact SqL.of (by assumption) | exact SqT.of (by assumption) | exact Same.seq (by assumption) (by assumption))); (focus (exact rfl))) | (refine' ⟨_, _, rfl, _, _⟩; rotate_left 1; (focus (first | exact .inl (by assumption) | exact .inl (SqL.of (by assumption)) | exact .inr (by assumption) | exact .inr (SqT.of (by assumption)))))))
      exact q
    | false =>
      rw [Bool.or_false]
      cases hi : isInt d with
      | false =>
        have e : partB l d = false := by cases d <;> first | rfl | cases hi
        rw [e] at q
        (repeat (first | refine ⟨_, rfl, ?_⟩ | refine ⟨_, _, rfl, rfl, ?_⟩ | refine ⟨rfl, ?_⟩ | refine .inl ⟨_, rfl, ?_⟩ | refine .inr ⟨_, rfl, ?_⟩ | refine ⟨.inr ⟨by decide, by decide⟩, ?_⟩ | refine ⟨⟨by decide, by decide⟩, ?_⟩ | refine ⟨⟨by decide, by decide, by decide⟩, ?_⟩ | refine ⟨.inr ⟨by omega, by omega⟩, ?_⟩ | refine ⟨(by show (0 : Int) < _; first | decide | omega), ?_⟩ | refine ⟨Nat.le_trans (Nat.le_of_ble_eq_true rfl : _ ≤ 50) (by decide), ?_⟩ | refine ⟨_, _, _, _, rfl, rfl, upd_same, rfl, ?_⟩ | refine ⟨_, _, _, _, rfl, rfl, SqL.of upd_same, rfl, ?_⟩ | refine ⟨_, _, _, _, rfl, rfl, SqT.of upd_same, rfl, ?_⟩ | refine ⟨_, _, rfl, .inl (SqL.of upd_same), ?_⟩ | refine ⟨_, _, rfl, .inr (SqT.of upd_same), ?_⟩ | (refine' ⟨_, _, _, _, rfl, rfl, _, _, _⟩; rotate_left 2; (focus (first | assumption | exact SqL.of (by assumption) | exact SqT.of (by assumption) | exact Same.seq (by assumption) (by assumption))); (focus (exact rfl))) | (refine' ⟨_, _, rfl, _, _⟩; rotate_left 1; (focus (first | exact .inl (by assumption) | exact .inl (SqL.of (by assumption)) | exact .inr (by assumption) | exact .inr (SqT.of (by assumption)))))))
        exact q
      | true =>
        have e : ∃ i, d = .int i := by cases d <;> first | exact ⟨_, rfl⟩ | cases hi
        obtain ⟨i, rfl⟩ := e
        obtain rfl := h.at_ i rfl
        (repeat (first | refine ⟨_, rfl, ?_⟩ | refine ⟨_, _, rfl, rfl, ?_⟩ | refine ⟨rfl, ?_⟩ | refine .inl ⟨_, rfl, ?_⟩ | refine .inr ⟨_, rfl, ?_⟩ | refine ⟨.inr ⟨by decide, by decide⟩, ?_⟩ | refine ⟨⟨by decide, by decide⟩, ?_⟩ | refine ⟨⟨by decide, by decide, by decide⟩, ?_⟩ | refine ⟨.inr ⟨by omega, by omega⟩, ?_⟩ | refine ⟨(by show (0 : Int) < _; first | decide | omega), ?_⟩ | refine ⟨Nat.le_trans (Nat.le_of_ble_eq_true rfl : _ ≤ 50) (by decide), ?_⟩ | refine ⟨_, _, _, _, rfl, rfl, upd_same, rfl, ?_⟩ | refine ⟨_, _, _, _, rfl, rfl, SqL.of upd_same, rfl, ?_⟩ | refine ⟨_, _, _, _, rfl, rfl, SqT.of upd_same, rfl, ?_⟩ | refine ⟨_, _, rfl, .inl (SqL.of upd_same), ?_⟩ | refine ⟨_, _, rfl, .inr (SqT.of upd_same), ?_⟩ | (refine' ⟨_, _, _, _, rfl, rfl, _, _, _⟩; rotate_left 2; (focus (first | assumption | exact SqL.of (by assumption) | exact SqT.of (by assumption) | exact Same.seq (by assumption) (by assumption))); (focus (exact rfl))) | (refine' ⟨_, _, rfl, _, _⟩; rotate_left 1; (focus (first | exact .inl (by assumption) | exact .inl (SqL.of (by assumption)) | exact .inr (by assumption) | exact .inr (SqT.of (by assumption)))))))
        refine ⟨_, _, _, _, false, rfl, .ty "bool", h.ty, h.bl, ?_⟩
        (repeat (first | refine ⟨_, rfl, ?_⟩ | refine ⟨_, _, rfl, rfl, ?_⟩ | refine ⟨rfl, ?_⟩ | refine .inl ⟨_, rfl, ?_⟩ | refine .inr ⟨_, rfl, ?_⟩ | refine ⟨.inr ⟨by decide, by decide⟩, ?_⟩ | refine ⟨⟨by decide, by decide⟩, ?_⟩ | refine ⟨⟨by decide, by decide, by decide⟩, ?_⟩ | refine ⟨.inr ⟨by omega, by omega⟩, ?_⟩ | refine ⟨(by show (0 : Int) < _; first | decide | omega), ?_⟩ | refine ⟨Nat.le_trans (Nat.le_of_ble_eq_true rfl : _ ≤ 50) (by decide), ?_⟩ | refine ⟨_, _, _, _, rfl, rfl, upd_same, rfl, ?_⟩ | refine ⟨_, _, _, _, rfl, rfl, SqL.of upd_same, rfl, ?_⟩ | refine ⟨_, _, _, _, rfl, rfl, SqT.of upd_same, rfl, ?_⟩ | refine ⟨_, _, rfl, .inl (SqL.of upd_same), ?_⟩ | refine ⟨_, _, rfl, .inr (SqT.of upd_same), ?_⟩ | (refine' ⟨_, _, _, _, rfl, rfl, _, _, _⟩; rotate_left 2; (focus (first | assumption | exact SqL.of (by assumption) | exact SqT.of (by assumption) | exact Same.seq (by assumption) (by assumption))); (focus (exact rfl))) | (refine' ⟨_, _, rfl, _, _⟩; rotate_left 1; (focus (first | exact .inl (by assumption) | exact .inl (SqL.of (by assumption)) | exact .inr (by assumption) | exact .inr (SqT.of (by assumption)))))))
        show (if decide (0 ≤ i) = true then _ else _)
        have e : partB l (.int i) = (decide (0 ≤ i) && decide (i ≤ l)) := rfl
        rw [e] at q
        refine ite2 (fun e => ?_) (fun e => ?_)
        · rw [e] at q
          (repeat (first | refine ⟨_, rfl, ?_⟩ | refine ⟨_, _, rfl, rfl, ?_⟩ | refine ⟨rfl, ?_⟩ | refine .inl ⟨_, rfl, ?_⟩ | refine .inr ⟨_, rfl, ?_⟩ | refine ⟨.inr ⟨by decide, by decide⟩, ?_⟩ | refine ⟨⟨by decide, by decide⟩, ?_⟩ | refine ⟨⟨by decide, by decide, by decide⟩, ?_⟩ | refine ⟨.inr ⟨by omega, by omega⟩, ?_⟩ | refine ⟨(by show (0 : Int) < _; first | decide | omega), ?_⟩ | refine ⟨Nat.le_trans (Nat.le_of_ble_eq_true rfl : _ ≤ 50) (by decide), ?_⟩ | refine ⟨_, _, _, _, rfl, rfl, upd_same, rfl, ?_⟩ | refine ⟨_, _, _, _, rfl, rfl, SqL.of upd_same, rfl, ?_⟩ | refine ⟨_, _, _, _, rfl, rfl, SqT.of upd_same, rfl, ?_⟩ | refine ⟨_, _, rfl, .inl (SqL.of upd_same), ?_⟩ | refine ⟨_, _, rfl, .inr (SqT.of upd_same), ?_⟩ | (refine' ⟨_, _, _, _, rfl, rfl, _, _, _⟩; rotate_left 2; (focus (first | assumption | exact SqL.of (by assumption) | exact SqT.of (by assumption) | exact Same.seq (by assumption) (by assumption))); (focus (exact rfl))) | (refine' ⟨_, _, rfl, _, _⟩; rotate_left 1; (focus (first | exact .inl (by assumption) | exact .inl (SqL.of (by assumption)) | exact .inr (by assumption) | exact .inr (SqT.of (by assumption)))))))
          exact q
        · rw [eq_false_of_ne_true e] at q
          exact q
theorem forms_ok {z ks : Str} (h : kindsOf z = some ks) : (z, ks) ∈ KDx.forms25 := by
  have h : KDx.forms25.lookup z = some ks := h
  exact PySem.mem_of_lookup h
theorem texts_ok {z : Str} (h : z ∈ texts33) : (kindsOf z = none ∧ z ∈ KDx.odd8) ∨ ∃ ks, kindsOf z = some ks := by
  have key : ∀ z ∈ texts33, (kindsOf z).isSome = true ∨ ((kindsOf z).isSome = false ∧ z ∈ KDx.odd8) := by decide +kernel
  rcases key z h with e | ⟨e, m⟩
  · exact .inr (Option.isSome_iff_exists.mp e)
  · exact .inl ⟨by simpa using e, m⟩
theorem kinds_ok : ∀ q ∈ KDx.forms25, ∀ c ∈ q.2.cps.toList, ((⟨#[c]⟩ : Str), topOf c) ∈ KDx.tops5 := by decide +kernel
theorem kinds_len : ∀ q ∈ KDx.forms25, q.2.length ≤ 3 ∧ q.2.length = q.2.cps.toList.length := by decide +kernel
theorem at0 (x : V) (xs : List V) : atI (x :: xs) 0 = some x := atI_nat (j := 0) rfl
theorem iteF' {b : Bool} {A B : Prop} (e : b = false) (h : B) : if b = true then A else B := by
  rw [e]
  exact h
theorem Wd.skip {P1 P2 : Addr} {H0 H : Hp} {p a : Addr} {L : List (Addr × HO)} {u : HO} (h : Wd P1 P2 H0 H p L) (n : H a = none) : Wd P1 P2 H0 (upd H a u) p L := by
  obtain ⟨x, y, t1, t2, hx, h1, h2, o⟩ := h
  exact ⟨x, y, t1, t2, hx, h1, h2, o.skip n⟩
theorem Wd.sub {P1 P2 : Addr} {H0 H : Hp} {p : Addr} {L L' : List (Addr × HO)} (h : Wd P1 P2 H0 H p L) (s : List.Sublist L' L) : Wd P1 P2 H0 H p L' := by
  obtain ⟨x, y, t1, t2, hx, h1, h2, o⟩ := h
  exact ⟨x, y, t1, t2, hx, h1, h2, o.sub (((s.cons_cons _).cons_cons _).cons_cons _)⟩
theorem allIn_len : ∀ {ls : List Int} {ds : List PyData}, ls.length ≠ ds.length → allIn ls ds = false
  | [], [], h => absurd rfl h
  | [], _ :: _, _ => rfl
  | _ :: _, [], _ => rfl
  | l :: ls, d :: ds, h => by
    show (partB l d && allIn ls ds) = false
    rw [allIn_len (ls := ls) (ds := ds) fun e => h (by rw [List.length_cons, List.length_cons, e]), Bool.and_false]
theorem allIn_drop {ls : List Int} {ds : List PyData} {i : Nat} {l : Int} {d : PyData} (h1 : ls[i]? = some l) (h2 : ds[i]? = some d) : allIn (ls.drop i) (ds.drop i) = (partB l d && allIn (ls.drop (i + 1)) (ds.drop (i + 1))) := by
  obtain ⟨g1, e1⟩ := List.getElem?_eq_some_iff.mp h1
  obtain ⟨g2, e2⟩ := List.getElem?_eq_some_iff.mp h2
  rw [List.drop_eq_getElem_cons g1, List.drop_eq_getElem_cons g2, e1, e2]
  rfl
theorem paired_get {α β : Type} {R : α → β → Prop} : ∀ {xs : List α} {ys : List β} {i : Nat} {x : α}, Paired R xs ys → xs[i]? = some x → ∃ y, ys[i]? = some y ∧ R x y
  | _, _, _, _, .nil, e => by simp at e
  | _, _, 0, _, .cons r _, e => by simp at e; subst e; exact ⟨_, rfl, r⟩
  | _, _, i + 1, x, .cons _ t, e => by
    obtain ⟨y, h1, h2⟩ := paired_get (i := i) (x := x) t (by simpa using e)
    exact ⟨y, by simpa using h1, h2⟩
theorem ix1 (x : V) (xs : List V) : HT.sIx (x :: xs).length 0 (some 1) = 1 := by
  have := HT.sIx_nat (x :: xs).length 0 1
  rw [List.length_cons] at this ⊢
  exact this.trans (by omega)
theorem cut1 (x : V) (xs : List V) : cutV (x :: xs) (some 1) none = xs := by
  unfold cutV
  rw [ix1, HT.sIx_none, List.length_cons]
  show xs.take (xs.length + 1 - 1) = xs
  rw [Nat.add_sub_cancel, List.take_length]
theorem topOf_ne (c : Nat) : topOf c ≠ 0 := by
  unfold topOf
  repeat' split
  all_goals decide
/-! ### is_instruction -/
def spIns (P1 P2 : Addr) : Sp := fun vs H Q _ => ∃ v H0 p L d, vs = [v] ∧ Wd P1 P2 H0 H p L ∧ PL 2 L v d ∧ ∀ H', Wd P1 P2 H0 H' p L → Q (.bl (insD d)) H'
theorem ok_ins (T : Tx w K mg) {P2 : Addr} (B_is_instruction : LamX.TabB base mg T.cc_is_instruction T.P_is_instruction) : FnOk P w K mg base CX0 3 T.a_is_instruction T.d_is_instruction ["value"] (spIns T.P_is_instruction P2) := by
  have G_is_integer : FnOk P w K mg base CX0 1 T.a_is_integer T.d_is_integer ["value", "least", "greatest"] (spIsInt K) := ok_int T
  refine T.F_is_instruction.ok sc_is_instruction (fun vs H Q E h => ?_) (fun A outer s H vs Q E hr h => ?_)
  · obtain ⟨v, H0, p, L, d, rfl, _⟩ := h
    rfl
  · obtain ⟨v, H0, p, L, d, rfl, o, hv, q⟩ := h
    refine ⟨_, (pss_cons (ps_if (PW.pt (pw_or (pt_not (pt_val (pe_callB call_isi (by rfl) T.z_isinstance (by decide +kernel) (pa_cons (pv 0) (pa_cons (pe_bltn (v := .ty "tuple") (u := .type "tuple") (by rfl) T.z_tuple (by decide +kernel) rfl) pa_nil))))) (pw_or (pt_cmpR op_eq (pe_callB call_len_seq (by rfl) T.z_len (by decide +kernel) (pa_cons (pv 0) pa_nil)) pe_int (nomark _)) (pw_or1 (pt_not (pt_val (pe_callB call_isi (by rfl) T.z_isinstance (by decide +kernel) (pa_cons (pe_ix ix_tup (pv 0) pe_int (fun _ _ => rfl)) (pa_cons (pe_bltn (v := .ty "str") (u := .type "str") (by rfl) T.z_str (by decide +kernel) rfl) pa_nil)))))))))
        (pss_one (ps_ret pe_bl))
        pss_nil)
        (pss_cons (ps_if (pt_cmpR (op_notIn_kd T.D_NUMBERS) (pe_ix ix_tup (pv 0) pe_int (fun _ _ => rfl)) (pe_glob rfl T.g_NUMBERS T.r_NUMBERS) (by rfl))
        (pss_one (ps_ret pe_bl))
        pss_nil)
        (pss_cons (ps_set (i := 1) sc_is_instruction.nd rfl (.inl rfl) (pe_ix ix_kdict (pe_glob rfl T.g_NUMBERS T.r_NUMBERS) (pe_ix ix_tup (pv 0) pe_int (fun _ _ => rfl)) (fun _ _ => rfl)))
        (pss_cons (ps_if (pt_cmpR op_ne (pe_callB call_len_seq (by rfl) T.z_len (by decide +kernel) (pa_cons (pv 0) pa_nil)) (pe_op op_add (pe_callB call_len_str (by rfl) T.z_len (by decide +kernel) (pa_cons (pv 1) pa_nil)) pe_int) (nomark _))
        (pss_one (ps_ret pe_bl))
        pss_nil)
        (pss_one (ps_ret (GA.pe_all (own := [("kind", 2), ("number", 3)]) hr rfl sc_is_instruction.nd (by rfl) T.z_all (by decide +kernel) B_is_instruction rfl (ZG.pi_zipG rfl T.z_zip (pa_cons (pv 1) (pa_cons (pe_slice sl_tup (pv 0) (po_some pe_int) po_none) pa_nil))) (GA.genOk_by (N := n_is_instruction) (sc := defScope s_is_instruction) (by decide +kernel)) (fun _ _ _ _ _ _ => (show PG _ _ (gTup K 2 (gCons (gName 2) (gCons (gName 3) gNil))) from pg_tup rfl (pgs_cons (pg_name (i := 2) sc_is_instruction.nd rfl (Or.inl rfl) (Or.inr rfl)) (pgs_cons (pg_name (i := 3) sc_is_instruction.nd rfl (Or.inl rfl) (Or.inr rfl)) pgs_nil)))) (fun _ _ _ _ _ _ hr => have hr_is_integer : Room 1 _ := hr.mono (by decide); (pe_call G_is_integer hr_is_integer (by rfl) T.g_is_integer T.F_is_integer.kp T.b_is_integer .nil pass0 (pa_cons (pv 3) (pa_cons pe_int (pa_cons (pe_ix (show IxR _ (rIxD K w) from ix_kdict) (pe_glob rfl T.g_GREATEST T.r_GREATEST) (pv 2) (fun _ _ => rfl)) pa_nil)))))))))))), ?_⟩
    have hL : ∀ q ∈ L, H q.1 = some q.2 := fun q hq => o.mem hq
    obtain ⟨t, ht⟩ := hv.ty (K := K) hL
    have q0 : insD d = false → Q (.bl false) H := fun e => by
      have := q H o
      rw [e] at this
      exact this
    refine ⟨_, rfl, _, _, _, _, _, rfl, .ty "tuple", ht.ty, ht.tup, ?_⟩
    rcases hv with hv | ⟨a, xs, ds, rfl, hp, ⟨m, rfl⟩ | ⟨m, rfl⟩⟩
    · have e1 : isTup d = false := by cases v <;> cases d <;> first | rfl | exact False.elim hv
      have e2 : insD d = false := by cases d <;> first | rfl | cases e1
      rw [e1]
      (repeat (first | refine ⟨_, rfl, ?_⟩ | refine ⟨_, _, rfl, rfl, ?_⟩ | refine ⟨rfl, ?_⟩ | refine .inl ⟨_, rfl, ?_⟩ | refine .inr ⟨_, rfl, ?_⟩ | refine ⟨.inr ⟨by decide, by decide⟩, ?_⟩ | refine ⟨⟨by decide, by decide⟩, ?_⟩ | refine ⟨⟨by decide, by decide, by decide⟩, ?_⟩ | refine ⟨.inr ⟨by omega, by omega⟩, ?_⟩ | refine ⟨(by show (0 : Int) < _; first | decide | omega), ?_⟩ | refine ⟨Nat.le_trans (Nat.le_of_ble_eq_true rfl : _ ≤ 50) (by decide), ?_⟩ | refine ⟨_, _, _, _, rfl, rfl, upd_same, rfl, ?_⟩ | refine ⟨_, _, _, _, rfl, rfl, SqL.of upd_same, rfl, ?_⟩ | refine ⟨_, _, _, _, rfl, rfl, SqT.of upd_same, rfl, ?_⟩ | refine ⟨_, _, rfl, .inl (SqL.of upd_same), ?_⟩ | refine ⟨_, _, rfl, .inr (SqT.of upd_same), ?_⟩ | (refine' ⟨_, _, _, _, rfl, rfl, _, _, _⟩; rotate_left 2; (focus (first | assumption | exact SqL.of (by assumption) | exact SqT.of (by assumption) | exact Same.seq (by assumption) (by assumption))); (focus (exact rfl))) | (refine' ⟨_, _, rfl, _, _⟩; rotate_left 1; (focus (first | exact .inl (by assumption) | exact .inl (SqL.of (by assumption)) | exact .inr (by assumption) | exact .inr (SqT.of (by assumption)))))))
      exact q0 e2
    · cases hp with
      | nil =>
        (repeat (first | refine ⟨_, rfl, ?_⟩ | refine ⟨_, _, rfl, rfl, ?_⟩ | refine ⟨rfl, ?_⟩ | refine .inl ⟨_, rfl, ?_⟩ | refine .inr ⟨_, rfl, ?_⟩ | refine ⟨.inr ⟨by decide, by decide⟩, ?_⟩ | refine ⟨⟨by decide, by decide⟩, ?_⟩ | refine ⟨⟨by decide, by decide, by decide⟩, ?_⟩ | refine ⟨.inr ⟨by omega, by omega⟩, ?_⟩ | refine ⟨(by show (0 : Int) < _; first | decide | omega), ?_⟩ | refine ⟨Nat.le_trans (Nat.le_of_ble_eq_true rfl : _ ≤ 50) (by decide), ?_⟩ | refine ⟨_, _, _, _, rfl, rfl, upd_same, rfl, ?_⟩ | refine ⟨_, _, _, _, rfl, rfl, SqL.of upd_same, rfl, ?_⟩ | refine ⟨_, _, _, _, rfl, rfl, SqT.of upd_same, rfl, ?_⟩ | refine ⟨_, _, rfl, .inl (SqL.of upd_same), ?_⟩ | refine ⟨_, _, rfl, .inr (SqT.of upd_same), ?_⟩ | (refine' ⟨_, _, _, _, rfl, rfl, _, _, _⟩; rotate_left 2; (focus (first | assumption | exact SqL.of (by assumption) | exact SqT.of (by assumption) | exact Same.seq (by assumption) (by assumption))); (focus (exact rfl))) | (refine' ⟨_, _, rfl, _, _⟩; rotate_left 1; (focus (first | exact .inl (by assumption) | exact .inl (SqL.of (by assumption)) | exact .inr (by assumption) | exact .inr (SqT.of (by assumption)))))))
        refine ⟨a, [], rfl, .inr (SqT.of (hL _ m)), ?_⟩
        (repeat (first | refine ⟨_, rfl, ?_⟩ | refine ⟨_, _, rfl, rfl, ?_⟩ | refine ⟨rfl, ?_⟩ | refine .inl ⟨_, rfl, ?_⟩ | refine .inr ⟨_, rfl, ?_⟩ | refine ⟨.inr ⟨by decide, by decide⟩, ?_⟩ | refine ⟨⟨by decide, by decide⟩, ?_⟩ | refine ⟨⟨by decide, by decide, by decide⟩, ?_⟩ | refine ⟨.inr ⟨by omega, by omega⟩, ?_⟩ | refine ⟨(by show (0 : Int) < _; first | decide | omega), ?_⟩ | refine ⟨Nat.le_trans (Nat.le_of_ble_eq_true rfl : _ ≤ 50) (by decide), ?_⟩ | refine ⟨_, _, _, _, rfl, rfl, upd_same, rfl, ?_⟩ | refine ⟨_, _, _, _, rfl, rfl, SqL.of upd_same, rfl, ?_⟩ | refine ⟨_, _, _, _, rfl, rfl, SqT.of upd_same, rfl, ?_⟩ | refine ⟨_, _, rfl, .inl (SqL.of upd_same), ?_⟩ | refine ⟨_, _, rfl, .inr (SqT.of upd_same), ?_⟩ | (refine' ⟨_, _, _, _, rfl, rfl, _, _, _⟩; rotate_left 2; (focus (first | assumption | exact SqL.of (by assumption) | exact SqT.of (by assumption) | exact Same.seq (by assumption) (by assumption))); (focus (exact rfl))) | (refine' ⟨_, _, rfl, _, _⟩; rotate_left 1; (focus (first | exact .inl (by assumption) | exact .inl (SqL.of (by assumption)) | exact .inr (by assumption) | exact .inr (SqT.of (by assumption)))))))
        exact q0 rfl
      | @cons x0 d0 xs ds h0 hp =>
        (repeat (first | refine ⟨_, rfl, ?_⟩ | refine ⟨_, _, rfl, rfl, ?_⟩ | refine ⟨rfl, ?_⟩ | refine .inl ⟨_, rfl, ?_⟩ | refine .inr ⟨_, rfl, ?_⟩ | refine ⟨.inr ⟨by decide, by decide⟩, ?_⟩ | refine ⟨⟨by decide, by decide⟩, ?_⟩ | refine ⟨⟨by decide, by decide, by decide⟩, ?_⟩ | refine ⟨.inr ⟨by omega, by omega⟩, ?_⟩ | refine ⟨(by show (0 : Int) < _; first | decide | omega), ?_⟩ | refine ⟨Nat.le_trans (Nat.le_of_ble_eq_true rfl : _ ≤ 50) (by decide), ?_⟩ | refine ⟨_, _, _, _, rfl, rfl, upd_same, rfl, ?_⟩ | refine ⟨_, _, _, _, rfl, rfl, SqL.of upd_same, rfl, ?_⟩ | refine ⟨_, _, _, _, rfl, rfl, SqT.of upd_same, rfl, ?_⟩ | refine ⟨_, _, rfl, .inl (SqL.of upd_same), ?_⟩ | refine ⟨_, _, rfl, .inr (SqT.of upd_same), ?_⟩ | (refine' ⟨_, _, _, _, rfl, rfl, _, _, _⟩; rotate_left 2; (focus (first | assumption | exact SqL.of (by assumption) | exact SqT.of (by assumption) | exact Same.seq (by assumption) (by assumption))); (focus (exact rfl))) | (refine' ⟨_, _, rfl, _, _⟩; rotate_left 1; (focus (first | exact .inl (by assumption) | exact .inl (SqL.of (by assumption)) | exact .inr (by assumption) | exact .inr (SqT.of (by assumption)))))))
        refine ⟨a, _, rfl, .inr (SqT.of (hL _ m)), ?_⟩
        obtain ⟨t0, h0t⟩ := h0.ty (K := K) hL
        (repeat (first | refine ⟨_, rfl, ?_⟩ | refine ⟨_, _, rfl, rfl, ?_⟩ | refine ⟨rfl, ?_⟩ | refine .inl ⟨_, rfl, ?_⟩ | refine .inr ⟨_, rfl, ?_⟩ | refine ⟨.inr ⟨by decide, by decide⟩, ?_⟩ | refine ⟨⟨by decide, by decide⟩, ?_⟩ | refine ⟨⟨by decide, by decide, by decide⟩, ?_⟩ | refine ⟨.inr ⟨by omega, by omega⟩, ?_⟩ | refine ⟨(by show (0 : Int) < _; first | decide | omega), ?_⟩ | refine ⟨Nat.le_trans (Nat.le_of_ble_eq_true rfl : _ ≤ 50) (by decide), ?_⟩ | refine ⟨_, _, _, _, rfl, rfl, upd_same, rfl, ?_⟩ | refine ⟨_, _, _, _, rfl, rfl, SqL.of upd_same, rfl, ?_⟩ | refine ⟨_, _, _, _, rfl, rfl, SqT.of upd_same, rfl, ?_⟩ | refine ⟨_, _, rfl, .inl (SqL.of upd_same), ?_⟩ | refine ⟨_, _, rfl, .inr (SqT.of upd_same), ?_⟩ | (refine' ⟨_, _, _, _, rfl, rfl, _, _, _⟩; rotate_left 2; (focus (first | assumption | exact SqL.of (by assumption) | exact SqT.of (by assumption) | exact Same.seq (by assumption) (by assumption))); (focus (exact rfl))) | (refine' ⟨_, _, rfl, _, _⟩; rotate_left 1; (focus (first | exact .inl (by assumption) | exact .inl (SqL.of (by assumption)) | exact .inr (by assumption) | exact .inr (SqT.of (by assumption)))))))
        refine ⟨a, _, _, _, rfl, rfl, SqT.of (hL _ m), at0 _ _, ?_⟩
        refine ⟨_, _, _, _, _, rfl, .ty "str", h0t.ty, h0t.str, ?_⟩
        cases hs : isStr d0 with
        | false =>
          have e2 : insD (.tuple (d0 :: ds)) = false := by cases d0 <;> first | rfl | cases hs
          (repeat (first | refine ⟨_, rfl, ?_⟩ | refine ⟨_, _, rfl, rfl, ?_⟩ | refine ⟨rfl, ?_⟩ | refine .inl ⟨_, rfl, ?_⟩ | refine .inr ⟨_, rfl, ?_⟩ | refine ⟨.inr ⟨by decide, by decide⟩, ?_⟩ | refine ⟨⟨by decide, by decide⟩, ?_⟩ | refine ⟨⟨by decide, by decide, by decide⟩, ?_⟩ | refine ⟨.inr ⟨by omega, by omega⟩, ?_⟩ | refine ⟨(by show (0 : Int) < _; first | decide | omega), ?_⟩ | refine ⟨Nat.le_trans (Nat.le_of_ble_eq_true rfl : _ ≤ 50) (by decide), ?_⟩ | refine ⟨_, _, _, _, rfl, rfl, upd_same, rfl, ?_⟩ | refine ⟨_, _, _, _, rfl, rfl, SqL.of upd_same, rfl, ?_⟩ | refine ⟨_, _, _, _, rfl, rfl, SqT.of upd_same, rfl, ?_⟩ | refine ⟨_, _, rfl, .inl (SqL.of upd_same), ?_⟩ | refine ⟨_, _, rfl, .inr (SqT.of upd_same), ?_⟩ | (refine' ⟨_, _, _, _, rfl, rfl, _, _, _⟩; rotate_left 2; (focus (first | assumption | exact SqL.of (by assumption) | exact SqT.of (by assumption) | exact Same.seq (by assumption) (by assumption))); (focus (exact rfl))) | (refine' ⟨_, _, rfl, _, _⟩; rotate_left 1; (focus (first | exact .inl (by assumption) | exact .inl (SqL.of (by assumption)) | exact .inr (by assumption) | exact .inr (SqT.of (by assumption)))))))
          exact q0 e2
        | true =>
          have e2 : ∃ n, d0 = .str n := by cases d0 <;> first | exact ⟨_, rfl⟩ | cases hs
          obtain ⟨n, rfl⟩ := e2
          have e3 : x0 = .str n ∧ n ∈ texts33 := by
            rcases h0 with h0 | ⟨_, _, _, _, _, ⟨_, e⟩ | ⟨_, e⟩⟩
            · cases x0 <;> first | exact False.elim h0 | (obtain ⟨rfl, h⟩ := h0; exact ⟨rfl, h⟩)
            · cases e
            · cases e
          obtain ⟨rfl, hn⟩ := e3
          (repeat (first | refine ⟨_, rfl, ?_⟩ | refine ⟨_, _, rfl, rfl, ?_⟩ | refine ⟨rfl, ?_⟩ | refine .inl ⟨_, rfl, ?_⟩ | refine .inr ⟨_, rfl, ?_⟩ | refine ⟨.inr ⟨by decide, by decide⟩, ?_⟩ | refine ⟨⟨by decide, by decide⟩, ?_⟩ | refine ⟨⟨by decide, by decide, by decide⟩, ?_⟩ | refine ⟨.inr ⟨by omega, by omega⟩, ?_⟩ | refine ⟨(by show (0 : Int) < _; first | decide | omega), ?_⟩ | refine ⟨Nat.le_trans (Nat.le_of_ble_eq_true rfl : _ ≤ 50) (by decide), ?_⟩ | refine ⟨_, _, _, _, rfl, rfl, upd_same, rfl, ?_⟩ | refine ⟨_, _, _, _, rfl, rfl, SqL.of upd_same, rfl, ?_⟩ | refine ⟨_, _, _, _, rfl, rfl, SqT.of upd_same, rfl, ?_⟩ | refine ⟨_, _, rfl, .inl (SqL.of upd_same), ?_⟩ | refine ⟨_, _, rfl, .inr (SqT.of upd_same), ?_⟩ | (refine' ⟨_, _, _, _, rfl, rfl, _, _, _⟩; rotate_left 2; (focus (first | assumption | exact SqL.of (by assumption) | exact SqT.of (by assumption) | exact Same.seq (by assumption) (by assumption))); (focus (exact rfl))) | (refine' ⟨_, _, rfl, _, _⟩; rotate_left 1; (focus (first | exact .inl (by assumption) | exact .inl (SqL.of (by assumption)) | exact .inr (by assumption) | exact .inr (SqT.of (by assumption)))))))
          refine ⟨a, _, _, _, rfl, rfl, SqT.of (hL _ m), at0 _ _, ?_⟩
          (repeat (first | refine ⟨_, rfl, ?_⟩ | refine ⟨_, _, rfl, rfl, ?_⟩ | refine ⟨rfl, ?_⟩ | refine .inl ⟨_, rfl, ?_⟩ | refine .inr ⟨_, rfl, ?_⟩ | refine ⟨.inr ⟨by decide, by decide⟩, ?_⟩ | refine ⟨⟨by decide, by decide⟩, ?_⟩ | refine ⟨⟨by decide, by decide, by decide⟩, ?_⟩ | refine ⟨.inr ⟨by omega, by omega⟩, ?_⟩ | refine ⟨(by show (0 : Int) < _; first | decide | omega), ?_⟩ | refine ⟨Nat.le_trans (Nat.le_of_ble_eq_true rfl : _ ≤ 50) (by decide), ?_⟩ | refine ⟨_, _, _, _, rfl, rfl, upd_same, rfl, ?_⟩ | refine ⟨_, _, _, _, rfl, rfl, SqL.of upd_same, rfl, ?_⟩ | refine ⟨_, _, _, _, rfl, rfl, SqT.of upd_same, rfl, ?_⟩ | refine ⟨_, _, rfl, .inl (SqL.of upd_same), ?_⟩ | refine ⟨_, _, rfl, .inr (SqT.of upd_same), ?_⟩ | (refine' ⟨_, _, _, _, rfl, rfl, _, _, _⟩; rotate_left 2; (focus (first | assumption | exact SqL.of (by assumption) | exact SqT.of (by assumption) | exact Same.seq (by assumption) (by assumption))); (focus (exact rfl))) | (refine' ⟨_, _, rfl, _, _⟩; rotate_left 1; (focus (first | exact .inl (by assumption) | exact .inl (SqL.of (by assumption)) | exact .inr (by assumption) | exact .inr (SqT.of (by assumption)))))))
          rcases texts_ok hn with ⟨hk, ho⟩ | ⟨ks, hk⟩
          · refine ⟨_, _, rfl, rfl, KDx.noneB_ok T.kito ho, ?_⟩
            (repeat (first | refine ⟨_, rfl, ?_⟩ | refine ⟨_, _, rfl, rfl, ?_⟩ | refine ⟨rfl, ?_⟩ | refine .inl ⟨_, rfl, ?_⟩ | refine .inr ⟨_, rfl, ?_⟩ | refine ⟨.inr ⟨by decide, by decide⟩, ?_⟩ | refine ⟨⟨by decide, by decide⟩, ?_⟩ | refine ⟨⟨by decide, by decide, by decide⟩, ?_⟩ | refine ⟨.inr ⟨by omega, by omega⟩, ?_⟩ | refine ⟨(by show (0 : Int) < _; first | decide | omega), ?_⟩ | refine ⟨Nat.le_trans (Nat.le_of_ble_eq_true rfl : _ ≤ 50) (by decide), ?_⟩ | refine ⟨_, _, _, _, rfl, rfl, upd_same, rfl, ?_⟩ | refine ⟨_, _, _, _, rfl, rfl, SqL.of upd_same, rfl, ?_⟩ | refine ⟨_, _, _, _, rfl, rfl, SqT.of upd_same, rfl, ?_⟩ | refine ⟨_, _, rfl, .inl (SqL.of upd_same), ?_⟩ | refine ⟨_, _, rfl, .inr (SqT.of upd_same), ?_⟩ | (refine' ⟨_, _, _, _, rfl, rfl, _, _, _⟩; rotate_left 2; (focus (first | assumption | exact SqL.of (by assumption) | exact SqT.of (by assumption) | exact Same.seq (by assumption) (by assumption))); (focus (exact rfl))) | (refine' ⟨_, _, rfl, _, _⟩; rotate_left 1; (focus (first | exact .inl (by assumption) | exact .inl (SqL.of (by assumption)) | exact .inr (by assumption) | exact .inr (SqT.of (by assumption)))))))
            refine q0 ?_
            show (match limsOf n with | some ls => allIn ls ds | none => false) = false
            unfold limsOf
            rw [hk]
            rfl
          · have hf := forms_ok hk
            obtain ⟨u, hu, ru⟩ := KDx.strB_ok T.kitn hf
            refine ⟨_, _, rfl, rfl, hu, ?_⟩
            (repeat (first | refine ⟨_, rfl, ?_⟩ | refine ⟨_, _, rfl, rfl, ?_⟩ | refine ⟨rfl, ?_⟩ | refine .inl ⟨_, rfl, ?_⟩ | refine .inr ⟨_, rfl, ?_⟩ | refine ⟨.inr ⟨by decide, by decide⟩, ?_⟩ | refine ⟨⟨by decide, by decide⟩, ?_⟩ | refine ⟨⟨by decide, by decide, by decide⟩, ?_⟩ | refine ⟨.inr ⟨by omega, by omega⟩, ?_⟩ | refine ⟨(by show (0 : Int) < _; first | decide | omega), ?_⟩ | refine ⟨Nat.le_trans (Nat.le_of_ble_eq_true rfl : _ ≤ 50) (by decide), ?_⟩ | refine ⟨_, _, _, _, rfl, rfl, upd_same, rfl, ?_⟩ | refine ⟨_, _, _, _, rfl, rfl, SqL.of upd_same, rfl, ?_⟩ | refine ⟨_, _, _, _, rfl, rfl, SqT.of upd_same, rfl, ?_⟩ | refine ⟨_, _, rfl, .inl (SqL.of upd_same), ?_⟩ | refine ⟨_, _, rfl, .inr (SqT.of upd_same), ?_⟩ | (refine' ⟨_, _, _, _, rfl, rfl, _, _, _⟩; rotate_left 2; (focus (first | assumption | exact SqL.of (by assumption) | exact SqT.of (by assumption) | exact Same.seq (by assumption) (by assumption))); (focus (exact rfl))) | (refine' ⟨_, _, rfl, _, _⟩; rotate_left 1; (focus (first | exact .inl (by assumption) | exact .inl (SqL.of (by assumption)) | exact .inr (by assumption) | exact .inr (SqT.of (by assumption)))))))
            refine ⟨a, _, _, _, rfl, rfl, SqT.of (hL _ m), at0 _ _, ?_⟩
            refine ⟨_, _, _, rfl, rfl, ⟨_, _, _, T.D_NUMBERS.at_, T.D_NUMBERS.lit, hu, ru⟩, ?_⟩
            (repeat (first | refine ⟨_, rfl, ?_⟩ | refine ⟨_, _, rfl, rfl, ?_⟩ | refine ⟨rfl, ?_⟩ | refine .inl ⟨_, rfl, ?_⟩ | refine .inr ⟨_, rfl, ?_⟩ | refine ⟨.inr ⟨by decide, by decide⟩, ?_⟩ | refine ⟨⟨by decide, by decide⟩, ?_⟩ | refine ⟨⟨by decide, by decide, by decide⟩, ?_⟩ | refine ⟨.inr ⟨by omega, by omega⟩, ?_⟩ | refine ⟨(by show (0 : Int) < _; first | decide | omega), ?_⟩ | refine ⟨Nat.le_trans (Nat.le_of_ble_eq_true rfl : _ ≤ 50) (by decide), ?_⟩ | refine ⟨_, _, _, _, rfl, rfl, upd_same, rfl, ?_⟩ | refine ⟨_, _, _, _, rfl, rfl, SqL.of upd_same, rfl, ?_⟩ | refine ⟨_, _, _, _, rfl, rfl, SqT.of upd_same, rfl, ?_⟩ | refine ⟨_, _, rfl, .inl (SqL.of upd_same), ?_⟩ | refine ⟨_, _, rfl, .inr (SqT.of upd_same), ?_⟩ | (refine' ⟨_, _, _, _, rfl, rfl, _, _, _⟩; rotate_left 2; (focus (first | assumption | exact SqL.of (by assumption) | exact SqT.of (by assumption) | exact Same.seq (by assumption) (by assumption))); (focus (exact rfl))) | (refine' ⟨_, _, rfl, _, _⟩; rotate_left 1; (focus (first | exact .inl (by assumption) | exact .inl (SqL.of (by assumption)) | exact .inr (by assumption) | exact .inr (SqT.of (by assumption)))))))
            obtain ⟨hl3, hl4⟩ := kinds_len _ hf
            have hlen : xs.length = ds.length := hp.length
            have hv2 : insD (.tuple (.str n :: ds)) = allIn (ks.cps.toList.map topOf) ds := by
              show (match limsOf n with | some ls => allIn ls ds | none => false) = _
              unfold limsOf
              rw [hk]
              rfl
            refine ⟨a, _, rfl, .inr (SqT.of (hL _ m)), ?_⟩
            (repeat (first | refine ⟨_, rfl, ?_⟩ | refine ⟨_, _, rfl, rfl, ?_⟩ | refine ⟨rfl, ?_⟩ | refine .inl ⟨_, rfl, ?_⟩ | refine .inr ⟨_, rfl, ?_⟩ | refine ⟨.inr ⟨by decide, by decide⟩, ?_⟩ | refine ⟨⟨by decide, by decide⟩, ?_⟩ | refine ⟨⟨by decide, by decide, by decide⟩, ?_⟩ | refine ⟨.inr ⟨by omega, by omega⟩, ?_⟩ | refine ⟨(by show (0 : Int) < _; first | decide | omega), ?_⟩ | refine ⟨Nat.le_trans (Nat.le_of_ble_eq_true rfl : _ ≤ 50) (by decide), ?_⟩ | refine ⟨_, _, _, _, rfl, rfl, upd_same, rfl, ?_⟩ | refine ⟨_, _, _, _, rfl, rfl, SqL.of upd_same, rfl, ?_⟩ | refine ⟨_, _, _, _, rfl, rfl, SqT.of upd_same, rfl, ?_⟩ | refine ⟨_, _, rfl, .inl (SqL.of upd_same), ?_⟩ | refine ⟨_, _, rfl, .inr (SqT.of upd_same), ?_⟩ | (refine' ⟨_, _, _, _, rfl, rfl, _, _, _⟩; rotate_left 2; (focus (first | assumption | exact SqL.of (by assumption) | exact SqT.of (by assumption) | exact Same.seq (by assumption) (by assumption))); (focus (exact rfl))) | (refine' ⟨_, _, rfl, _, _⟩; rotate_left 1; (focus (first | exact .inl (by assumption) | exact .inl (SqL.of (by assumption)) | exact .inr (by assumption) | exact .inr (SqT.of (by assumption)))))))
            refine ⟨Nat.le_trans hl3 (by show 3 ≤ sizeLine; decide), ?_⟩
            (repeat (first | refine ⟨_, rfl, ?_⟩ | refine ⟨_, _, rfl, rfl, ?_⟩ | refine ⟨rfl, ?_⟩ | refine .inl ⟨_, rfl, ?_⟩ | refine .inr ⟨_, rfl, ?_⟩ | refine ⟨.inr ⟨by decide, by decide⟩, ?_⟩ | refine ⟨⟨by decide, by decide⟩, ?_⟩ | refine ⟨⟨by decide, by decide, by decide⟩, ?_⟩ | refine ⟨.inr ⟨by omega, by omega⟩, ?_⟩ | refine ⟨(by show (0 : Int) < _; first | decide | omega), ?_⟩ | refine ⟨Nat.le_trans (Nat.le_of_ble_eq_true rfl : _ ≤ 50) (by decide), ?_⟩ | refine ⟨_, _, _, _, rfl, rfl, upd_same, rfl, ?_⟩ | refine ⟨_, _, _, _, rfl, rfl, SqL.of upd_same, rfl, ?_⟩ | refine ⟨_, _, _, _, rfl, rfl, SqT.of upd_same, rfl, ?_⟩ | refine ⟨_, _, rfl, .inl (SqL.of upd_same), ?_⟩ | refine ⟨_, _, rfl, .inr (SqT.of upd_same), ?_⟩ | (refine' ⟨_, _, _, _, rfl, rfl, _, _, _⟩; rotate_left 2; (focus (first | assumption | exact SqL.of (by assumption) | exact SqT.of (by assumption) | exact Same.seq (by assumption) (by assumption))); (focus (exact rfl))) | (refine' ⟨_, _, rfl, _, _⟩; rotate_left 1; (focus (first | exact .inl (by assumption) | exact .inl (SqL.of (by assumption)) | exact .inr (by assumption) | exact .inr (SqT.of (by assumption)))))))
            refine ite2 (fun e => ?_) (fun e => ?_)
            · (repeat (first | refine ⟨_, rfl, ?_⟩ | refine ⟨_, _, rfl, rfl, ?_⟩ | refine ⟨rfl, ?_⟩ | refine .inl ⟨_, rfl, ?_⟩ | refine .inr ⟨_, rfl, ?_⟩ | refine ⟨.inr ⟨by decide, by decide⟩, ?_⟩ | refine ⟨⟨by decide, by decide⟩, ?_⟩ | refine ⟨⟨by decide, by decide, by decide⟩, ?_⟩ | refine ⟨.inr ⟨by omega, by omega⟩, ?_⟩ | refine ⟨(by show (0 : Int) < _; first | decide | omega), ?_⟩ | refine ⟨Nat.le_trans (Nat.le_of_ble_eq_true rfl : _ ≤ 50) (by decide), ?_⟩ | refine ⟨_, _, _, _, rfl, rfl, upd_same, rfl, ?_⟩ | refine ⟨_, _, _, _, rfl, rfl, SqL.of upd_same, rfl, ?_⟩ | refine ⟨_, _, _, _, rfl, rfl, SqT.of upd_same, rfl, ?_⟩ | refine ⟨_, _, rfl, .inl (SqL.of upd_same), ?_⟩ | refine ⟨_, _, rfl, .inr (SqT.of upd_same), ?_⟩ | (refine' ⟨_, _, _, _, rfl, rfl, _, _, _⟩; rotate_left 2; (focus (first | assumption | exact SqL.of (by assumption) | exact SqT.of (by assumption) | exact Same.seq (by assumption) (by assumption))); (focus (exact rfl))) | (refine' ⟨_, _, rfl, _, _⟩; rotate_left 1; (focus (first | exact .inl (by assumption) | exact .inl (SqL.of (by assumption)) | exact .inr (by assumption) | exact .inr (SqT.of (by assumption)))))))
              refine q0 ?_
              rw [hv2]
              refine allIn_len fun z => ?_
              rw [List.length_map, ← hlen, ← hl4] at z
              rw [List.length_cons, z] at e
              exact absurd e (by simp)
            · have hxl : ks.length = xs.length := by
                have e := eq_false_of_ne_true e
                rw [List.length_cons] at e
                have e : ((xs.length + 1 : Nat) : Int) = (ks.length : Int) + 1 := by simpa using e
                omega
              (repeat (first | refine ⟨_, rfl, ?_⟩ | refine ⟨_, _, rfl, rfl, ?_⟩ | refine ⟨rfl, ?_⟩ | refine .inl ⟨_, rfl, ?_⟩ | refine .inr ⟨_, rfl, ?_⟩ | refine ⟨.inr ⟨by decide, by decide⟩, ?_⟩ | refine ⟨⟨by decide, by decide⟩, ?_⟩ | refine ⟨⟨by decide, by decide, by decide⟩, ?_⟩ | refine ⟨.inr ⟨by omega, by omega⟩, ?_⟩ | refine ⟨(by show (0 : Int) < _; first | decide | omega), ?_⟩ | refine ⟨Nat.le_trans (Nat.le_of_ble_eq_true rfl : _ ≤ 50) (by decide), ?_⟩ | refine ⟨_, _, _, _, rfl, rfl, upd_same, rfl, ?_⟩ | refine ⟨_, _, _, _, rfl, rfl, SqL.of upd_same, rfl, ?_⟩ | refine ⟨_, _, _, _, rfl, rfl, SqT.of upd_same, rfl, ?_⟩ | refine ⟨_, _, rfl, .inl (SqL.of upd_same), ?_⟩ | refine ⟨_, _, rfl, .inr (SqT.of upd_same), ?_⟩ | (refine' ⟨_, _, _, _, rfl, rfl, _, _, _⟩; rotate_left 2; (focus (first | assumption | exact SqL.of (by assumption) | exact SqT.of (by assumption) | exact Same.seq (by assumption) (by assumption))); (focus (exact rfl))) | (refine' ⟨_, _, rfl, _, _⟩; rotate_left 1; (focus (first | exact .inl (by assumption) | exact .inl (SqL.of (by assumption)) | exact .inr (by assumption) | exact .inr (SqT.of (by assumption)))))))
              refine ⟨a, _, rfl, SqT.of (hL _ m), fun z => absurd z.1 (by rw [ix1]; decide), fun pp hpp => ?_⟩
              rw [cut1]
              have o1 := o.add (u := .tup xs) hpp
              refine ⟨.txt ks, .tup pp, _, xs, rfl, rfl, SqT.of upd_same, o1.tab1, fun H2 hT2 => ?_⟩
              have o2 := o1.tabbed1 hT2
              refine GA.all_it (ZG.walkG (n := xs.length) (by rw [List.length_map, ← hl4, hxl, Nat.min_self])) (fun i H' => Wd T.P_is_instruction P2 H0 H' p ((pp, .tup xs) :: L) ∧ allIn (ks.cps.toList.map topOf) ds = allIn ((ks.cps.toList.map topOf).drop i) (ds.drop i)) ⟨o2, rfl⟩ (fun i H' _ e => ⟨rfl, SqT.of (e.1.mem (List.mem_cons_self ..))⟩) ?_ ?_
              · rintro i x H5 H6 hi ⟨o5, e5⟩ ⟨TT, v1, v2, rfl, hTT, rfl, hx1, hx2⟩
                have hi2 : i < ks.cps.toList.length := by rw [← hl4, hxl]; exact hi
                have hc : ks.cps.toList[i]? = some ks.cps.toList[i] := List.getElem?_eq_getElem hi2
                have hv1 : v1 = .str ⟨#[ks.cps.toList[i]]⟩ := by
                  have hx1 : (ks.cps.toList.map fun c => V.str ⟨#[c]⟩)[i]? = some v1 := hx1
                  rw [List.getElem?_map, hc] at hx1
                  cases hx1
                  rfl
                have hx2 : xs[i]? = some v2 := hx2
                obtain ⟨d2, hd2, hp2⟩ := paired_get hp hx2
                obtain ⟨r, hr1, hr2, hr3⟩ := KDx.getB_ok T.kitg (kinds_ok _ hf _ (List.mem_of_getElem? hc))
                subst hv1
                have o6 := o5.skip (u := .tup [.str ⟨#[ks.cps.toList[i]]⟩, v2]) hTT
                obtain ⟨t2, ht2⟩ := hp2.ty (K := K) fun q hq => o6.mem (List.mem_cons_of_mem _ hq)
                refine ⟨TT, _, rfl, SqT.of upd_same, rfl, ?_⟩
                refine ⟨_, _, rfl, _, _, rfl, rfl, rfl, ?_⟩
                cases r with
                | none => exact absurd (hr2 rfl) (topOf_ne _)
                | some u2 =>
                  have ru2 := hr3 u2 rfl
                  have e6 : allIn ((ks.cps.toList.map topOf).drop i) (ds.drop i) = (partB (topOf ks.cps.toList[i]) d2 && allIn ((ks.cps.toList.map topOf).drop (i + 1)) (ds.drop (i + 1))) := allIn_drop (by rw [List.getElem?_map, hc]; rfl) hd2
                  refine ⟨_, rfl, ?_⟩
                  (repeat (first | refine ⟨_, rfl, ?_⟩ | refine ⟨_, _, rfl, rfl, ?_⟩ | refine ⟨rfl, ?_⟩ | refine .inl ⟨_, rfl, ?_⟩ | refine .inr ⟨_, rfl, ?_⟩ | refine ⟨.inr ⟨by decide, by decide⟩, ?_⟩ | refine ⟨⟨by decide, by decide⟩, ?_⟩ | refine ⟨⟨by decide, by decide, by decide⟩, ?_⟩ | refine ⟨.inr ⟨by omega, by omega⟩, ?_⟩ | refine ⟨(by show (0 : Int) < _; first | decide | omega), ?_⟩ | refine ⟨Nat.le_trans (Nat.le_of_ble_eq_true rfl : _ ≤ 50) (by decide), ?_⟩ | refine ⟨_, _, _, _, rfl, rfl, upd_same, rfl, ?_⟩ | refine ⟨_, _, _, _, rfl, rfl, SqL.of upd_same, rfl, ?_⟩ | refine ⟨_, _, _, _, rfl, rfl, SqT.of upd_same, rfl, ?_⟩ | refine ⟨_, _, rfl, .inl (SqL.of upd_same), ?_⟩ | refine ⟨_, _, rfl, .inr (SqT.of upd_same), ?_⟩ | (refine' ⟨_, _, _, _, rfl, rfl, _, _, _⟩; rotate_left 2; (focus (first | assumption | exact SqL.of (by assumption) | exact SqT.of (by assumption) | exact Same.seq (by assumption) (by assumption))); (focus (exact rfl))) | (refine' ⟨_, _, rfl, _, _⟩; rotate_left 1; (focus (first | exact .inl (by assumption) | exact .inl (SqL.of (by assumption)) | exact .inr (by assumption) | exact .inr (SqT.of (by assumption)))))))
                  refine ⟨_, _, _, rfl, rfl, ⟨_, _, _, T.D_GREATEST.at_, T.D_GREATEST.lit, hr1, ru2⟩, ?_⟩
                  refine ⟨_, _, _, _, rfl, ht2, _, rfl, ?_⟩
                  cases hpb : partB (topOf ks.cps.toList[i]) d2 with
                  | false =>
                    have e7 : insD (.tuple (.str n :: ds)) = false := by rw [hv2, e5, e6, hpb]; rfl
                    have := q _ (o6.sub (List.sublist_cons_self _ _))
                    rw [e7] at this
                    exact this
                  | true =>
                    refine ⟨o6, ?_⟩
                    rw [e5, e6, hpb]
                    rfl
              · rintro H5 ⟨o5, e5⟩
                have e7 : insD (.tuple (.str n :: ds)) = true := by
                  rw [hv2, e5, List.drop_of_length_le (by rw [List.length_map, ← hl4, hxl]; exact Nat.le_refl _), List.drop_of_length_le (by rw [hlen]; exact Nat.le_refl _)]
                  rfl
                have := q H5 (o5.sub (List.sublist_cons_self _ _))
                rw [e7] at this
                exact this
    · (repeat (first | refine ⟨_, rfl, ?_⟩ | refine ⟨_, _, rfl, rfl, ?_⟩ | refine ⟨rfl, ?_⟩ | refine .inl ⟨_, rfl, ?_⟩ | refine .inr ⟨_, rfl, ?_⟩ | refine ⟨.inr ⟨by decide, by decide⟩, ?_⟩ | refine ⟨⟨by decide, by decide⟩, ?_⟩ | refine ⟨⟨by decide, by decide, by decide⟩, ?_⟩ | refine ⟨.inr ⟨by omega, by omega⟩, ?_⟩ | refine ⟨(by show (0 : Int) < _; first | decide | omega), ?_⟩ | refine ⟨Nat.le_trans (Nat.le_of_ble_eq_true rfl : _ ≤ 50) (by decide), ?_⟩ | refine ⟨_, _, _, _, rfl, rfl, upd_same, rfl, ?_⟩ | refine ⟨_, _, _, _, rfl, rfl, SqL.of upd_same, rfl, ?_⟩ | refine ⟨_, _, _, _, rfl, rfl, SqT.of upd_same, rfl, ?_⟩ | refine ⟨_, _, rfl, .inl (SqL.of upd_same), ?_⟩ | refine ⟨_, _, rfl, .inr (SqT.of upd_same), ?_⟩ | (refine' ⟨_, _, _, _, rfl, rfl, _, _, _⟩; rotate_left 2; (focus (first | assumption | exact SqL.of (by assumption) | exact SqT.of (by assumption) | exact Same.seq (by assumption) (by assumption))); (focus (exact rfl))) | (refine' ⟨_, _, rfl, _, _⟩; rotate_left 1; (focus (first | exact .inl (by assumption) | exact .inl (SqL.of (by assumption)) | exact .inr (by assumption) | exact .inr (SqT.of (by assumption)))))))
      exact q0 rfl
end
end K26

set_option Elab.async false
set_option linter.all false
set_option maxRecDepth 100000
set_option maxHeartbeats 4000000
namespace K26
open PySem PySem.Spec PyProof.Rows L2 Lw GxR
/-! ### is_code, targets -/
def codeD : PyData → Bool
  | .tuple ds => decide (1 ≤ ds.length) && decide (ds.length ≤ 20000) && ds.all insD
  | _ => false
def spCode (P1 P2 : Addr) : Sp := fun vs H Q _ => ∃ v H0 p L d, vs = [v] ∧ Wd P1 P2 H0 H p L ∧ PL 3 L v d ∧ ∀ H', Wd P1 P2 H0 H' p L → Q (.bl (codeD d)) H'
def tgt (n : Str) (xs : List Int) : List Int := if n = "jump" ∨ n = "below" ∨ n = "call" then [xs.getLastD 0] else []
def spTargets : Sp := fun vs H Q _ => ∃ (a : Addr) (n ks : Str) (xs : List Int), vs = [.ref a] ∧ H a = some (.tup (.str n :: xs.map V.int)) ∧ kindsOf n = some ks ∧ xs.length = ks.length ∧ ∀ r, H r = none → Q (.ref r) (upd H r (.lst ((tgt n xs).map V.int)))
theorem at_last {n : Str} {xs : List Int} (h : 1 ≤ xs.length) : atI (V.str n :: xs.map V.int) (-1) = some (.int (xs.getLastD 0)) := by
  obtain ⟨ys, z, rfl⟩ : ∃ ys z, xs = ys ++ [z] := by
    have hn : xs ≠ [] := fun e => by rw [e] at h; exact absurd h (by decide)
    exact ⟨_, _, (List.dropLast_concat_getLast hn).symm⟩
  rw [List.map_append, List.getLastD_concat]
  exact atI_last (V.str n :: ys.map V.int) (.int z)
theorem ends_ok : ∀ q ∈ KDx.forms25, Txt.endswith q.2 "p" = decide (q.1 = "jump" ∨ q.1 = "below" ∨ q.1 = "call") ∧ ((q.1 = "jump" ∨ q.1 = "below" ∨ q.1 = "call") → 1 ≤ q.2.length) := by decide +kernel
section
variable {P : Program} {w : World} {K : PySem.W.Frag} {mg : Str → Option Value} {base : Heap}
theorem ok_code (T : Tx w K mg) (B_is_instruction : LamX.TabB base mg T.cc_is_instruction T.P_is_instruction) (B_is_code : LamX.TabB base mg T.cc_is_code T.P_is_code) : FnOk P w K mg base CX0 5 T.a_is_code T.d_is_code ["value"] (spCode T.P_is_instruction T.P_is_code) := by
  have G_is_instruction : FnOk P w K mg base CX0 3 T.a_is_instruction T.d_is_instruction ["value"] (spIns T.P_is_instruction T.P_is_code) := ok_ins T B_is_instruction
  refine T.F_is_code.ok sc_is_code (fun vs H Q E h => ?_) (fun A outer s H vs Q E hr h => ?_)
  · obtain ⟨v, H0, p, L, d, rfl, _⟩ := h
    rfl
  · obtain ⟨v, H0, p, L, d, rfl, o, hv, q⟩ := h
    refine ⟨_, (pss_cons (ps_if (PW.pt (pw_or (pt_not (pt_val (pe_callB call_isi (by rfl) T.z_isinstance (by decide +kernel) (pa_cons (pv 0) (pa_cons (pe_bltn (v := .ty "tuple") (u := .type "tuple") (by rfl) T.z_tuple (by decide +kernel) rfl) pa_nil))))) (pw_or1 (pt_not (pt_chain op_le op_le pe_int (pe_callB call_len_seq (by rfl) T.z_len (by decide +kernel) (pa_cons (pv 0) pa_nil)) (pe_glob rfl T.g_MOST_INSTRUCTIONS T.r_MOST_INSTRUCTIONS))))))
        (pss_one (ps_ret pe_bl))
        pss_nil)
        (pss_one (ps_ret (GA.pe_all (own := [("item", 1)]) hr rfl sc_is_code.nd (by rfl) T.z_all (by decide +kernel) B_is_code rfl (pi_tup (pv 0)) (GA.genOk_by (N := n_is_code) (sc := defScope s_is_code) (by decide +kernel)) (fun _ _ _ _ _ _ => pg_name (i := 1) sc_is_code.nd rfl (Or.inl rfl)) (fun _ _ _ _ _ _ hr => have hr_is_instruction : Room 3 _ := hr.mono (by decide); (pe_call G_is_instruction hr_is_instruction (by rfl) T.g_is_instruction T.F_is_instruction.kp T.b_is_instruction .nil pass0 (pa_cons (pv 1) pa_nil))))))), ?_⟩
    have hL : ∀ q ∈ L, H q.1 = some q.2 := fun q hq => o.mem hq
    obtain ⟨t, ht⟩ := hv.ty (K := K) hL
    have q0 : codeD d = false → ∀ H', Wd T.P_is_instruction T.P_is_code H0 H' p L → Q (.bl false) H' := fun e H' o' => by
      have := q H' o'
      rw [e] at this
      exact this
    refine ⟨_, rfl, _, _, _, _, _, rfl, .ty "tuple", ht.ty, ht.tup, ?_⟩
    rcases hv with hv | ⟨a, xs, ds, rfl, hp, ⟨m, rfl⟩ | ⟨m, rfl⟩⟩
    · have e1 : isTup d = false := by cases v <;> cases d <;> first | rfl | exact False.elim hv
      have e2 : codeD d = false := by cases d <;> first | rfl | cases e1
      rw [e1]
      (repeat (first | refine ⟨_, rfl, ?_⟩ | refine ⟨_, _, rfl, rfl, ?_⟩ | refine ⟨rfl, ?_⟩ | refine .inl ⟨_, rfl, ?_⟩ | refine .inr ⟨_, rfl, ?_⟩ | refine ⟨.inr ⟨by decide, by decide⟩, ?_⟩ | refine ⟨⟨by decide, by decide⟩, ?_⟩ | refine ⟨⟨by decide, by decide, by decide⟩, ?_⟩ | refine ⟨.inr ⟨by omega, by omega⟩, ?_⟩ | refine ⟨(by show (0 : Int) < _; first | decide | omega), ?_⟩ | refine ⟨Nat.le_trans (Nat.le_of_ble_eq_true rfl : _ ≤ 50) (by decide), ?_⟩ | refine ⟨_, _, _, _, rfl, rfl, upd_same, rfl, ?_⟩ | refine ⟨_, _, _, _, rfl, rfl, SqL.of upd_same, rfl, ?_⟩ | refine ⟨_, _, _, _, rfl, rfl, SqT.of upd_same, rfl, ?_⟩ | refine ⟨_, _, rfl, .inl (SqL.of upd_same), ?_⟩ | refine ⟨_, _, rfl, .inr (SqT.of upd_same), ?_⟩ | (refine' ⟨_, _, _, _, rfl, rfl, _, _, _⟩; rotate_left 2; (focus (first | assumption | exact SqL.of (by assumption) | exact SqT.of (by assumption) | exact Same.seq (by assumption) (by assumption))); (focus (exact rfl))) | (refine' ⟨_, _, rfl, _, _⟩; rotate_left 1; (focus (first | exact .inl (by assumption) | exact .inl (SqL.of (by assumption)) | exact .inr (by assumption) | exact .inr (SqT.of (by assumption)))))))
      exact q0 e2 _ o
    · have hlen : xs.length = ds.length := hp.length
      (repeat (first | refine ⟨_, rfl, ?_⟩ | refine ⟨_, _, rfl, rfl, ?_⟩ | refine ⟨rfl, ?_⟩ | refine .inl ⟨_, rfl, ?_⟩ | refine .inr ⟨_, rfl, ?_⟩ | refine ⟨.inr ⟨by decide, by decide⟩, ?_⟩ | refine ⟨⟨by decide, by decide⟩, ?_⟩ | refine ⟨⟨by decide, by decide, by decide⟩, ?_⟩ | refine ⟨.inr ⟨by omega, by omega⟩, ?_⟩ | refine ⟨(by show (0 : Int) < _; first | decide | omega), ?_⟩ | refine ⟨Nat.le_trans (Nat.le_of_ble_eq_true rfl : _ ≤ 50) (by decide), ?_⟩ | refine ⟨_, _, _, _, rfl, rfl, upd_same, rfl, ?_⟩ | refine ⟨_, _, _, _, rfl, rfl, SqL.of upd_same, rfl, ?_⟩ | refine ⟨_, _, _, _, rfl, rfl, SqT.of upd_same, rfl, ?_⟩ | refine ⟨_, _, rfl, .inl (SqL.of upd_same), ?_⟩ | refine ⟨_, _, rfl, .inr (SqT.of upd_same), ?_⟩ | (refine' ⟨_, _, _, _, rfl, rfl, _, _, _⟩; rotate_left 2; (focus (first | assumption | exact SqL.of (by assumption) | exact SqT.of (by assumption) | exact Same.seq (by assumption) (by assumption))); (focus (exact rfl))) | (refine' ⟨_, _, rfl, _, _⟩; rotate_left 1; (focus (first | exact .inl (by assumption) | exact .inl (SqL.of (by assumption)) | exact .inr (by assumption) | exact .inr (SqT.of (by assumption)))))))
      refine ⟨a, xs, rfl, .inr (SqT.of (hL _ m)), ?_⟩
      (repeat (first | refine ⟨_, rfl, ?_⟩ | refine ⟨_, _, rfl, rfl, ?_⟩ | refine ⟨rfl, ?_⟩ | refine .inl ⟨_, rfl, ?_⟩ | refine .inr ⟨_, rfl, ?_⟩ | refine ⟨.inr ⟨by decide, by decide⟩, ?_⟩ | refine ⟨⟨by decide, by decide⟩, ?_⟩ | refine ⟨⟨by decide, by decide, by decide⟩, ?_⟩ | refine ⟨.inr ⟨by omega, by omega⟩, ?_⟩ | refine ⟨(by show (0 : Int) < _; first | decide | omega), ?_⟩ | refine ⟨Nat.le_trans (Nat.le_of_ble_eq_true rfl : _ ≤ 50) (by decide), ?_⟩ | refine ⟨_, _, _, _, rfl, rfl, upd_same, rfl, ?_⟩ | refine ⟨_, _, _, _, rfl, rfl, SqL.of upd_same, rfl, ?_⟩ | refine ⟨_, _, _, _, rfl, rfl, SqT.of upd_same, rfl, ?_⟩ | refine ⟨_, _, rfl, .inl (SqL.of upd_same), ?_⟩ | refine ⟨_, _, rfl, .inr (SqT.of upd_same), ?_⟩ | (refine' ⟨_, _, _, _, rfl, rfl, _, _, _⟩; rotate_left 2; (focus (first | assumption | exact SqL.of (by assumption) | exact SqT.of (by assumption) | exact Same.seq (by assumption) (by assumption))); (focus (exact rfl))) | (refine' ⟨_, _, rfl, _, _⟩; rotate_left 1; (focus (first | exact .inl (by assumption) | exact .inl (SqL.of (by assumption)) | exact .inr (by assumption) | exact .inr (SqT.of (by assumption)))))))
      have ec : codeD (.tuple ds) = (decide (1 ≤ ds.length) && decide (ds.length ≤ 20000) && ds.all insD) := rfl
      refine ite2 (fun e => ?_) (fun e => ?_)
      · have e := of_decide_eq_true e
        (repeat (first | refine ⟨_, rfl, ?_⟩ | refine ⟨_, _, rfl, rfl, ?_⟩ | refine ⟨rfl, ?_⟩ | refine .inl ⟨_, rfl, ?_⟩ | refine .inr ⟨_, rfl, ?_⟩ | refine ⟨.inr ⟨by decide, by decide⟩, ?_⟩ | refine ⟨⟨by decide, by decide⟩, ?_⟩ | refine ⟨⟨by decide, by decide, by decide⟩, ?_⟩ | refine ⟨.inr ⟨by omega, by omega⟩, ?_⟩ | refine ⟨(by show (0 : Int) < _; first | decide | omega), ?_⟩ | refine ⟨Nat.le_trans (Nat.le_of_ble_eq_true rfl : _ ≤ 50) (by decide), ?_⟩ | refine ⟨_, _, _, _, rfl, rfl, upd_same, rfl, ?_⟩ | refine ⟨_, _, _, _, rfl, rfl, SqL.of upd_same, rfl, ?_⟩ | refine ⟨_, _, _, _, rfl, rfl, SqT.of upd_same, rfl, ?_⟩ | refine ⟨_, _, rfl, .inl (SqL.of upd_same), ?_⟩ | refine ⟨_, _, rfl, .inr (SqT.of upd_same), ?_⟩ | (refine' ⟨_, _, _, _, rfl, rfl, _, _, _⟩; rotate_left 2; (focus (first | assumption | exact SqL.of (by assumption) | exact SqT.of (by assumption) | exact Same.seq (by assumption) (by assumption))); (focus (exact rfl))) | (refine' ⟨_, _, rfl, _, _⟩; rotate_left 1; (focus (first | exact .inl (by assumption) | exact .inl (SqL.of (by assumption)) | exact .inr (by assumption) | exact .inr (SqT.of (by assumption)))))))
        refine ite2 (fun e' => ?_) (fun e' => ?_)
        · refine q0 ?_ _ o
          have e' : ¬ ((xs.length : Int) ≤ 20000) := by simpa using e'
          rw [ec, decide_eq_false (p := ds.length ≤ 20000) (by omega), Bool.and_false, Bool.false_and]
        · have e' : ((xs.length : Int) ≤ 20000) := by simpa using e'
          have ec : codeD (.tuple ds) = ds.all insD := by rw [ec, decide_eq_true (p := ds.length ≤ 20000) (by omega), decide_eq_true (p := 1 ≤ ds.length) (by omega), Bool.and_true, Bool.true_and]
          (repeat (first | refine ⟨_, rfl, ?_⟩ | refine ⟨_, _, rfl, rfl, ?_⟩ | refine ⟨rfl, ?_⟩ | refine .inl ⟨_, rfl, ?_⟩ | refine .inr ⟨_, rfl, ?_⟩ | refine ⟨.inr ⟨by decide, by decide⟩, ?_⟩ | refine ⟨⟨by decide, by decide⟩, ?_⟩ | refine ⟨⟨by decide, by decide, by decide⟩, ?_⟩ | refine ⟨.inr ⟨by omega, by omega⟩, ?_⟩ | refine ⟨(by show (0 : Int) < _; first | decide | omega), ?_⟩ | refine ⟨Nat.le_trans (Nat.le_of_ble_eq_true rfl : _ ≤ 50) (by decide), ?_⟩ | refine ⟨_, _, _, _, rfl, rfl, upd_same, rfl, ?_⟩ | refine ⟨_, _, _, _, rfl, rfl, SqL.of upd_same, rfl, ?_⟩ | refine ⟨_, _, _, _, rfl, rfl, SqT.of upd_same, rfl, ?_⟩ | refine ⟨_, _, rfl, .inl (SqL.of upd_same), ?_⟩ | refine ⟨_, _, rfl, .inr (SqT.of upd_same), ?_⟩ | (refine' ⟨_, _, _, _, rfl, rfl, _, _, _⟩; rotate_left 2; (focus (first | assumption | exact SqL.of (by assumption) | exact SqT.of (by assumption) | exact Same.seq (by assumption) (by assumption))); (focus (exact rfl))) | (refine' ⟨_, _, rfl, _, _⟩; rotate_left 1; (focus (first | exact .inl (by assumption) | exact .inl (SqL.of (by assumption)) | exact .inr (by assumption) | exact .inr (SqT.of (by assumption)))))))
          refine ⟨⟨xs, SqT.of (hL _ m)⟩, o.tab2, fun H2 hT2 => ?_⟩
          have o2 := o.tabbed2 hT2
          refine GA.all_it (walk_tup (K := K) (a := a) (xs := xs)) (fun i H' => Wd T.P_is_instruction T.P_is_code H0 H' p L ∧ (ds.take i).all insD = true) ⟨o2, by rw [List.take_zero]; rfl⟩ (fun i H' _ e => SqT.of (e.1.mem m)) ?_ ?_
          · rintro i x H5 H6 hi ⟨o5, e5⟩ ⟨rfl, hx⟩
            obtain ⟨dx, hdx, hpx⟩ := paired_get hp hx
            have et : (ds.take (i + 1)).all insD = insD dx := by
              rw [List.take_add_one, hdx, List.all_append, e5, Bool.true_and]
              show (insD dx && true) = insD dx
              rw [Bool.and_true]
            refine ⟨rfl, _, rfl, x, H0, p, L, dx, rfl, o5, hpx, fun H7 o7 => ⟨_, rfl, ?_⟩⟩
            cases hb : insD dx with
            | false =>
              have e7 : ds.all insD = false := by
                rw [Bool.eq_false_iff]
                intro z
                have := List.all_eq_true.mp z dx (List.mem_of_getElem? hdx)
                rw [hb] at this
                cases this
              have := q H7 o7
              rw [ec, e7] at this
              exact this
            | true => exact ⟨o7, by rw [et, hb]⟩
          · rintro H5 ⟨o5, e5⟩
            rw [List.take_of_length_le (by omega)] at e5
            have := q H5 o5
            rw [ec, e5] at this
            exact this
      · have e : ¬ ((1 : Int) ≤ xs.length) := fun z => e (decide_eq_true z)
        (repeat (first | refine ⟨_, rfl, ?_⟩ | refine ⟨_, _, rfl, rfl, ?_⟩ | refine ⟨rfl, ?_⟩ | refine .inl ⟨_, rfl, ?_⟩ | refine .inr ⟨_, rfl, ?_⟩ | refine ⟨.inr ⟨by decide, by decide⟩, ?_⟩ | refine ⟨⟨by decide, by decide⟩, ?_⟩ | refine ⟨⟨by decide, by decide, by decide⟩, ?_⟩ | refine ⟨.inr ⟨by omega, by omega⟩, ?_⟩ | refine ⟨(by show (0 : Int) < _; first | decide | omega), ?_⟩ | refine ⟨Nat.le_trans (Nat.le_of_ble_eq_true rfl : _ ≤ 50) (by decide), ?_⟩ | refine ⟨_, _, _, _, rfl, rfl, upd_same, rfl, ?_⟩ | refine ⟨_, _, _, _, rfl, rfl, SqL.of upd_same, rfl, ?_⟩ | refine ⟨_, _, _, _, rfl, rfl, SqT.of upd_same, rfl, ?_⟩ | refine ⟨_, _, rfl, .inl (SqL.of upd_same), ?_⟩ | refine ⟨_, _, rfl, .inr (SqT.of upd_same), ?_⟩ | (refine' ⟨_, _, _, _, rfl, rfl, _, _, _⟩; rotate_left 2; (focus (first | assumption | exact SqL.of (by assumption) | exact SqT.of (by assumption) | exact Same.seq (by assumption) (by assumption))); (focus (exact rfl))) | (refine' ⟨_, _, rfl, _, _⟩; rotate_left 1; (focus (first | exact .inl (by assumption) | exact .inl (SqL.of (by assumption)) | exact .inr (by assumption) | exact .inr (SqT.of (by assumption)))))))
        refine q0 ?_ _ o
        rw [ec, decide_eq_false (p := 1 ≤ ds.length) (by omega), Bool.false_and, Bool.false_and]
    · (repeat (first | refine ⟨_, rfl, ?_⟩ | refine ⟨_, _, rfl, rfl, ?_⟩ | refine ⟨rfl, ?_⟩ | refine .inl ⟨_, rfl, ?_⟩ | refine .inr ⟨_, rfl, ?_⟩ | refine ⟨.inr ⟨by decide, by decide⟩, ?_⟩ | refine ⟨⟨by decide, by decide⟩, ?_⟩ | refine ⟨⟨by decide, by decide, by decide⟩, ?_⟩ | refine ⟨.inr ⟨by omega, by omega⟩, ?_⟩ | refine ⟨(by show (0 : Int) < _; first | decide | omega), ?_⟩ | refine ⟨Nat.le_trans (Nat.le_of_ble_eq_true rfl : _ ≤ 50) (by decide), ?_⟩ | refine ⟨_, _, _, _, rfl, rfl, upd_same, rfl, ?_⟩ | refine ⟨_, _, _, _, rfl, rfl, SqL.of upd_same, rfl, ?_⟩ | refine ⟨_, _, _, _, rfl, rfl, SqT.of upd_same, rfl, ?_⟩ | refine ⟨_, _, rfl, .inl (SqL.of upd_same), ?_⟩ | refine ⟨_, _, rfl, .inr (SqT.of upd_same), ?_⟩ | (refine' ⟨_, _, _, _, rfl, rfl, _, _, _⟩; rotate_left 2; (focus (first | assumption | exact SqL.of (by assumption) | exact SqT.of (by assumption) | exact Same.seq (by assumption) (by assumption))); (focus (exact rfl))) | (refine' ⟨_, _, rfl, _, _⟩; rotate_left 1; (focus (first | exact .inl (by assumption) | exact .inl (SqL.of (by assumption)) | exact .inr (by assumption) | exact .inr (SqT.of (by assumption)))))))
      exact q0 rfl _ o
theorem ok_targets (T : Tx w K mg) : FnOk P w K mg base CX0 1 T.a_targets T.d_targets ["instruction"] spTargets := by
  refine T.F_targets.ok sc_targets (fun vs H Q E h => ?_) (fun cdv A outer s H vs Q E hr h => ?_)
  · obtain ⟨a, n, ks, xs, rfl, _⟩ := h
    rfl
  · obtain ⟨a, n, ks, xs, rfl, ha, hk, hlen, q⟩ := h
    refine ⟨_, (pss_cons (ps_if (pt_val (pe_m1 PySem.F.slot_str_endswith PySem.F.type_str_endswith mt_endswith (pe_ix ix_kdict (pe_glob rfl T.g_NUMBERS T.r_NUMBERS) (pe_ix ix_tup (pv 0) pe_int (fun _ _ => rfl)) (fun _ _ => rfl)) pe_str))
        (pss_one (ps_ret (pe_lst (pa_cons (pe_ix ix_tup (pv 0) (pe_un un_neg pe_int) (fun _ _ => rfl)) pa_nil))))
        pss_nil)
        (pss_one (ps_ret (pe_lst pa_nil)))), ?_⟩
    have hf := forms_ok hk
    obtain ⟨u, hu, ru⟩ := KDx.strB_ok T.kitn hf
    (repeat (first | refine ⟨_, rfl, ?_⟩ | refine ⟨_, _, rfl, rfl, ?_⟩ | refine ⟨rfl, ?_⟩ | refine .inl ⟨_, rfl, ?_⟩ | refine .inr ⟨_, rfl, ?_⟩ | refine ⟨.inr ⟨by decide, by decide⟩, ?_⟩ | refine ⟨⟨by decide, by decide⟩, ?_⟩ | refine ⟨⟨by decide, by decide, by decide⟩, ?_⟩ | refine ⟨.inr ⟨by omega, by omega⟩, ?_⟩ | refine ⟨(by show (0 : Int) < _; first | decide | omega), ?_⟩ | refine ⟨Nat.le_trans (Nat.le_of_ble_eq_true rfl : _ ≤ 50) (by decide), ?_⟩ | refine ⟨_, _, _, _, rfl, rfl, upd_same, rfl, ?_⟩ | refine ⟨_, _, _, _, rfl, rfl, SqL.of upd_same, rfl, ?_⟩ | refine ⟨_, _, _, _, rfl, rfl, SqT.of upd_same, rfl, ?_⟩ | refine ⟨_, _, rfl, .inl (SqL.of upd_same), ?_⟩ | refine ⟨_, _, rfl, .inr (SqT.of upd_same), ?_⟩ | (refine' ⟨_, _, _, _, rfl, rfl, _, _, _⟩; rotate_left 2; (focus (first | assumption | exact SqL.of (by assumption) | exact SqT.of (by assumption) | exact Same.seq (by assumption) (by assumption))); (focus (exact rfl))) | (refine' ⟨_, _, rfl, _, _⟩; rotate_left 1; (focus (first | exact .inl (by assumption) | exact .inl (SqL.of (by assumption)) | exact .inr (by assumption) | exact .inr (SqT.of (by assumption)))))))
    refine ⟨a, _, _, _, rfl, rfl, SqT.of ha, at0 _ _, ?_⟩
    refine ⟨_, _, _, rfl, rfl, ⟨_, _, _, T.D_NUMBERS.at_, T.D_NUMBERS.lit, hu, ru⟩, ⟨_, rfl⟩, ?_⟩
    refine ⟨_, _, rfl, rfl, _, rfl, ?_⟩
    obtain ⟨g1, g2⟩ := ends_ok _ hf
    have g1 : Txt.endswith ks "p" = decide (n = "jump" ∨ n = "below" ∨ n = "call") := g1
    rw [g1]
    refine ite2 (fun e => ?_) (fun e => ?_)
    · have e' := of_decide_eq_true e
      have g2 : 1 ≤ ks.length := g2 e'
      (repeat (first | refine ⟨_, rfl, ?_⟩ | refine ⟨_, _, rfl, rfl, ?_⟩ | refine ⟨rfl, ?_⟩ | refine .inl ⟨_, rfl, ?_⟩ | refine .inr ⟨_, rfl, ?_⟩ | refine ⟨.inr ⟨by decide, by decide⟩, ?_⟩ | refine ⟨⟨by decide, by decide⟩, ?_⟩ | refine ⟨⟨by decide, by decide, by decide⟩, ?_⟩ | refine ⟨.inr ⟨by omega, by omega⟩, ?_⟩ | refine ⟨(by show (0 : Int) < _; first | decide | omega), ?_⟩ | refine ⟨Nat.le_trans (Nat.le_of_ble_eq_true rfl : _ ≤ 50) (by decide), ?_⟩ | refine ⟨_, _, _, _, rfl, rfl, upd_same, rfl, ?_⟩ | refine ⟨_, _, _, _, rfl, rfl, SqL.of upd_same, rfl, ?_⟩ | refine ⟨_, _, _, _, rfl, rfl, SqT.of upd_same, rfl, ?_⟩ | refine ⟨_, _, rfl, .inl (SqL.of upd_same), ?_⟩ | refine ⟨_, _, rfl, .inr (SqT.of upd_same), ?_⟩ | (refine' ⟨_, _, _, _, rfl, rfl, _, _, _⟩; rotate_left 2; (focus (first | assumption | exact SqL.of (by assumption) | exact SqT.of (by assumption) | exact Same.seq (by assumption) (by assumption))); (focus (exact rfl))) | (refine' ⟨_, _, rfl, _, _⟩; rotate_left 1; (focus (first | exact .inl (by assumption) | exact .inl (SqL.of (by assumption)) | exact .inr (by assumption) | exact .inr (SqT.of (by assumption)))))))
      refine ⟨a, _, _, _, rfl, rfl, SqT.of ha, at_last (n := n) (xs := xs) (by rw [hlen]; exact g2), ?_⟩
      (repeat (first | refine ⟨_, rfl, ?_⟩ | refine ⟨_, _, rfl, rfl, ?_⟩ | refine ⟨rfl, ?_⟩ | refine .inl ⟨_, rfl, ?_⟩ | refine .inr ⟨_, rfl, ?_⟩ | refine ⟨.inr ⟨by decide, by decide⟩, ?_⟩ | refine ⟨⟨by decide, by decide⟩, ?_⟩ | refine ⟨⟨by decide, by decide, by decide⟩, ?_⟩ | refine ⟨.inr ⟨by omega, by omega⟩, ?_⟩ | refine ⟨(by show (0 : Int) < _; first | decide | omega), ?_⟩ | refine ⟨Nat.le_trans (Nat.le_of_ble_eq_true rfl : _ ≤ 50) (by decide), ?_⟩ | refine ⟨_, _, _, _, rfl, rfl, upd_same, rfl, ?_⟩ | refine ⟨_, _, _, _, rfl, rfl, SqL.of upd_same, rfl, ?_⟩ | refine ⟨_, _, _, _, rfl, rfl, SqT.of upd_same, rfl, ?_⟩ | refine ⟨_, _, rfl, .inl (SqL.of upd_same), ?_⟩ | refine ⟨_, _, rfl, .inr (SqT.of upd_same), ?_⟩ | (refine' ⟨_, _, _, _, rfl, rfl, _, _, _⟩; rotate_left 2; (focus (first | assumption | exact SqL.of (by assumption) | exact SqT.of (by assumption) | exact Same.seq (by assumption) (by assumption))); (focus (exact rfl))) | (refine' ⟨_, _, rfl, _, _⟩; rotate_left 1; (focus (first | exact .inl (by assumption) | exact .inl (SqL.of (by assumption)) | exact .inr (by assumption) | exact .inr (SqT.of (by assumption)))))))
      refine fun r hr => ?_
      have := q r hr
      unfold tgt at this
      rw [if_pos e'] at this
      exact this
    · have e' := fun z => e (decide_eq_true z)
      (repeat (first | refine ⟨_, rfl, ?_⟩ | refine ⟨_, _, rfl, rfl, ?_⟩ | refine ⟨rfl, ?_⟩ | refine .inl ⟨_, rfl, ?_⟩ | refine .inr ⟨_, rfl, ?_⟩ | refine ⟨.inr ⟨by decide, by decide⟩, ?_⟩ | refine ⟨⟨by decide, by decide⟩, ?_⟩ | refine ⟨⟨by decide, by decide, by decide⟩, ?_⟩ | refine ⟨.inr ⟨by omega, by omega⟩, ?_⟩ | refine ⟨(by show (0 : Int) < _; first | decide | omega), ?_⟩ | refine ⟨Nat.le_trans (Nat.le_of_ble_eq_true rfl : _ ≤ 50) (by decide), ?_⟩ | refine ⟨_, _, _, _, rfl, rfl, upd_same, rfl, ?_⟩ | refine ⟨_, _, _, _, rfl, rfl, SqL.of upd_same, rfl, ?_⟩ | refine ⟨_, _, _, _, rfl, rfl, SqT.of upd_same, rfl, ?_⟩ | refine ⟨_, _, rfl, .inl (SqL.of upd_same), ?_⟩ | refine ⟨_, _, rfl, .inr (SqT.of upd_same), ?_⟩ | (refine' ⟨_, _, _, _, rfl, rfl, _, _, _⟩; rotate_left 2; (focus (first | assumption | exact SqL.of (by assumption) | exact SqT.of (by assumption) | exact Same.seq (by assumption) (by assumption))); (focus (exact rfl))) | (refine' ⟨_, _, rfl, _, _⟩; rotate_left 1; (focus (first | exact .inl (by assumption) | exact .inl (SqL.of (by assumption)) | exact .inr (by assumption) | exact .inr (SqT.of (by assumption)))))))
      refine fun r hr => ?_
      have := q r hr
      unfold tgt at this
      rw [if_neg e'] at this
      exact this
end
end K26

set_option Elab.async false
set_option linter.all false
set_option maxRecDepth 100000
set_option maxHeartbeats 4000000
namespace K26
open PySem PySem.Spec PyProof.Rows L2 Lw GxR
/-! ### the law's helpers -/
def spLimits : Sp := fun vs H Q _ => ∃ n : Str, vs = [.str n] ∧ n ∈ texts33 ∧ (∀ ls, limsOf n = some ls → ∀ H', Same H H' → ∀ r, H r = none → H' r = some (.lst (ls.map V.int)) → Q (.ref r) H') ∧ (limsOf n = none → ∀ H', Same H H' → Q .non H')
def spRight (K : PySem.W.Frag) : Sp := fun vs H Q _ => ∃ v H0 L d, vs = [v] ∧ Objs H0 H L ∧ PL 2 L v d ∧ ∀ H', Same H H' → Q (.bl (insD d)) H'
section
variable {P : Program} {w : World} {K : PySem.W.Frag} {mg : Str → Option Value} {base : Heap}
theorem ok_source (T : Tx w K mg) : FnOk P w K mg base CX0 1 T.a_law_source T.d_law_source ["script", "k"] (spSource K) := by
  refine T.F_law_source.ok sc_law_source (fun vs H Q E h => ?_) (fun cdv A outer s H vs Q E hr h => ?_)
  · obtain ⟨a, ns, k, rfl, _⟩ := h
    rfl
  · obtain ⟨a, ns, k, rfl, hS, hl, hk, q⟩ := h
    refine ⟨_, (pss_cons (ps_set (i := 2) sc_law_source.nd rfl (.inl rfl) pe_int)
        (pss_cons (ps_if (pt_cmpR op_gt (pe_callB call_len_seq (by rfl) T.z_len (by decide +kernel) (pa_cons (pv 0) pa_nil)) pe_int (nomark _))
        (pss_one (ps_set (i := 2) sc_law_source.nd rfl (.inl rfl) (pe_callB call_abs (by rfl) T.z_abs (by decide +kernel) (pa_cons (pe_ix ix_list (pv 0) (pe_op op_mod (pv 1) (pe_callB call_len_seq (by rfl) T.z_len (by decide +kernel) (pa_cons (pv 0) pa_nil))) (fun _ _ => rfl)) pa_nil))))
        pss_nil)
        (pss_cons (ps_set (i := 3) sc_law_source.nd rfl (.inl rfl) (pe_op op_mod (pe_callTy call_int1 (by rfl) T.z_int (by decide +kernel) (pa_cons (pe_op op_add (pe_op op_add (pe_op op_mul (pv 2) pe_int) (pe_op op_mul (pv 1) pe_int)) pe_int) pa_nil)) pe_int))
        (pss_cons (ps_if (pt_cmpR op_lt (pv 2) (pe_op op_pow pe_int pe_int) (nomark _))
        (pss_one (ps_ret (pe_lst (pa_cons pe_int (pa_cons (pv 3) pa_nil)))))
        pss_nil)
        (pss_one (ps_ret (pe_lst (pa_cons (pv 2) (pa_cons (pv 3) pa_nil))))))))), ?_⟩
    refine ⟨.ref a, rfl, a, _, rfl, .inl hS, _, _, rfl, rfl, _, rfl, ite2 (fun e => ?_) (fun e => ?_)⟩
    · have e1 : (0 : Int) < ((ns.map V.int).length : Int) := of_decide_eq_true e
      have hm : 0 ≤ k % ((ns.map V.int).length : Int) := Int.emod_nonneg _ (by omega)
      have hm2 : k % ((ns.map V.int).length : Int) < (ns.length : Int) := by
        have := Int.emod_lt_of_pos k e1
        rw [List.length_map] at this ⊢
        exact this
      obtain ⟨z, hz⟩ := at_int hm hm2
      refine ⟨.ref a, rfl, .int k, rfl, .ref a, rfl, a, _, rfl, .inl hS, _, _, rfl, rfl, e1, a, _, _, _, rfl, rfl, hS, hz, _, rfl, ?_⟩
      have hc : 0 ≤ (if z < 0 then -z else z) := by split <;> omega
      generalize (if z < 0 then -z else z) = c at hc
      (repeat (first | refine ⟨_, rfl, ?_⟩ | refine ⟨_, _, rfl, rfl, ?_⟩ | refine ⟨rfl, ?_⟩ | refine .inl ⟨_, rfl, ?_⟩ | refine .inr ⟨_, rfl, ?_⟩ | refine ⟨.inr ⟨by decide, by decide⟩, ?_⟩ | refine ⟨⟨by decide, by decide⟩, ?_⟩ | refine ⟨⟨by decide, by decide, by decide⟩, ?_⟩ | refine ⟨.inr ⟨by omega, by omega⟩, ?_⟩ | refine ⟨(by show (0 : Int) < _; first | decide | omega), ?_⟩ | refine ⟨Nat.le_trans (Nat.le_of_ble_eq_true rfl : _ ≤ 50) (by decide), ?_⟩ | refine ⟨_, _, _, _, rfl, rfl, upd_same, rfl, ?_⟩ | refine ⟨_, _, _, _, rfl, rfl, SqL.of upd_same, rfl, ?_⟩ | refine ⟨_, _, _, _, rfl, rfl, SqT.of upd_same, rfl, ?_⟩ | refine ⟨_, _, rfl, .inl (SqL.of upd_same), ?_⟩ | refine ⟨_, _, rfl, .inr (SqT.of upd_same), ?_⟩ | (refine' ⟨_, _, _, _, rfl, rfl, _, _, _⟩; rotate_left 2; (focus (first | assumption | exact SqL.of (by assumption) | exact SqT.of (by assumption) | exact Same.seq (by assumption) (by assumption))); (focus (exact rfl))) | (refine' ⟨_, _, rfl, _, _⟩; rotate_left 1; (focus (first | exact .inl (by assumption) | exact .inl (SqL.of (by assumption)) | exact .inr (by assumption) | exact .inr (SqT.of (by assumption)))))))
      refine ite2 (fun _ => ?_) (fun _ => ?_)
      · (repeat (first | refine ⟨_, rfl, ?_⟩ | refine ⟨_, _, rfl, rfl, ?_⟩ | refine ⟨rfl, ?_⟩ | refine .inl ⟨_, rfl, ?_⟩ | refine .inr ⟨_, rfl, ?_⟩ | refine ⟨.inr ⟨by decide, by decide⟩, ?_⟩ | refine ⟨⟨by decide, by decide⟩, ?_⟩ | refine ⟨⟨by decide, by decide, by decide⟩, ?_⟩ | refine ⟨.inr ⟨by omega, by omega⟩, ?_⟩ | refine ⟨(by show (0 : Int) < _; first | decide | omega), ?_⟩ | refine ⟨Nat.le_trans (Nat.le_of_ble_eq_true rfl : _ ≤ 50) (by decide), ?_⟩ | refine ⟨_, _, _, _, rfl, rfl, upd_same, rfl, ?_⟩ | refine ⟨_, _, _, _, rfl, rfl, SqL.of upd_same, rfl, ?_⟩ | refine ⟨_, _, _, _, rfl, rfl, SqT.of upd_same, rfl, ?_⟩ | refine ⟨_, _, rfl, .inl (SqL.of upd_same), ?_⟩ | refine ⟨_, _, rfl, .inr (SqT.of upd_same), ?_⟩ | (refine' ⟨_, _, _, _, rfl, rfl, _, _, _⟩; rotate_left 2; (focus (first | assumption | exact SqL.of (by assumption) | exact SqT.of (by assumption) | exact Same.seq (by assumption) (by assumption))); (focus (exact rfl))) | (refine' ⟨_, _, rfl, _, _⟩; rotate_left 1; (focus (first | exact .inl (by assumption) | exact .inl (SqL.of (by assumption)) | exact .inr (by assumption) | exact .inr (SqT.of (by assumption)))))))
        exact fun p hp => q p _ _ hp (by omega)
      · (repeat (first | refine ⟨_, rfl, ?_⟩ | refine ⟨_, _, rfl, rfl, ?_⟩ | refine ⟨rfl, ?_⟩ | refine .inl ⟨_, rfl, ?_⟩ | refine .inr ⟨_, rfl, ?_⟩ | refine ⟨.inr ⟨by decide, by decide⟩, ?_⟩ | refine ⟨⟨by decide, by decide⟩, ?_⟩ | refine ⟨⟨by decide, by decide, by decide⟩, ?_⟩ | refine ⟨.inr ⟨by omega, by omega⟩, ?_⟩ | refine ⟨(by show (0 : Int) < _; first | decide | omega), ?_⟩ | refine ⟨Nat.le_trans (Nat.le_of_ble_eq_true rfl : _ ≤ 50) (by decide), ?_⟩ | refine ⟨_, _, _, _, rfl, rfl, upd_same, rfl, ?_⟩ | refine ⟨_, _, _, _, rfl, rfl, SqL.of upd_same, rfl, ?_⟩ | refine ⟨_, _, _, _, rfl, rfl, SqT.of upd_same, rfl, ?_⟩ | refine ⟨_, _, rfl, .inl (SqL.of upd_same), ?_⟩ | refine ⟨_, _, rfl, .inr (SqT.of upd_same), ?_⟩ | (refine' ⟨_, _, _, _, rfl, rfl, _, _, _⟩; rotate_left 2; (focus (first | assumption | exact SqL.of (by assumption) | exact SqT.of (by assumption) | exact Same.seq (by assumption) (by assumption))); (focus (exact rfl))) | (refine' ⟨_, _, rfl, _, _⟩; rotate_left 1; (focus (first | exact .inl (by assumption) | exact .inl (SqL.of (by assumption)) | exact .inr (by assumption) | exact .inr (SqT.of (by assumption)))))))
        exact fun p hp => q p _ _ hp (by omega)
    · (repeat (first | refine ⟨_, rfl, ?_⟩ | refine ⟨_, _, rfl, rfl, ?_⟩ | refine ⟨rfl, ?_⟩ | refine .inl ⟨_, rfl, ?_⟩ | refine .inr ⟨_, rfl, ?_⟩ | refine ⟨.inr ⟨by decide, by decide⟩, ?_⟩ | refine ⟨⟨by decide, by decide⟩, ?_⟩ | refine ⟨⟨by decide, by decide, by decide⟩, ?_⟩ | refine ⟨.inr ⟨by omega, by omega⟩, ?_⟩ | refine ⟨(by show (0 : Int) < _; first | decide | omega), ?_⟩ | refine ⟨Nat.le_trans (Nat.le_of_ble_eq_true rfl : _ ≤ 50) (by decide), ?_⟩ | refine ⟨_, _, _, _, rfl, rfl, upd_same, rfl, ?_⟩ | refine ⟨_, _, _, _, rfl, rfl, SqL.of upd_same, rfl, ?_⟩ | refine ⟨_, _, _, _, rfl, rfl, SqT.of upd_same, rfl, ?_⟩ | refine ⟨_, _, rfl, .inl (SqL.of upd_same), ?_⟩ | refine ⟨_, _, rfl, .inr (SqT.of upd_same), ?_⟩ | (refine' ⟨_, _, _, _, rfl, rfl, _, _, _⟩; rotate_left 2; (focus (first | assumption | exact SqL.of (by assumption) | exact SqT.of (by assumption) | exact Same.seq (by assumption) (by assumption))); (focus (exact rfl))) | (refine' ⟨_, _, rfl, _, _⟩; rotate_left 1; (focus (first | exact .inl (by assumption) | exact .inl (SqL.of (by assumption)) | exact .inr (by assumption) | exact .inr (SqT.of (by assumption)))))))
      exact fun p hp => q p _ _ hp (by omega)
theorem ok_draw (T : Tx w K mg) : FnOk P w K mg base CX0 1 T.a_law_draw T.d_law_draw ["source", "many"] spDraw := by
  refine T.F_law_draw.ok sc_law_draw (fun vs H Q E h => ?_) (fun cdv A outer s H vs Q E hr h => ?_)
  · obtain ⟨p, x, y, m, rfl, _⟩ := h
    rfl
  · obtain ⟨p, x, y, m, rfl, hp, hx, hm, hm2, q⟩ := h
    refine ⟨_, (pss_cons (ps_if (pt_cmpR op_gt (pe_ix ix_list (pv 0) pe_int (fun _ _ => rfl)) pe_int (nomark _))
        (pss_cons (ps_set (i := 2) sc_law_draw.nd rfl (.inl rfl) (pe_op op_mod (pe_callTy call_int1 (by rfl) T.z_int (by decide +kernel) (pa_cons (pe_ix ix_list (pv 0) pe_int (fun _ _ => rfl)) pa_nil)) (pv 1)))
        (pss_cons (ps_asg (pe_op op_fdiv (pe_ix ix_list (pv 0) pe_int (fun _ _ => rfl)) (pv 1)) (pg_sub (pv 0) pe_int set_list))
        (pss_one (ps_ret (pv 2)))))
        pss_nil)
        (pss_cons (ps_asg (pe_op op_mod (pe_callTy call_int1 (by rfl) T.z_int (by decide +kernel) (pa_cons (pe_op op_add (pe_op op_mul (pe_ix ix_list (pv 0) pe_int (fun _ _ => rfl)) pe_int) pe_int) pa_nil)) pe_int) (pg_sub (pv 0) pe_int set_list))
        (pss_one (ps_ret (pe_op op_mod (pe_op op_mod (pe_callTy call_int1 (by rfl) T.z_int (by decide +kernel) (pa_cons (pe_op op_add (pe_op op_mul (pe_op op_fdiv (pe_ix ix_list (pv 0) pe_int (fun _ _ => rfl)) pe_int) pe_int) (pe_op op_mul (pe_op op_mod (pe_ix ix_list (pv 0) pe_int (fun _ _ => rfl)) pe_int) pe_int)) pa_nil)) pe_int) (pv 1)))))), ?_⟩
    (repeat (first | refine ⟨_, rfl, ?_⟩ | refine ⟨_, _, rfl, rfl, ?_⟩ | refine ⟨rfl, ?_⟩ | refine .inl ⟨_, rfl, ?_⟩ | refine .inr ⟨_, rfl, ?_⟩ | refine ⟨.inr ⟨by decide, by decide⟩, ?_⟩ | refine ⟨⟨by decide, by decide⟩, ?_⟩ | refine ⟨⟨by decide, by decide, by decide⟩, ?_⟩ | refine ⟨.inr ⟨by omega, by omega⟩, ?_⟩ | refine ⟨(by show (0 : Int) < _; first | decide | omega), ?_⟩ | refine ⟨Nat.le_trans (Nat.le_of_ble_eq_true rfl : _ ≤ 50) (by decide), ?_⟩ | refine ⟨_, _, _, _, rfl, rfl, upd_same, rfl, ?_⟩ | refine ⟨_, _, _, _, rfl, rfl, SqL.of upd_same, rfl, ?_⟩ | refine ⟨_, _, _, _, rfl, rfl, SqT.of upd_same, rfl, ?_⟩ | refine ⟨_, _, rfl, .inl (SqL.of upd_same), ?_⟩ | refine ⟨_, _, rfl, .inr (SqT.of upd_same), ?_⟩ | (refine' ⟨_, _, _, _, rfl, rfl, _, _, _⟩; rotate_left 2; (focus (first | assumption | exact SqL.of (by assumption) | exact SqT.of (by assumption) | exact Same.seq (by assumption) (by assumption))); (focus (exact rfl))) | (refine' ⟨_, _, rfl, _, _⟩; rotate_left 1; (focus (first | exact .inl (by assumption) | exact .inl (SqL.of (by assumption)) | exact .inr (by assumption) | exact .inr (SqT.of (by assumption)))))))
    refine ite2 (fun e => ?_) (fun e => ?_)
    · (repeat (first | refine ⟨_, rfl, ?_⟩ | refine ⟨_, _, rfl, rfl, ?_⟩ | refine ⟨rfl, ?_⟩ | refine .inl ⟨_, rfl, ?_⟩ | refine .inr ⟨_, rfl, ?_⟩ | refine ⟨.inr ⟨by decide, by decide⟩, ?_⟩ | refine ⟨⟨by decide, by decide⟩, ?_⟩ | refine ⟨⟨by decide, by decide, by decide⟩, ?_⟩ | refine ⟨.inr ⟨by omega, by omega⟩, ?_⟩ | refine ⟨(by show (0 : Int) < _; first | decide | omega), ?_⟩ | refine ⟨Nat.le_trans (Nat.le_of_ble_eq_true rfl : _ ≤ 50) (by decide), ?_⟩ | refine ⟨_, _, _, _, rfl, rfl, upd_same, rfl, ?_⟩ | refine ⟨_, _, _, _, rfl, rfl, SqL.of upd_same, rfl, ?_⟩ | refine ⟨_, _, _, _, rfl, rfl, SqT.of upd_same, rfl, ?_⟩ | refine ⟨_, _, rfl, .inl (SqL.of upd_same), ?_⟩ | refine ⟨_, _, rfl, .inr (SqT.of upd_same), ?_⟩ | (refine' ⟨_, _, _, _, rfl, rfl, _, _, _⟩; rotate_left 2; (focus (first | assumption | exact SqL.of (by assumption) | exact SqT.of (by assumption) | exact Same.seq (by assumption) (by assumption))); (focus (exact rfl))) | (refine' ⟨_, _, rfl, _, _⟩; rotate_left 1; (focus (first | exact .inl (by assumption) | exact .inl (SqL.of (by assumption)) | exact .inr (by assumption) | exact .inr (SqT.of (by assumption)))))))
      refine ⟨⟨hm, by omega⟩, ?_⟩
      (repeat (first | refine ⟨_, rfl, ?_⟩ | refine ⟨_, _, rfl, rfl, ?_⟩ | refine ⟨rfl, ?_⟩ | refine .inl ⟨_, rfl, ?_⟩ | refine .inr ⟨_, rfl, ?_⟩ | refine ⟨.inr ⟨by decide, by decide⟩, ?_⟩ | refine ⟨⟨by decide, by decide⟩, ?_⟩ | refine ⟨⟨by decide, by decide, by decide⟩, ?_⟩ | refine ⟨.inr ⟨by omega, by omega⟩, ?_⟩ | refine ⟨(by show (0 : Int) < _; first | decide | omega), ?_⟩ | refine ⟨Nat.le_trans (Nat.le_of_ble_eq_true rfl : _ ≤ 50) (by decide), ?_⟩ | refine ⟨_, _, _, _, rfl, rfl, upd_same, rfl, ?_⟩ | refine ⟨_, _, _, _, rfl, rfl, SqL.of upd_same, rfl, ?_⟩ | refine ⟨_, _, _, _, rfl, rfl, SqT.of upd_same, rfl, ?_⟩ | refine ⟨_, _, rfl, .inl (SqL.of upd_same), ?_⟩ | refine ⟨_, _, rfl, .inr (SqT.of upd_same), ?_⟩ | (refine' ⟨_, _, _, _, rfl, rfl, _, _, _⟩; rotate_left 2; (focus (first | assumption | exact SqL.of (by assumption) | exact SqT.of (by assumption) | exact Same.seq (by assumption) (by assumption))); (focus (exact rfl))) | (refine' ⟨_, _, rfl, _, _⟩; rotate_left 1; (focus (first | exact .inl (by assumption) | exact .inl (SqL.of (by assumption)) | exact .inr (by assumption) | exact .inr (SqT.of (by assumption)))))))
      exact q _ _ _ (Int.emod_nonneg _ (by omega)) (Int.emod_lt_of_pos _ hm) (Int.ediv_nonneg hx (by omega))
    · (repeat (first | refine ⟨_, rfl, ?_⟩ | refine ⟨_, _, rfl, rfl, ?_⟩ | refine ⟨rfl, ?_⟩ | refine .inl ⟨_, rfl, ?_⟩ | refine .inr ⟨_, rfl, ?_⟩ | refine ⟨.inr ⟨by decide, by decide⟩, ?_⟩ | refine ⟨⟨by decide, by decide⟩, ?_⟩ | refine ⟨⟨by decide, by decide, by decide⟩, ?_⟩ | refine ⟨.inr ⟨by omega, by omega⟩, ?_⟩ | refine ⟨(by show (0 : Int) < _; first | decide | omega), ?_⟩ | refine ⟨Nat.le_trans (Nat.le_of_ble_eq_true rfl : _ ≤ 50) (by decide), ?_⟩ | refine ⟨_, _, _, _, rfl, rfl, upd_same, rfl, ?_⟩ | refine ⟨_, _, _, _, rfl, rfl, SqL.of upd_same, rfl, ?_⟩ | refine ⟨_, _, _, _, rfl, rfl, SqT.of upd_same, rfl, ?_⟩ | refine ⟨_, _, rfl, .inl (SqL.of upd_same), ?_⟩ | refine ⟨_, _, rfl, .inr (SqT.of upd_same), ?_⟩ | (refine' ⟨_, _, _, _, rfl, rfl, _, _, _⟩; rotate_left 2; (focus (first | assumption | exact SqL.of (by assumption) | exact SqT.of (by assumption) | exact Same.seq (by assumption) (by assumption))); (focus (exact rfl))) | (refine' ⟨_, _, rfl, _, _⟩; rotate_left 1; (focus (first | exact .inl (by assumption) | exact .inl (SqL.of (by assumption)) | exact .inr (by assumption) | exact .inr (SqT.of (by assumption)))))))
      exact q _ _ _ (Int.emod_nonneg _ (by omega)) (Int.emod_lt_of_pos _ hm) hx
theorem lims_len (n : Str) (ls : List Int) (h : limsOf n = some ls) : ls.length ≤ 3 := by
  unfold limsOf at h
  cases e : kindsOf n with
  | none => rw [e] at h; cases h
  | some ks =>
    rw [e] at h
    cases h
    obtain ⟨h1, h2⟩ := kinds_len _ (forms_ok e)
    rw [List.length_map, ← h2]
    exact h1
theorem lims_key : (texts33.all fun z => inV (.str z) (KDx.rrr12.map V.str) || inV (.str z) [.str "down", .str "up"] || inV (.str z) [.str "load", .str "store"] || decide (V.str z = .str "set") || decide (V.str z = .str "move") || decide (V.str z = .str "carry") ||
    inV (.str z) [.str "jump", .str "call"] || decide (V.str z = .str "below") || inV (.str z) [.str "clear", .str "ret", .str "halt"] || decide (limsOf z = none)) = true := by decide +kernel
theorem ok_limits (T : Tx w K mg) : FnOk P w K mg base CX0 1 T.a_law_limits T.d_law_limits ["name"] spLimits := by
  refine T.F_law_limits.ok sc_law_limits (fun vs H Q E h => ?_) (fun cdv A outer s H vs Q E hr h => ?_)
  · obtain ⟨n, rfl, _⟩ := h
    rfl
  · obtain ⟨n, rfl, hn, q1, q2⟩ := h
    refine ⟨_, (pss_cons (ps_if (pt_cmpR op_in_seq (pv 0) (pe_tup (pa_cons pe_str (pa_cons pe_str (pa_cons pe_str (pa_cons pe_str (pa_cons pe_str (pa_cons pe_str (pa_cons pe_str (pa_cons pe_str (pa_cons pe_str (pa_cons pe_str (pa_cons pe_str (pa_cons pe_str pa_nil))))))))))))) (by rfl))
        (pss_one (ps_ret (pe_lst (pa_cons pe_int (pa_cons pe_int (pa_cons pe_int pa_nil))))))
        pss_nil)
        (pss_cons (ps_if (pt_cmpR op_in_seq (pv 0) (pe_tup (pa_cons pe_str (pa_cons pe_str pa_nil))) (by rfl))
        (pss_one (ps_ret (pe_lst (pa_cons pe_int (pa_cons pe_int (pa_cons pe_int pa_nil))))))
        pss_nil)
        (pss_cons (ps_if (pt_cmpR op_in_seq (pv 0) (pe_tup (pa_cons pe_str (pa_cons pe_str pa_nil))) (by rfl))
        (pss_one (ps_ret (pe_lst (pa_cons pe_int (pa_cons pe_int (pa_cons pe_int pa_nil))))))
        pss_nil)
        (pss_cons (ps_if (pt_cmpR op_eq (pv 0) pe_str (nomark _))
        (pss_one (ps_ret (pe_lst (pa_cons pe_int (pa_cons pe_int pa_nil)))))
        pss_nil)
        (pss_cons (ps_if (pt_cmpR op_eq (pv 0) pe_str (nomark _))
        (pss_one (ps_ret (pe_lst (pa_cons pe_int (pa_cons pe_int pa_nil)))))
        pss_nil)
        (pss_cons (ps_if (pt_cmpR op_eq (pv 0) pe_str (nomark _))
        (pss_one (ps_ret (pe_lst (pa_cons pe_int pa_nil))))
        pss_nil)
        (pss_cons (ps_if (pt_cmpR op_in_seq (pv 0) (pe_tup (pa_cons pe_str (pa_cons pe_str pa_nil))) (by rfl))
        (pss_one (ps_ret (pe_lst (pa_cons pe_int pa_nil))))
        pss_nil)
        (pss_cons (ps_if (pt_cmpR op_eq (pv 0) pe_str (nomark _))
        (pss_one (ps_ret (pe_lst (pa_cons pe_int (pa_cons pe_int (pa_cons pe_int pa_nil))))))
        pss_nil)
        (pss_cons (ps_if (pt_cmpR op_in_seq (pv 0) (pe_tup (pa_cons pe_str (pa_cons pe_str (pa_cons pe_str pa_nil)))) (by rfl))
        (pss_one (ps_ret (pe_lst pa_nil)))
        pss_nil)
        (pss_one (ps_ret pe_non))))))))))), ?_⟩
    have fin : ∀ ls, limsOf n = some ls → ∀ H', Same H H' → ∀ r, H' r = none → Q (.ref r) (upd H' r (.lst (ls.map V.int))) := fun ls e H' sm r hr => q1 ls e _ (sm.trans (same_upd hr)) r (sm.free hr) upd_same
    have tin : ∀ (l : List Str) (ls : List Int), inV (.str n) (l.map V.str) = true → (texts33.all fun z => !inV (.str z) (l.map V.str) || decide (limsOf z = some ls)) = true → limsOf n = some ls := fun l ls e h => by
      have := List.all_eq_true.mp h n hn
      rw [e] at this
      exact of_decide_eq_true (by simpa using this)
    have teq : ∀ (z : Str) (ls : List Int), V.str n = V.str z → limsOf z = some ls → limsOf n = some ls := fun z ls e h => by cases e; exact h
    (repeat (first | refine ⟨_, rfl, ?_⟩ | refine ⟨_, _, rfl, rfl, ?_⟩ | refine ⟨rfl, ?_⟩ | refine .inl ⟨_, rfl, ?_⟩ | refine .inr ⟨_, rfl, ?_⟩ | refine ⟨.inr ⟨by decide, by decide⟩, ?_⟩ | refine ⟨⟨by decide, by decide⟩, ?_⟩ | refine ⟨⟨by decide, by decide, by decide⟩, ?_⟩ | refine ⟨.inr ⟨by omega, by omega⟩, ?_⟩ | refine ⟨(by show (0 : Int) < _; first | decide | omega), ?_⟩ | refine ⟨Nat.le_trans (Nat.le_of_ble_eq_true rfl : _ ≤ 50) (by decide), ?_⟩ | refine ⟨_, _, _, _, rfl, rfl, upd_same, rfl, ?_⟩ | refine ⟨_, _, _, _, rfl, rfl, SqL.of upd_same, rfl, ?_⟩ | refine ⟨_, _, _, _, rfl, rfl, SqT.of upd_same, rfl, ?_⟩ | refine ⟨_, _, rfl, .inl (SqL.of upd_same), ?_⟩ | refine ⟨_, _, rfl, .inr (SqT.of upd_same), ?_⟩ | (refine' ⟨_, _, _, _, rfl, rfl, _, _, _⟩; rotate_left 2; (focus (first | assumption | exact SqL.of (by assumption) | exact SqT.of (by assumption) | exact Same.seq (by assumption) (by assumption))); (focus (exact rfl))) | (refine' ⟨_, _, rfl, _, _⟩; rotate_left 1; (focus (first | exact .inl (by assumption) | exact .inl (SqL.of (by assumption)) | exact .inr (by assumption) | exact .inr (SqT.of (by assumption)))))))
    refine fun p1 hp1 => ⟨p1, _, rfl, .inr (SqT.of upd_same), rfl, by decide +kernel, _, rfl, ite2 (fun e => ?_) (fun e1 => ?_)⟩
    · have := tin KDx.rrr12 [15, 15, 15] e (by decide +kernel)
      (repeat (first | refine ⟨_, rfl, ?_⟩ | refine ⟨_, _, rfl, rfl, ?_⟩ | refine ⟨rfl, ?_⟩ | refine .inl ⟨_, rfl, ?_⟩ | refine .inr ⟨_, rfl, ?_⟩ | refine ⟨.inr ⟨by decide, by decide⟩, ?_⟩ | refine ⟨⟨by decide, by decide⟩, ?_⟩ | refine ⟨⟨by decide, by decide, by decide⟩, ?_⟩ | refine ⟨.inr ⟨by omega, by omega⟩, ?_⟩ | refine ⟨(by show (0 : Int) < _; first | decide | omega), ?_⟩ | refine ⟨Nat.le_trans (Nat.le_of_ble_eq_true rfl : _ ≤ 50) (by decide), ?_⟩ | refine ⟨_, _, _, _, rfl, rfl, upd_same, rfl, ?_⟩ | refine ⟨_, _, _, _, rfl, rfl, SqL.of upd_same, rfl, ?_⟩ | refine ⟨_, _, _, _, rfl, rfl, SqT.of upd_same, rfl, ?_⟩ | refine ⟨_, _, rfl, .inl (SqL.of upd_same), ?_⟩ | refine ⟨_, _, rfl, .inr (SqT.of upd_same), ?_⟩ | (refine' ⟨_, _, _, _, rfl, rfl, _, _, _⟩; rotate_left 2; (focus (first | assumption | exact SqL.of (by assumption) | exact SqT.of (by assumption) | exact Same.seq (by assumption) (by assumption))); (focus (exact rfl))) | (refine' ⟨_, _, rfl, _, _⟩; rotate_left 1; (focus (first | exact .inl (by assumption) | exact .inl (SqL.of (by assumption)) | exact .inr (by assumption) | exact .inr (SqT.of (by assumption)))))))
      exact fun r hr => fin _ this _ (same_upd hp1) r hr
    have s1 := same_upd (o := .tup (KDx.rrr12.map V.str)) hp1
    (repeat (first | refine ⟨_, rfl, ?_⟩ | refine ⟨_, _, rfl, rfl, ?_⟩ | refine ⟨rfl, ?_⟩ | refine .inl ⟨_, rfl, ?_⟩ | refine .inr ⟨_, rfl, ?_⟩ | refine ⟨.inr ⟨by decide, by decide⟩, ?_⟩ | refine ⟨⟨by decide, by decide⟩, ?_⟩ | refine ⟨⟨by decide, by decide, by decide⟩, ?_⟩ | refine ⟨.inr ⟨by omega, by omega⟩, ?_⟩ | refine ⟨(by show (0 : Int) < _; first | decide | omega), ?_⟩ | refine ⟨Nat.le_trans (Nat.le_of_ble_eq_true rfl : _ ≤ 50) (by decide), ?_⟩ | refine ⟨_, _, _, _, rfl, rfl, upd_same, rfl, ?_⟩ | refine ⟨_, _, _, _, rfl, rfl, SqL.of upd_same, rfl, ?_⟩ | refine ⟨_, _, _, _, rfl, rfl, SqT.of upd_same, rfl, ?_⟩ | refine ⟨_, _, rfl, .inl (SqL.of upd_same), ?_⟩ | refine ⟨_, _, rfl, .inr (SqT.of upd_same), ?_⟩ | (refine' ⟨_, _, _, _, rfl, rfl, _, _, _⟩; rotate_left 2; (focus (first | assumption | exact SqL.of (by assumption) | exact SqT.of (by assumption) | exact Same.seq (by assumption) (by assumption))); (focus (exact rfl))) | (refine' ⟨_, _, rfl, _, _⟩; rotate_left 1; (focus (first | exact .inl (by assumption) | exact .inl (SqL.of (by assumption)) | exact .inr (by assumption) | exact .inr (SqT.of (by assumption)))))))
    refine fun p2 hp2 => ⟨p2, _, rfl, .inr (SqT.of upd_same), rfl, by decide +kernel, _, rfl, ite2 (fun e => ?_) (fun e2 => ?_)⟩
    · have := tin ["down", "up"] [15, 15, 15] e (by decide +kernel)
      (repeat (first | refine ⟨_, rfl, ?_⟩ | refine ⟨_, _, rfl, rfl, ?_⟩ | refine ⟨rfl, ?_⟩ | refine .inl ⟨_, rfl, ?_⟩ | refine .inr ⟨_, rfl, ?_⟩ | refine ⟨.inr ⟨by decide, by decide⟩, ?_⟩ | refine ⟨⟨by decide, by decide⟩, ?_⟩ | refine ⟨⟨by decide, by decide, by decide⟩, ?_⟩ | refine ⟨.inr ⟨by omega, by omega⟩, ?_⟩ | refine ⟨(by show (0 : Int) < _; first | decide | omega), ?_⟩ | refine ⟨Nat.le_trans (Nat.le_of_ble_eq_true rfl : _ ≤ 50) (by decide), ?_⟩ | refine ⟨_, _, _, _, rfl, rfl, upd_same, rfl, ?_⟩ | refine ⟨_, _, _, _, rfl, rfl, SqL.of upd_same, rfl, ?_⟩ | refine ⟨_, _, _, _, rfl, rfl, SqT.of upd_same, rfl, ?_⟩ | refine ⟨_, _, rfl, .inl (SqL.of upd_same), ?_⟩ | refine ⟨_, _, rfl, .inr (SqT.of upd_same), ?_⟩ | (refine' ⟨_, _, _, _, rfl, rfl, _, _, _⟩; rotate_left 2; (focus (first | assumption | exact SqL.of (by assumption) | exact SqT.of (by assumption) | exact Same.seq (by assumption) (by assumption))); (focus (exact rfl))) | (refine' ⟨_, _, rfl, _, _⟩; rotate_left 1; (focus (first | exact .inl (by assumption) | exact .inl (SqL.of (by assumption)) | exact .inr (by assumption) | exact .inr (SqT.of (by assumption)))))))
      exact fun r hr => fin _ this _ (s1.trans (same_upd hp2)) r hr
    have s2 := s1.trans (same_upd (o := .tup ((["down", "up"] : List Str).map V.str)) hp2)
    (repeat (first | refine ⟨_, rfl, ?_⟩ | refine ⟨_, _, rfl, rfl, ?_⟩ | refine ⟨rfl, ?_⟩ | refine .inl ⟨_, rfl, ?_⟩ | refine .inr ⟨_, rfl, ?_⟩ | refine ⟨.inr ⟨by decide, by decide⟩, ?_⟩ | refine ⟨⟨by decide, by decide⟩, ?_⟩ | refine ⟨⟨by decide, by decide, by decide⟩, ?_⟩ | refine ⟨.inr ⟨by omega, by omega⟩, ?_⟩ | refine ⟨(by show (0 : Int) < _; first | decide | omega), ?_⟩ | refine ⟨Nat.le_trans (Nat.le_of_ble_eq_true rfl : _ ≤ 50) (by decide), ?_⟩ | refine ⟨_, _, _, _, rfl, rfl, upd_same, rfl, ?_⟩ | refine ⟨_, _, _, _, rfl, rfl, SqL.of upd_same, rfl, ?_⟩ | refine ⟨_, _, _, _, rfl, rfl, SqT.of upd_same, rfl, ?_⟩ | refine ⟨_, _, rfl, .inl (SqL.of upd_same), ?_⟩ | refine ⟨_, _, rfl, .inr (SqT.of upd_same), ?_⟩ | (refine' ⟨_, _, _, _, rfl, rfl, _, _, _⟩; rotate_left 2; (focus (first | assumption | exact SqL.of (by assumption) | exact SqT.of (by assumption) | exact Same.seq (by assumption) (by assumption))); (focus (exact rfl))) | (refine' ⟨_, _, rfl, _, _⟩; rotate_left 1; (focus (first | exact .inl (by assumption) | exact .inl (SqL.of (by assumption)) | exact .inr (by assumption) | exact .inr (SqT.of (by assumption)))))))
    refine fun p3 hp3 => ⟨p3, _, rfl, .inr (SqT.of upd_same), rfl, by decide +kernel, _, rfl, ite2 (fun e => ?_) (fun e3 => ?_)⟩
    · have := tin ["load", "store"] [15, 15, 4095] e (by decide +kernel)
      (repeat (first | refine ⟨_, rfl, ?_⟩ | refine ⟨_, _, rfl, rfl, ?_⟩ | refine ⟨rfl, ?_⟩ | refine .inl ⟨_, rfl, ?_⟩ | refine .inr ⟨_, rfl, ?_⟩ | refine ⟨.inr ⟨by decide, by decide⟩, ?_⟩ | refine ⟨⟨by decide, by decide⟩, ?_⟩ | refine ⟨⟨by decide, by decide, by decide⟩, ?_⟩ | refine ⟨.inr ⟨by omega, by omega⟩, ?_⟩ | refine ⟨(by show (0 : Int) < _; first | decide | omega), ?_⟩ | refine ⟨Nat.le_trans (Nat.le_of_ble_eq_true rfl : _ ≤ 50) (by decide), ?_⟩ | refine ⟨_, _, _, _, rfl, rfl, upd_same, rfl, ?_⟩ | refine ⟨_, _, _, _, rfl, rfl, SqL.of upd_same, rfl, ?_⟩ | refine ⟨_, _, _, _, rfl, rfl, SqT.of upd_same, rfl, ?_⟩ | refine ⟨_, _, rfl, .inl (SqL.of upd_same), ?_⟩ | refine ⟨_, _, rfl, .inr (SqT.of upd_same), ?_⟩ | (refine' ⟨_, _, _, _, rfl, rfl, _, _, _⟩; rotate_left 2; (focus (first | assumption | exact SqL.of (by assumption) | exact SqT.of (by assumption) | exact Same.seq (by assumption) (by assumption))); (focus (exact rfl))) | (refine' ⟨_, _, rfl, _, _⟩; rotate_left 1; (focus (first | exact .inl (by assumption) | exact .inl (SqL.of (by assumption)) | exact .inr (by assumption) | exact .inr (SqT.of (by assumption)))))))
      exact fun r hr => fin _ this _ (s2.trans (same_upd hp3)) r hr
    have s3 := s2.trans (same_upd (o := .tup ((["load", "store"] : List Str).map V.str)) hp3)
    (repeat (first | refine ⟨_, rfl, ?_⟩ | refine ⟨_, _, rfl, rfl, ?_⟩ | refine ⟨rfl, ?_⟩ | refine .inl ⟨_, rfl, ?_⟩ | refine .inr ⟨_, rfl, ?_⟩ | refine ⟨.inr ⟨by decide, by decide⟩, ?_⟩ | refine ⟨⟨by decide, by decide⟩, ?_⟩ | refine ⟨⟨by decide, by decide, by decide⟩, ?_⟩ | refine ⟨.inr ⟨by omega, by omega⟩, ?_⟩ | refine ⟨(by show (0 : Int) < _; first | decide | omega), ?_⟩ | refine ⟨Nat.le_trans (Nat.le_of_ble_eq_true rfl : _ ≤ 50) (by decide), ?_⟩ | refine ⟨_, _, _, _, rfl, rfl, upd_same, rfl, ?_⟩ | refine ⟨_, _, _, _, rfl, rfl, SqL.of upd_same, rfl, ?_⟩ | refine ⟨_, _, _, _, rfl, rfl, SqT.of upd_same, rfl, ?_⟩ | refine ⟨_, _, rfl, .inl (SqL.of upd_same), ?_⟩ | refine ⟨_, _, rfl, .inr (SqT.of upd_same), ?_⟩ | (refine' ⟨_, _, _, _, rfl, rfl, _, _, _⟩; rotate_left 2; (focus (first | assumption | exact SqL.of (by assumption) | exact SqT.of (by assumption) | exact Same.seq (by assumption) (by assumption))); (focus (exact rfl))) | (refine' ⟨_, _, rfl, _, _⟩; rotate_left 1; (focus (first | exact .inl (by assumption) | exact .inl (SqL.of (by assumption)) | exact .inr (by assumption) | exact .inr (SqT.of (by assumption)))))))
    refine ite2 (fun e => ?_) (fun e4 => ?_)
    · have := teq "set" [15, 65535] (of_decide_eq_true e) (by decide +kernel)
      (repeat (first | refine ⟨_, rfl, ?_⟩ | refine ⟨_, _, rfl, rfl, ?_⟩ | refine ⟨rfl, ?_⟩ | refine .inl ⟨_, rfl, ?_⟩ | refine .inr ⟨_, rfl, ?_⟩ | refine ⟨.inr ⟨by decide, by decide⟩, ?_⟩ | refine ⟨⟨by decide, by decide⟩, ?_⟩ | refine ⟨⟨by decide, by decide, by decide⟩, ?_⟩ | refine ⟨.inr ⟨by omega, by omega⟩, ?_⟩ | refine ⟨(by show (0 : Int) < _; first | decide | omega), ?_⟩ | refine ⟨Nat.le_trans (Nat.le_of_ble_eq_true rfl : _ ≤ 50) (by decide), ?_⟩ | refine ⟨_, _, _, _, rfl, rfl, upd_same, rfl, ?_⟩ | refine ⟨_, _, _, _, rfl, rfl, SqL.of upd_same, rfl, ?_⟩ | refine ⟨_, _, _, _, rfl, rfl, SqT.of upd_same, rfl, ?_⟩ | refine ⟨_, _, rfl, .inl (SqL.of upd_same), ?_⟩ | refine ⟨_, _, rfl, .inr (SqT.of upd_same), ?_⟩ | (refine' ⟨_, _, _, _, rfl, rfl, _, _, _⟩; rotate_left 2; (focus (first | assumption | exact SqL.of (by assumption) | exact SqT.of (by assumption) | exact Same.seq (by assumption) (by assumption))); (focus (exact rfl))) | (refine' ⟨_, _, rfl, _, _⟩; rotate_left 1; (focus (first | exact .inl (by assumption) | exact .inl (SqL.of (by assumption)) | exact .inr (by assumption) | exact .inr (SqT.of (by assumption)))))))
      exact fun r hr => fin _ this _ s3 r hr
    (repeat (first | refine ⟨_, rfl, ?_⟩ | refine ⟨_, _, rfl, rfl, ?_⟩ | refine ⟨rfl, ?_⟩ | refine .inl ⟨_, rfl, ?_⟩ | refine .inr ⟨_, rfl, ?_⟩ | refine ⟨.inr ⟨by decide, by decide⟩, ?_⟩ | refine ⟨⟨by decide, by decide⟩, ?_⟩ | refine ⟨⟨by decide, by decide, by decide⟩, ?_⟩ | refine ⟨.inr ⟨by omega, by omega⟩, ?_⟩ | refine ⟨(by show (0 : Int) < _; first | decide | omega), ?_⟩ | refine ⟨Nat.le_trans (Nat.le_of_ble_eq_true rfl : _ ≤ 50) (by decide), ?_⟩ | refine ⟨_, _, _, _, rfl, rfl, upd_same, rfl, ?_⟩ | refine ⟨_, _, _, _, rfl, rfl, SqL.of upd_same, rfl, ?_⟩ | refine ⟨_, _, _, _, rfl, rfl, SqT.of upd_same, rfl, ?_⟩ | refine ⟨_, _, rfl, .inl (SqL.of upd_same), ?_⟩ | refine ⟨_, _, rfl, .inr (SqT.of upd_same), ?_⟩ | (refine' ⟨_, _, _, _, rfl, rfl, _, _, _⟩; rotate_left 2; (focus (first | assumption | exact SqL.of (by assumption) | exact SqT.of (by assumption) | exact Same.seq (by assumption) (by assumption))); (focus (exact rfl))) | (refine' ⟨_, _, rfl, _, _⟩; rotate_left 1; (focus (first | exact .inl (by assumption) | exact .inl (SqL.of (by assumption)) | exact .inr (by assumption) | exact .inr (SqT.of (by assumption)))))))
    refine ite2 (fun e => ?_) (fun e5 => ?_)
    · have := teq "move" [15, 15] (of_decide_eq_true e) (by decide +kernel)
      (repeat (first | refine ⟨_, rfl, ?_⟩ | refine ⟨_, _, rfl, rfl, ?_⟩ | refine ⟨rfl, ?_⟩ | refine .inl ⟨_, rfl, ?_⟩ | refine .inr ⟨_, rfl, ?_⟩ | refine ⟨.inr ⟨by decide, by decide⟩, ?_⟩ | refine ⟨⟨by decide, by decide⟩, ?_⟩ | refine ⟨⟨by decide, by decide, by decide⟩, ?_⟩ | refine ⟨.inr ⟨by omega, by omega⟩, ?_⟩ | refine ⟨(by show (0 : Int) < _; first | decide | omega), ?_⟩ | refine ⟨Nat.le_trans (Nat.le_of_ble_eq_true rfl : _ ≤ 50) (by decide), ?_⟩ | refine ⟨_, _, _, _, rfl, rfl, upd_same, rfl, ?_⟩ | refine ⟨_, _, _, _, rfl, rfl, SqL.of upd_same, rfl, ?_⟩ | refine ⟨_, _, _, _, rfl, rfl, SqT.of upd_same, rfl, ?_⟩ | refine ⟨_, _, rfl, .inl (SqL.of upd_same), ?_⟩ | refine ⟨_, _, rfl, .inr (SqT.of upd_same), ?_⟩ | (refine' ⟨_, _, _, _, rfl, rfl, _, _, _⟩; rotate_left 2; (focus (first | assumption | exact SqL.of (by assumption) | exact SqT.of (by assumption) | exact Same.seq (by assumption) (by assumption))); (focus (exact rfl))) | (refine' ⟨_, _, rfl, _, _⟩; rotate_left 1; (focus (first | exact .inl (by assumption) | exact .inl (SqL.of (by assumption)) | exact .inr (by assumption) | exact .inr (SqT.of (by assumption)))))))
      exact fun r hr => fin _ this _ s3 r hr
    (repeat (first | refine ⟨_, rfl, ?_⟩ | refine ⟨_, _, rfl, rfl, ?_⟩ | refine ⟨rfl, ?_⟩ | refine .inl ⟨_, rfl, ?_⟩ | refine .inr ⟨_, rfl, ?_⟩ | refine ⟨.inr ⟨by decide, by decide⟩, ?_⟩ | refine ⟨⟨by decide, by decide⟩, ?_⟩ | refine ⟨⟨by decide, by decide, by decide⟩, ?_⟩ | refine ⟨.inr ⟨by omega, by omega⟩, ?_⟩ | refine ⟨(by show (0 : Int) < _; first | decide | omega), ?_⟩ | refine ⟨Nat.le_trans (Nat.le_of_ble_eq_true rfl : _ ≤ 50) (by decide), ?_⟩ | refine ⟨_, _, _, _, rfl, rfl, upd_same, rfl, ?_⟩ | refine ⟨_, _, _, _, rfl, rfl, SqL.of upd_same, rfl, ?_⟩ | refine ⟨_, _, _, _, rfl, rfl, SqT.of upd_same, rfl, ?_⟩ | refine ⟨_, _, rfl, .inl (SqL.of upd_same), ?_⟩ | refine ⟨_, _, rfl, .inr (SqT.of upd_same), ?_⟩ | (refine' ⟨_, _, _, _, rfl, rfl, _, _, _⟩; rotate_left 2; (focus (first | assumption | exact SqL.of (by assumption) | exact SqT.of (by assumption) | exact Same.seq (by assumption) (by assumption))); (focus (exact rfl))) | (refine' ⟨_, _, rfl, _, _⟩; rotate_left 1; (focus (first | exact .inl (by assumption) | exact .inl (SqL.of (by assumption)) | exact .inr (by assumption) | exact .inr (SqT.of (by assumption)))))))
    refine ite2 (fun e => ?_) (fun e6 => ?_)
    · have := teq "carry" [15] (of_decide_eq_true e) (by decide +kernel)
      (repeat (first | refine ⟨_, rfl, ?_⟩ | refine ⟨_, _, rfl, rfl, ?_⟩ | refine ⟨rfl, ?_⟩ | refine .inl ⟨_, rfl, ?_⟩ | refine .inr ⟨_, rfl, ?_⟩ | refine ⟨.inr ⟨by decide, by decide⟩, ?_⟩ | refine ⟨⟨by decide, by decide⟩, ?_⟩ | refine ⟨⟨by decide, by decide, by decide⟩, ?_⟩ | refine ⟨.inr ⟨by omega, by omega⟩, ?_⟩ | refine ⟨(by show (0 : Int) < _; first | decide | omega), ?_⟩ | refine ⟨Nat.le_trans (Nat.le_of_ble_eq_true rfl : _ ≤ 50) (by decide), ?_⟩ | refine ⟨_, _, _, _, rfl, rfl, upd_same, rfl, ?_⟩ | refine ⟨_, _, _, _, rfl, rfl, SqL.of upd_same, rfl, ?_⟩ | refine ⟨_, _, _, _, rfl, rfl, SqT.of upd_same, rfl, ?_⟩ | refine ⟨_, _, rfl, .inl (SqL.of upd_same), ?_⟩ | refine ⟨_, _, rfl, .inr (SqT.of upd_same), ?_⟩ | (refine' ⟨_, _, _, _, rfl, rfl, _, _, _⟩; rotate_left 2; (focus (first | assumption | exact SqL.of (by assumption) | exact SqT.of (by assumption) | exact Same.seq (by assumption) (by assumption))); (focus (exact rfl))) | (refine' ⟨_, _, rfl, _, _⟩; rotate_left 1; (focus (first | exact .inl (by assumption) | exact .inl (SqL.of (by assumption)) | exact .inr (by assumption) | exact .inr (SqT.of (by assumption)))))))
      exact fun r hr => fin _ this _ s3 r hr
    (repeat (first | refine ⟨_, rfl, ?_⟩ | refine ⟨_, _, rfl, rfl, ?_⟩ | refine ⟨rfl, ?_⟩ | refine .inl ⟨_, rfl, ?_⟩ | refine .inr ⟨_, rfl, ?_⟩ | refine ⟨.inr ⟨by decide, by decide⟩, ?_⟩ | refine ⟨⟨by decide, by decide⟩, ?_⟩ | refine ⟨⟨by decide, by decide, by decide⟩, ?_⟩ | refine ⟨.inr ⟨by omega, by omega⟩, ?_⟩ | refine ⟨(by show (0 : Int) < _; first | decide | omega), ?_⟩ | refine ⟨Nat.le_trans (Nat.le_of_ble_eq_true rfl : _ ≤ 50) (by decide), ?_⟩ | refine ⟨_, _, _, _, rfl, rfl, upd_same, rfl, ?_⟩ | refine ⟨_, _, _, _, rfl, rfl, SqL.of upd_same, rfl, ?_⟩ | refine ⟨_, _, _, _, rfl, rfl, SqT.of upd_same, rfl, ?_⟩ | refine ⟨_, _, rfl, .inl (SqL.of upd_same), ?_⟩ | refine ⟨_, _, rfl, .inr (SqT.of upd_same), ?_⟩ | (refine' ⟨_, _, _, _, rfl, rfl, _, _, _⟩; rotate_left 2; (focus (first | assumption | exact SqL.of (by assumption) | exact SqT.of (by assumption) | exact Same.seq (by assumption) (by assumption))); (focus (exact rfl))) | (refine' ⟨_, _, rfl, _, _⟩; rotate_left 1; (focus (first | exact .inl (by assumption) | exact .inl (SqL.of (by assumption)) | exact .inr (by assumption) | exact .inr (SqT.of (by assumption)))))))
    refine fun p4 hp4 => ⟨p4, _, rfl, .inr (SqT.of upd_same), rfl, by decide +kernel, _, rfl, ite2 (fun e => ?_) (fun e7 => ?_)⟩
    · have := tin ["jump", "call"] [19999] e (by decide +kernel)
      (repeat (first | refine ⟨_, rfl, ?_⟩ | refine ⟨_, _, rfl, rfl, ?_⟩ | refine ⟨rfl, ?_⟩ | refine .inl ⟨_, rfl, ?_⟩ | refine .inr ⟨_, rfl, ?_⟩ | refine ⟨.inr ⟨by decide, by decide⟩, ?_⟩ | refine ⟨⟨by decide, by decide⟩, ?_⟩ | refine ⟨⟨by decide, by decide, by decide⟩, ?_⟩ | refine ⟨.inr ⟨by omega, by omega⟩, ?_⟩ | refine ⟨(by show (0 : Int) < _; first | decide | omega), ?_⟩ | refine ⟨Nat.le_trans (Nat.le_of_ble_eq_true rfl : _ ≤ 50) (by decide), ?_⟩ | refine ⟨_, _, _, _, rfl, rfl, upd_same, rfl, ?_⟩ | refine ⟨_, _, _, _, rfl, rfl, SqL.of upd_same, rfl, ?_⟩ | refine ⟨_, _, _, _, rfl, rfl, SqT.of upd_same, rfl, ?_⟩ | refine ⟨_, _, rfl, .inl (SqL.of upd_same), ?_⟩ | refine ⟨_, _, rfl, .inr (SqT.of upd_same), ?_⟩ | (refine' ⟨_, _, _, _, rfl, rfl, _, _, _⟩; rotate_left 2; (focus (first | assumption | exact SqL.of (by assumption) | exact SqT.of (by assumption) | exact Same.seq (by assumption) (by assumption))); (focus (exact rfl))) | (refine' ⟨_, _, rfl, _, _⟩; rotate_left 1; (focus (first | exact .inl (by assumption) | exact .inl (SqL.of (by assumption)) | exact .inr (by assumption) | exact .inr (SqT.of (by assumption)))))))
      exact fun r hr => fin _ this _ (s3.trans (same_upd hp4)) r hr
    have s4 := s3.trans (same_upd (o := .tup ((["jump", "call"] : List Str).map V.str)) hp4)
    (repeat (first | refine ⟨_, rfl, ?_⟩ | refine ⟨_, _, rfl, rfl, ?_⟩ | refine ⟨rfl, ?_⟩ | refine .inl ⟨_, rfl, ?_⟩ | refine .inr ⟨_, rfl, ?_⟩ | refine ⟨.inr ⟨by decide, by decide⟩, ?_⟩ | refine ⟨⟨by decide, by decide⟩, ?_⟩ | refine ⟨⟨by decide, by decide, by decide⟩, ?_⟩ | refine ⟨.inr ⟨by omega, by omega⟩, ?_⟩ | refine ⟨(by show (0 : Int) < _; first | decide | omega), ?_⟩ | refine ⟨Nat.le_trans (Nat.le_of_ble_eq_true rfl : _ ≤ 50) (by decide), ?_⟩ | refine ⟨_, _, _, _, rfl, rfl, upd_same, rfl, ?_⟩ | refine ⟨_, _, _, _, rfl, rfl, SqL.of upd_same, rfl, ?_⟩ | refine ⟨_, _, _, _, rfl, rfl, SqT.of upd_same, rfl, ?_⟩ | refine ⟨_, _, rfl, .inl (SqL.of upd_same), ?_⟩ | refine ⟨_, _, rfl, .inr (SqT.of upd_same), ?_⟩ | (refine' ⟨_, _, _, _, rfl, rfl, _, _, _⟩; rotate_left 2; (focus (first | assumption | exact SqL.of (by assumption) | exact SqT.of (by assumption) | exact Same.seq (by assumption) (by assumption))); (focus (exact rfl))) | (refine' ⟨_, _, rfl, _, _⟩; rotate_left 1; (focus (first | exact .inl (by assumption) | exact .inl (SqL.of (by assumption)) | exact .inr (by assumption) | exact .inr (SqT.of (by assumption)))))))
    refine ite2 (fun e => ?_) (fun e8 => ?_)
    · have := teq "below" [15, 65535, 19999] (of_decide_eq_true e) (by decide +kernel)
      (repeat (first | refine ⟨_, rfl, ?_⟩ | refine ⟨_, _, rfl, rfl, ?_⟩ | refine ⟨rfl, ?_⟩ | refine .inl ⟨_, rfl, ?_⟩ | refine .inr ⟨_, rfl, ?_⟩ | refine ⟨.inr ⟨by decide, by decide⟩, ?_⟩ | refine ⟨⟨by decide, by decide⟩, ?_⟩ | refine ⟨⟨by decide, by decide, by decide⟩, ?_⟩ | refine ⟨.inr ⟨by omega, by omega⟩, ?_⟩ | refine ⟨(by show (0 : Int) < _; first | decide | omega), ?_⟩ | refine ⟨Nat.le_trans (Nat.le_of_ble_eq_true rfl : _ ≤ 50) (by decide), ?_⟩ | refine ⟨_, _, _, _, rfl, rfl, upd_same, rfl, ?_⟩ | refine ⟨_, _, _, _, rfl, rfl, SqL.of upd_same, rfl, ?_⟩ | refine ⟨_, _, _, _, rfl, rfl, SqT.of upd_same, rfl, ?_⟩ | refine ⟨_, _, rfl, .inl (SqL.of upd_same), ?_⟩ | refine ⟨_, _, rfl, .inr (SqT.of upd_same), ?_⟩ | (refine' ⟨_, _, _, _, rfl, rfl, _, _, _⟩; rotate_left 2; (focus (first | assumption | exact SqL.of (by assumption) | exact SqT.of (by assumption) | exact Same.seq (by assumption) (by assumption))); (focus (exact rfl))) | (refine' ⟨_, _, rfl, _, _⟩; rotate_left 1; (focus (first | exact .inl (by assumption) | exact .inl (SqL.of (by assumption)) | exact .inr (by assumption) | exact .inr (SqT.of (by assumption)))))))
      exact fun r hr => fin _ this _ s4 r hr
    (repeat (first | refine ⟨_, rfl, ?_⟩ | refine ⟨_, _, rfl, rfl, ?_⟩ | refine ⟨rfl, ?_⟩ | refine .inl ⟨_, rfl, ?_⟩ | refine .inr ⟨_, rfl, ?_⟩ | refine ⟨.inr ⟨by decide, by decide⟩, ?_⟩ | refine ⟨⟨by decide, by decide⟩, ?_⟩ | refine ⟨⟨by decide, by decide, by decide⟩, ?_⟩ | refine ⟨.inr ⟨by omega, by omega⟩, ?_⟩ | refine ⟨(by show (0 : Int) < _; first | decide | omega), ?_⟩ | refine ⟨Nat.le_trans (Nat.le_of_ble_eq_true rfl : _ ≤ 50) (by decide), ?_⟩ | refine ⟨_, _, _, _, rfl, rfl, upd_same, rfl, ?_⟩ | refine ⟨_, _, _, _, rfl, rfl, SqL.of upd_same, rfl, ?_⟩ | refine ⟨_, _, _, _, rfl, rfl, SqT.of upd_same, rfl, ?_⟩ | refine ⟨_, _, rfl, .inl (SqL.of upd_same), ?_⟩ | refine ⟨_, _, rfl, .inr (SqT.of upd_same), ?_⟩ | (refine' ⟨_, _, _, _, rfl, rfl, _, _, _⟩; rotate_left 2; (focus (first | assumption | exact SqL.of (by assumption) | exact SqT.of (by assumption) | exact Same.seq (by assumption) (by assumption))); (focus (exact rfl))) | (refine' ⟨_, _, rfl, _, _⟩; rotate_left 1; (focus (first | exact .inl (by assumption) | exact .inl (SqL.of (by assumption)) | exact .inr (by assumption) | exact .inr (SqT.of (by assumption)))))))
    refine fun p5 hp5 => ⟨p5, _, rfl, .inr (SqT.of upd_same), rfl, by decide +kernel, _, rfl, ite2 (fun e => ?_) (fun e9 => ?_)⟩
    · have := tin ["clear", "ret", "halt"] [] e (by decide +kernel)
      (repeat (first | refine ⟨_, rfl, ?_⟩ | refine ⟨_, _, rfl, rfl, ?_⟩ | refine ⟨rfl, ?_⟩ | refine .inl ⟨_, rfl, ?_⟩ | refine .inr ⟨_, rfl, ?_⟩ | refine ⟨.inr ⟨by decide, by decide⟩, ?_⟩ | refine ⟨⟨by decide, by decide⟩, ?_⟩ | refine ⟨⟨by decide, by decide, by decide⟩, ?_⟩ | refine ⟨.inr ⟨by omega, by omega⟩, ?_⟩ | refine ⟨(by show (0 : Int) < _; first | decide | omega), ?_⟩ | refine ⟨Nat.le_trans (Nat.le_of_ble_eq_true rfl : _ ≤ 50) (by decide), ?_⟩ | refine ⟨_, _, _, _, rfl, rfl, upd_same, rfl, ?_⟩ | refine ⟨_, _, _, _, rfl, rfl, SqL.of upd_same, rfl, ?_⟩ | refine ⟨_, _, _, _, rfl, rfl, SqT.of upd_same, rfl, ?_⟩ | refine ⟨_, _, rfl, .inl (SqL.of upd_same), ?_⟩ | refine ⟨_, _, rfl, .inr (SqT.of upd_same), ?_⟩ | (refine' ⟨_, _, _, _, rfl, rfl, _, _, _⟩; rotate_left 2; (focus (first | assumption | exact SqL.of (by assumption) | exact SqT.of (by assumption) | exact Same.seq (by assumption) (by assumption))); (focus (exact rfl))) | (refine' ⟨_, _, rfl, _, _⟩; rotate_left 1; (focus (first | exact .inl (by assumption) | exact .inl (SqL.of (by assumption)) | exact .inr (by assumption) | exact .inr (SqT.of (by assumption)))))))
      exact fun r hr => fin _ this _ (s4.trans (same_upd hp5)) r hr
    have s5 := s4.trans (same_upd (o := .tup ((["clear", "ret", "halt"] : List Str).map V.str)) hp5)
    (repeat (first | refine ⟨_, rfl, ?_⟩ | refine ⟨_, _, rfl, rfl, ?_⟩ | refine ⟨rfl, ?_⟩ | refine .inl ⟨_, rfl, ?_⟩ | refine .inr ⟨_, rfl, ?_⟩ | refine ⟨.inr ⟨by decide, by decide⟩, ?_⟩ | refine ⟨⟨by decide, by decide⟩, ?_⟩ | refine ⟨⟨by decide, by decide, by decide⟩, ?_⟩ | refine ⟨.inr ⟨by omega, by omega⟩, ?_⟩ | refine ⟨(by show (0 : Int) < _; first | decide | omega), ?_⟩ | refine ⟨Nat.le_trans (Nat.le_of_ble_eq_true rfl : _ ≤ 50) (by decide), ?_⟩ | refine ⟨_, _, _, _, rfl, rfl, upd_same, rfl, ?_⟩ | refine ⟨_, _, _, _, rfl, rfl, SqL.of upd_same, rfl, ?_⟩ | refine ⟨_, _, _, _, rfl, rfl, SqT.of upd_same, rfl, ?_⟩ | refine ⟨_, _, rfl, .inl (SqL.of upd_same), ?_⟩ | refine ⟨_, _, rfl, .inr (SqT.of upd_same), ?_⟩ | (refine' ⟨_, _, _, _, rfl, rfl, _, _, _⟩; rotate_left 2; (focus (first | assumption | exact SqL.of (by assumption) | exact SqT.of (by assumption) | exact Same.seq (by assumption) (by assumption))); (focus (exact rfl))) | (refine' ⟨_, _, rfl, _, _⟩; rotate_left 1; (focus (first | exact .inl (by assumption) | exact .inl (SqL.of (by assumption)) | exact .inr (by assumption) | exact .inr (SqT.of (by assumption)))))))
    refine q2 ?_ _ s5
    have key := List.all_eq_true.mp lims_key n hn
    simp only [Bool.or_eq_true] at key
    rcases key with ((((((((h | h) | h) | h) | h) | h) | h) | h) | h) | h
    · exact absurd h e1
    · exact absurd h e2
    · exact absurd h e3
    · exact absurd h e4
    · exact absurd h e5
    · exact absurd h e6
    · exact absurd h e7
    · exact absurd h e8
    · exact absurd h e9
    · exact of_decide_eq_true h
theorem ok_right (T : Tx w K mg) : FnOk P w K mg base CX0 2 T.a_law_is_right T.d_law_is_right ["value"] (spRight K) := by
  have G_law_limits : FnOk P w K mg base CX0 1 T.a_law_limits T.d_law_limits ["name"] spLimits := ok_limits T
  refine T.F_law_is_right.ok sc_law_is_right (fun vs H Q E h => ?_) (fun cdv A outer s H vs Q E hr h => ?_)
  · obtain ⟨v, H0, L, d, rfl, _⟩ := h
    rfl
  · obtain ⟨v, H0, L, d, rfl, o, hv, q⟩ := h
    have hr_law_limits : Room 1 _ := hr
    refine ⟨_, (pss_cons (ps_if (PW.pt (pw_or (pt_not (pt_val (pe_callB call_isi (by rfl) T.z_isinstance (by decide +kernel) (pa_cons (pv 0) (pa_cons (pe_bltn (v := .ty "tuple") (u := .type "tuple") (by rfl) T.z_tuple (by decide +kernel) rfl) pa_nil))))) (pw_or (pt_cmpR op_eq (pe_callB call_len_seq (by rfl) T.z_len (by decide +kernel) (pa_cons (pv 0) pa_nil)) pe_int (nomark _)) (pw_or1 (pt_not (pt_val (pe_callB call_isi (by rfl) T.z_isinstance (by decide +kernel) (pa_cons (pe_ix ix_tup (pv 0) pe_int (fun _ _ => rfl)) (pa_cons (pe_bltn (v := .ty "str") (u := .type "str") (by rfl) T.z_str (by decide +kernel) rfl) pa_nil)))))))))
        (pss_one (ps_ret pe_bl))
        pss_nil)
        (pss_cons (ps_set (i := 1) sc_law_is_right.nd rfl (.inl rfl) (pe_call G_law_limits hr_law_limits (by rfl) T.g_law_limits T.F_law_limits.kp T.b_law_limits .nil pass0 (pa_cons (pe_ix ix_tup (pv 0) pe_int (fun _ _ => rfl)) pa_nil)))
        (pss_cons (ps_if (PW.pt (pw_or (pt_cmpR op_isN (pv 1) pe_non (nomark _)) (pw_or1 (pt_cmpR op_ne (pe_callB call_len_seq (by rfl) T.z_len (by decide +kernel) (pa_cons (pv 0) pa_nil)) (pe_op op_add (pe_callB call_len_seq (by rfl) T.z_len (by decide +kernel) (pa_cons (pv 1) pa_nil)) pe_int) (nomark _)))))
        (pss_one (ps_ret pe_bl))
        pss_nil)
        (pss_cons (ps_for PassesOwn.never rfl (pi_range1 rfl T.z_range (pa_cons (pe_callB call_len_seq (by rfl) T.z_len (by decide +kernel) (pa_cons (pv 1) pa_nil)) pa_nil)) (pg_name (i := 2) sc_law_is_right.nd rfl (.inl rfl))
        (pss_cons (ps_set (i := 3) sc_law_is_right.nd rfl (.inl rfl) (pe_ix ix_tup (pv 0) (pe_op op_add (pv 2) pe_int) (fun _ _ => rfl)))
        (pss_one (ps_if (PW.pt (pw_or (pt_val (pe_callB call_isi (by rfl) T.z_isinstance (by decide +kernel) (pa_cons (pv 3) (pa_cons (pe_bltn (v := .ty "bool") (u := .type "bool") (by rfl) T.z_bool (by decide +kernel) rfl) pa_nil)))) (pw_or (pt_not (pt_val (pe_callB call_isi (by rfl) T.z_isinstance (by decide +kernel) (pa_cons (pv 3) (pa_cons (pe_bltn (v := .ty "int") (u := .type "int") (by rfl) T.z_int (by decide +kernel) rfl) pa_nil))))) (pw_or (pt_cmpR op_lt (pv 3) pe_int (nomark _)) (pw_or1 (pt_cmpR op_gt (pv 3) (pe_ix ix_list (pv 1) (pv 2) (fun _ _ => rfl)) (nomark _)))))))
        (pss_one (ps_ret pe_bl))
        pss_nil))))
        (pss_one (ps_ret pe_bl)))))), ?_⟩
    have hL : ∀ q ∈ L, H q.1 = some q.2 := o.at_
    obtain ⟨t, ht⟩ := hv.ty (K := K) hL
    have q0 : insD d = false → ∀ H', Same H H' → Q (.bl false) H' := fun e H' sm => by
      have := q H' sm
      rw [e] at this
      exact this
    refine ⟨_, rfl, _, _, _, _, _, rfl, .ty "tuple", ht.ty, ht.tup, ?_⟩
    rcases hv with hv | ⟨a, xs, ds, rfl, hp, ⟨m, rfl⟩ | ⟨m, rfl⟩⟩
    · have e1 : isTup d = false := by cases v <;> cases d <;> first | rfl | exact False.elim hv
      have e2 : insD d = false := by cases d <;> first | rfl | cases e1
      rw [e1]
      (repeat (first | refine ⟨_, rfl, ?_⟩ | refine ⟨_, _, rfl, rfl, ?_⟩ | refine ⟨rfl, ?_⟩ | refine .inl ⟨_, rfl, ?_⟩ | refine .inr ⟨_, rfl, ?_⟩ | refine ⟨.inr ⟨by decide, by decide⟩, ?_⟩ | refine ⟨⟨by decide, by decide⟩, ?_⟩ | refine ⟨⟨by decide, by decide, by decide⟩, ?_⟩ | refine ⟨.inr ⟨by omega, by omega⟩, ?_⟩ | refine ⟨(by show (0 : Int) < _; first | decide | omega), ?_⟩ | refine ⟨Nat.le_trans (Nat.le_of_ble_eq_true rfl : _ ≤ 50) (by decide), ?_⟩ | refine ⟨_, _, _, _, rfl, rfl, upd_same, rfl, ?_⟩ | refine ⟨_, _, _, _, rfl, rfl, SqL.of upd_same, rfl, ?_⟩ | refine ⟨_, _, _, _, rfl, rfl, SqT.of upd_same, rfl, ?_⟩ | refine ⟨_, _, rfl, .inl (SqL.of upd_same), ?_⟩ | refine ⟨_, _, rfl, .inr (SqT.of upd_same), ?_⟩ | (refine' ⟨_, _, _, _, rfl, rfl, _, _, _⟩; rotate_left 2; (focus (first | assumption | exact SqL.of (by assumption) | exact SqT.of (by assumption) | exact Same.seq (by assumption) (by assumption))); (focus (exact rfl))) | (refine' ⟨_, _, rfl, _, _⟩; rotate_left 1; (focus (first | exact .inl (by assumption) | exact .inl (SqL.of (by assumption)) | exact .inr (by assumption) | exact .inr (SqT.of (by assumption)))))))
      exact q0 e2 _ (Same.refl _)
    · cases hp with
      | nil =>
        (repeat (first | refine ⟨_, rfl, ?_⟩ | refine ⟨_, _, rfl, rfl, ?_⟩ | refine ⟨rfl, ?_⟩ | refine .inl ⟨_, rfl, ?_⟩ | refine .inr ⟨_, rfl, ?_⟩ | refine ⟨.inr ⟨by decide, by decide⟩, ?_⟩ | refine ⟨⟨by decide, by decide⟩, ?_⟩ | refine ⟨⟨by decide, by decide, by decide⟩, ?_⟩ | refine ⟨.inr ⟨by omega, by omega⟩, ?_⟩ | refine ⟨(by show (0 : Int) < _; first | decide | omega), ?_⟩ | refine ⟨Nat.le_trans (Nat.le_of_ble_eq_true rfl : _ ≤ 50) (by decide), ?_⟩ | refine ⟨_, _, _, _, rfl, rfl, upd_same, rfl, ?_⟩ | refine ⟨_, _, _, _, rfl, rfl, SqL.of upd_same, rfl, ?_⟩ | refine ⟨_, _, _, _, rfl, rfl, SqT.of upd_same, rfl, ?_⟩ | refine ⟨_, _, rfl, .inl (SqL.of upd_same), ?_⟩ | refine ⟨_, _, rfl, .inr (SqT.of upd_same), ?_⟩ | (refine' ⟨_, _, _, _, rfl, rfl, _, _, _⟩; rotate_left 2; (focus (first | assumption | exact SqL.of (by assumption) | exact SqT.of (by assumption) | exact Same.seq (by assumption) (by assumption))); (focus (exact rfl))) | (refine' ⟨_, _, rfl, _, _⟩; rotate_left 1; (focus (first | exact .inl (by assumption) | exact .inl (SqL.of (by assumption)) | exact .inr (by assumption) | exact .inr (SqT.of (by assumption)))))))
        refine ⟨a, [], rfl, .inr (SqT.of (hL _ m)), ?_⟩
        (repeat (first | refine ⟨_, rfl, ?_⟩ | refine ⟨_, _, rfl, rfl, ?_⟩ | refine ⟨rfl, ?_⟩ | refine .inl ⟨_, rfl, ?_⟩ | refine .inr ⟨_, rfl, ?_⟩ | refine ⟨.inr ⟨by decide, by decide⟩, ?_⟩ | refine ⟨⟨by decide, by decide⟩, ?_⟩ | refine ⟨⟨by decide, by decide, by decide⟩, ?_⟩ | refine ⟨.inr ⟨by omega, by omega⟩, ?_⟩ | refine ⟨(by show (0 : Int) < _; first | decide | omega), ?_⟩ | refine ⟨Nat.le_trans (Nat.le_of_ble_eq_true rfl : _ ≤ 50) (by decide), ?_⟩ | refine ⟨_, _, _, _, rfl, rfl, upd_same, rfl, ?_⟩ | refine ⟨_, _, _, _, rfl, rfl, SqL.of upd_same, rfl, ?_⟩ | refine ⟨_, _, _, _, rfl, rfl, SqT.of upd_same, rfl, ?_⟩ | refine ⟨_, _, rfl, .inl (SqL.of upd_same), ?_⟩ | refine ⟨_, _, rfl, .inr (SqT.of upd_same), ?_⟩ | (refine' ⟨_, _, _, _, rfl, rfl, _, _, _⟩; rotate_left 2; (focus (first | assumption | exact SqL.of (by assumption) | exact SqT.of (by assumption) | exact Same.seq (by assumption) (by assumption))); (focus (exact rfl))) | (refine' ⟨_, _, rfl, _, _⟩; rotate_left 1; (focus (first | exact .inl (by assumption) | exact .inl (SqL.of (by assumption)) | exact .inr (by assumption) | exact .inr (SqT.of (by assumption)))))))
        exact q0 rfl _ (Same.refl _)
      | @cons x0 d0 xs ds h0 hp =>
        (repeat (first | refine ⟨_, rfl, ?_⟩ | refine ⟨_, _, rfl, rfl, ?_⟩ | refine ⟨rfl, ?_⟩ | refine .inl ⟨_, rfl, ?_⟩ | refine .inr ⟨_, rfl, ?_⟩ | refine ⟨.inr ⟨by decide, by decide⟩, ?_⟩ | refine ⟨⟨by decide, by decide⟩, ?_⟩ | refine ⟨⟨by decide, by decide, by decide⟩, ?_⟩ | refine ⟨.inr ⟨by omega, by omega⟩, ?_⟩ | refine ⟨(by show (0 : Int) < _; first | decide | omega), ?_⟩ | refine ⟨Nat.le_trans (Nat.le_of_ble_eq_true rfl : _ ≤ 50) (by decide), ?_⟩ | refine ⟨_, _, _, _, rfl, rfl, upd_same, rfl, ?_⟩ | refine ⟨_, _, _, _, rfl, rfl, SqL.of upd_same, rfl, ?_⟩ | refine ⟨_, _, _, _, rfl, rfl, SqT.of upd_same, rfl, ?_⟩ | refine ⟨_, _, rfl, .inl (SqL.of upd_same), ?_⟩ | refine ⟨_, _, rfl, .inr (SqT.of upd_same), ?_⟩ | (refine' ⟨_, _, _, _, rfl, rfl, _, _, _⟩; rotate_left 2; (focus (first | assumption | exact SqL.of (by assumption) | exact SqT.of (by assumption) | exact Same.seq (by assumption) (by assumption))); (focus (exact rfl))) | (refine' ⟨_, _, rfl, _, _⟩; rotate_left 1; (focus (first | exact .inl (by assumption) | exact .inl (SqL.of (by assumption)) | exact .inr (by assumption) | exact .inr (SqT.of (by assumption)))))))
        refine ⟨a, _, rfl, .inr (SqT.of (hL _ m)), ?_⟩
        obtain ⟨t0, h0t⟩ := h0.ty (K := K) hL
        (repeat (first | refine ⟨_, rfl, ?_⟩ | refine ⟨_, _, rfl, rfl, ?_⟩ | refine ⟨rfl, ?_⟩ | refine .inl ⟨_, rfl, ?_⟩ | refine .inr ⟨_, rfl, ?_⟩ | refine ⟨.inr ⟨by decide, by decide⟩, ?_⟩ | refine ⟨⟨by decide, by decide⟩, ?_⟩ | refine ⟨⟨by decide, by decide, by decide⟩, ?_⟩ | refine ⟨.inr ⟨by omega, by omega⟩, ?_⟩ | refine ⟨(by show (0 : Int) < _; first | decide | omega), ?_⟩ | refine ⟨Nat.le_trans (Nat.le_of_ble_eq_true rfl : _ ≤ 50) (by decide), ?_⟩ | refine ⟨_, _, _, _, rfl, rfl, upd_same, rfl, ?_⟩ | refine ⟨_, _, _, _, rfl, rfl, SqL.of upd_same, rfl, ?_⟩ | refine ⟨_, _, _, _, rfl, rfl, SqT.of upd_same, rfl, ?_⟩ | refine ⟨_, _, rfl, .inl (SqL.of upd_same), ?_⟩ | refine ⟨_, _, rfl, .inr (SqT.of upd_same), ?_⟩ | (refine' ⟨_, _, _, _, rfl, rfl, _, _, _⟩; rotate_left 2; (focus (first | assumption | exact SqL.of (by assumption) | exact SqT.of (by assumption) | exact Same.seq (by assumption) (by assumption))); (focus (exact rfl))) | (refine' ⟨_, _, rfl, _, _⟩; rotate_left 1; (focus (first | exact .inl (by assumption) | exact .inl (SqL.of (by assumption)) | exact .inr (by assumption) | exact .inr (SqT.of (by assumption)))))))
        refine ⟨a, _, _, _, rfl, rfl, SqT.of (hL _ m), at0 _ _, ?_⟩
        refine ⟨_, _, _, _, _, rfl, .ty "str", h0t.ty, h0t.str, ?_⟩
        cases hs : isStr d0 with
        | false =>
          have e2 : insD (.tuple (d0 :: ds)) = false := by cases d0 <;> first | rfl | cases hs
          (repeat (first | refine ⟨_, rfl, ?_⟩ | refine ⟨_, _, rfl, rfl, ?_⟩ | refine ⟨rfl, ?_⟩ | refine .inl ⟨_, rfl, ?_⟩ | refine .inr ⟨_, rfl, ?_⟩ | refine ⟨.inr ⟨by decide, by decide⟩, ?_⟩ | refine ⟨⟨by decide, by decide⟩, ?_⟩ | refine ⟨⟨by decide, by decide, by decide⟩, ?_⟩ | refine ⟨.inr ⟨by omega, by omega⟩, ?_⟩ | refine ⟨(by show (0 : Int) < _; first | decide | omega), ?_⟩ | refine ⟨Nat.le_trans (Nat.le_of_ble_eq_true rfl : _ ≤ 50) (by decide), ?_⟩ | refine ⟨_, _, _, _, rfl, rfl, upd_same, rfl, ?_⟩ | refine ⟨_, _, _, _, rfl, rfl, SqL.of upd_same, rfl, ?_⟩ | refine ⟨_, _, _, _, rfl, rfl, SqT.of upd_same, rfl, ?_⟩ | refine ⟨_, _, rfl, .inl (SqL.of upd_same), ?_⟩ | refine ⟨_, _, rfl, .inr (SqT.of upd_same), ?_⟩ | (refine' ⟨_, _, _, _, rfl, rfl, _, _, _⟩; rotate_left 2; (focus (first | assumption | exact SqL.of (by assumption) | exact SqT.of (by assumption) | exact Same.seq (by assumption) (by assumption))); (focus (exact rfl))) | (refine' ⟨_, _, rfl, _, _⟩; rotate_left 1; (focus (first | exact .inl (by assumption) | exact .inl (SqL.of (by assumption)) | exact .inr (by assumption) | exact .inr (SqT.of (by assumption)))))))
          exact q0 e2 _ (Same.refl _)
        | true =>
          have e2 : ∃ n, d0 = .str n := by cases d0 <;> first | exact ⟨_, rfl⟩ | cases hs
          obtain ⟨n, rfl⟩ := e2
          have e3 : x0 = .str n ∧ n ∈ texts33 := by
            rcases h0 with h0 | ⟨_, _, _, _, _, ⟨_, e⟩ | ⟨_, e⟩⟩
            · cases x0 <;> first | exact False.elim h0 | (obtain ⟨rfl, h⟩ := h0; exact ⟨rfl, h⟩)
            · cases e
            · cases e
          obtain ⟨rfl, hn⟩ := e3
          (repeat (first | refine ⟨_, rfl, ?_⟩ | refine ⟨_, _, rfl, rfl, ?_⟩ | refine ⟨rfl, ?_⟩ | refine .inl ⟨_, rfl, ?_⟩ | refine .inr ⟨_, rfl, ?_⟩ | refine ⟨.inr ⟨by decide, by decide⟩, ?_⟩ | refine ⟨⟨by decide, by decide⟩, ?_⟩ | refine ⟨⟨by decide, by decide, by decide⟩, ?_⟩ | refine ⟨.inr ⟨by omega, by omega⟩, ?_⟩ | refine ⟨(by show (0 : Int) < _; first | decide | omega), ?_⟩ | refine ⟨Nat.le_trans (Nat.le_of_ble_eq_true rfl : _ ≤ 50) (by decide), ?_⟩ | refine ⟨_, _, _, _, rfl, rfl, upd_same, rfl, ?_⟩ | refine ⟨_, _, _, _, rfl, rfl, SqL.of upd_same, rfl, ?_⟩ | refine ⟨_, _, _, _, rfl, rfl, SqT.of upd_same, rfl, ?_⟩ | refine ⟨_, _, rfl, .inl (SqL.of upd_same), ?_⟩ | refine ⟨_, _, rfl, .inr (SqT.of upd_same), ?_⟩ | (refine' ⟨_, _, _, _, rfl, rfl, _, _, _⟩; rotate_left 2; (focus (first | assumption | exact SqL.of (by assumption) | exact SqT.of (by assumption) | exact Same.seq (by assumption) (by assumption))); (focus (exact rfl))) | (refine' ⟨_, _, rfl, _, _⟩; rotate_left 1; (focus (first | exact .inl (by assumption) | exact .inl (SqL.of (by assumption)) | exact .inr (by assumption) | exact .inr (SqT.of (by assumption)))))))
          have hlen : xs.length = ds.length := hp.length
          refine ⟨a, _, _, _, rfl, rfl, SqT.of (hL _ m), at0 _ _, ?_⟩
          refine ⟨n, rfl, hn, fun ls hls H1 s1 r hr h1 => ?_, fun hls H1 s1 => ?_⟩
          · have o1 := o.push hr s1 h1
            have hL1 : ∀ q ∈ L, H1 q.1 = some q.2 := fun q hq => o1.at_ q (List.mem_cons_of_mem _ hq)
            have hv2 : insD (.tuple (.str n :: ds)) = allIn ls ds := by
              show (match limsOf n with | some ls => allIn ls ds | none => false) = _
              rw [hls]
            refine ⟨_, rfl, rfl, ?_⟩
            rw [decide_eq_false (show ¬ (V.ref r = V.non) from fun z => nomatch z)]
            (repeat (first | refine ⟨_, rfl, ?_⟩ | refine ⟨_, _, rfl, rfl, ?_⟩ | refine ⟨rfl, ?_⟩ | refine .inl ⟨_, rfl, ?_⟩ | refine .inr ⟨_, rfl, ?_⟩ | refine ⟨.inr ⟨by decide, by decide⟩, ?_⟩ | refine ⟨⟨by decide, by decide⟩, ?_⟩ | refine ⟨⟨by decide, by decide, by decide⟩, ?_⟩ | refine ⟨.inr ⟨by omega, by omega⟩, ?_⟩ | refine ⟨(by show (0 : Int) < _; first | decide | omega), ?_⟩ | refine ⟨Nat.le_trans (Nat.le_of_ble_eq_true rfl : _ ≤ 50) (by decide), ?_⟩ | refine ⟨_, _, _, _, rfl, rfl, upd_same, rfl, ?_⟩ | refine ⟨_, _, _, _, rfl, rfl, SqL.of upd_same, rfl, ?_⟩ | refine ⟨_, _, _, _, rfl, rfl, SqT.of upd_same, rfl, ?_⟩ | refine ⟨_, _, rfl, .inl (SqL.of upd_same), ?_⟩ | refine ⟨_, _, rfl, .inr (SqT.of upd_same), ?_⟩ | (refine' ⟨_, _, _, _, rfl, rfl, _, _, _⟩; rotate_left 2; (focus (first | assumption | exact SqL.of (by assumption) | exact SqT.of (by assumption) | exact Same.seq (by assumption) (by assumption))); (focus (exact rfl))) | (refine' ⟨_, _, rfl, _, _⟩; rotate_left 1; (focus (first | exact .inl (by assumption) | exact .inl (SqL.of (by assumption)) | exact .inr (by assumption) | exact .inr (SqT.of (by assumption)))))))
            refine ⟨a, _, rfl, .inr (SqT.of (hL1 _ m)), ?_⟩
            (repeat (first | refine ⟨_, rfl, ?_⟩ | refine ⟨_, _, rfl, rfl, ?_⟩ | refine ⟨rfl, ?_⟩ | refine .inl ⟨_, rfl, ?_⟩ | refine .inr ⟨_, rfl, ?_⟩ | refine ⟨.inr ⟨by decide, by decide⟩, ?_⟩ | refine ⟨⟨by decide, by decide⟩, ?_⟩ | refine ⟨⟨by decide, by decide, by decide⟩, ?_⟩ | refine ⟨.inr ⟨by omega, by omega⟩, ?_⟩ | refine ⟨(by show (0 : Int) < _; first | decide | omega), ?_⟩ | refine ⟨Nat.le_trans (Nat.le_of_ble_eq_true rfl : _ ≤ 50) (by decide), ?_⟩ | refine ⟨_, _, _, _, rfl, rfl, upd_same, rfl, ?_⟩ | refine ⟨_, _, _, _, rfl, rfl, SqL.of upd_same, rfl, ?_⟩ | refine ⟨_, _, _, _, rfl, rfl, SqT.of upd_same, rfl, ?_⟩ | refine ⟨_, _, rfl, .inl (SqL.of upd_same), ?_⟩ | refine ⟨_, _, rfl, .inr (SqT.of upd_same), ?_⟩ | (refine' ⟨_, _, _, _, rfl, rfl, _, _, _⟩; rotate_left 2; (focus (first | assumption | exact SqL.of (by assumption) | exact SqT.of (by assumption) | exact Same.seq (by assumption) (by assumption))); (focus (exact rfl))) | (refine' ⟨_, _, rfl, _, _⟩; rotate_left 1; (focus (first | exact .inl (by assumption) | exact .inl (SqL.of (by assumption)) | exact .inr (by assumption) | exact .inr (SqT.of (by assumption)))))))
            refine ite2 (fun e => ?_) (fun e => ?_)
            · (repeat (first | refine ⟨_, rfl, ?_⟩ | refine ⟨_, _, rfl, rfl, ?_⟩ | refine ⟨rfl, ?_⟩ | refine .inl ⟨_, rfl, ?_⟩ | refine .inr ⟨_, rfl, ?_⟩ | refine ⟨.inr ⟨by decide, by decide⟩, ?_⟩ | refine ⟨⟨by decide, by decide⟩, ?_⟩ | refine ⟨⟨by decide, by decide, by decide⟩, ?_⟩ | refine ⟨.inr ⟨by omega, by omega⟩, ?_⟩ | refine ⟨(by show (0 : Int) < _; first | decide | omega), ?_⟩ | refine ⟨Nat.le_trans (Nat.le_of_ble_eq_true rfl : _ ≤ 50) (by decide), ?_⟩ | refine ⟨_, _, _, _, rfl, rfl, upd_same, rfl, ?_⟩ | refine ⟨_, _, _, _, rfl, rfl, SqL.of upd_same, rfl, ?_⟩ | refine ⟨_, _, _, _, rfl, rfl, SqT.of upd_same, rfl, ?_⟩ | refine ⟨_, _, rfl, .inl (SqL.of upd_same), ?_⟩ | refine ⟨_, _, rfl, .inr (SqT.of upd_same), ?_⟩ | (refine' ⟨_, _, _, _, rfl, rfl, _, _, _⟩; rotate_left 2; (focus (first | assumption | exact SqL.of (by assumption) | exact SqT.of (by assumption) | exact Same.seq (by assumption) (by assumption))); (focus (exact rfl))) | (refine' ⟨_, _, rfl, _, _⟩; rotate_left 1; (focus (first | exact .inl (by assumption) | exact .inl (SqL.of (by assumption)) | exact .inr (by assumption) | exact .inr (SqT.of (by assumption)))))))
              refine q0 ?_ _ s1
              rw [hv2]
              refine allIn_len fun z => ?_
              rw [List.length_cons, List.length_map, hlen, z] at e
              exact absurd e (by simp)
            · have hll : ls.length = xs.length := by
                have e := eq_false_of_ne_true e
                rw [List.length_cons, List.length_map] at e
                have e : ((xs.length + 1 : Nat) : Int) = (ls.length : Int) + 1 := by simpa using e
                omega
              (repeat (first | refine ⟨_, rfl, ?_⟩ | refine ⟨_, _, rfl, rfl, ?_⟩ | refine ⟨rfl, ?_⟩ | refine .inl ⟨_, rfl, ?_⟩ | refine .inr ⟨_, rfl, ?_⟩ | refine ⟨.inr ⟨by decide, by decide⟩, ?_⟩ | refine ⟨⟨by decide, by decide⟩, ?_⟩ | refine ⟨⟨by decide, by decide, by decide⟩, ?_⟩ | refine ⟨.inr ⟨by omega, by omega⟩, ?_⟩ | refine ⟨(by show (0 : Int) < _; first | decide | omega), ?_⟩ | refine ⟨Nat.le_trans (Nat.le_of_ble_eq_true rfl : _ ≤ 50) (by decide), ?_⟩ | refine ⟨_, _, _, _, rfl, rfl, upd_same, rfl, ?_⟩ | refine ⟨_, _, _, _, rfl, rfl, SqL.of upd_same, rfl, ?_⟩ | refine ⟨_, _, _, _, rfl, rfl, SqT.of upd_same, rfl, ?_⟩ | refine ⟨_, _, rfl, .inl (SqL.of upd_same), ?_⟩ | refine ⟨_, _, rfl, .inr (SqT.of upd_same), ?_⟩ | (refine' ⟨_, _, _, _, rfl, rfl, _, _, _⟩; rotate_left 2; (focus (first | assumption | exact SqL.of (by assumption) | exact SqT.of (by assumption) | exact Same.seq (by assumption) (by assumption))); (focus (exact rfl))) | (refine' ⟨_, _, rfl, _, _⟩; rotate_left 1; (focus (first | exact .inl (by assumption) | exact .inl (SqL.of (by assumption)) | exact .inr (by assumption) | exact .inr (SqT.of (by assumption)))))))
              rw [List.length_map]
              have big : ls.length ≤ 3 := lims_len n ls hls
              refine ⟨by omega, by omega, for_range (lo := 0) (n := ls.length) (fun i σ H' => ∃ v2 v3, σ = [some (.ref a), some (.ref r), v2, v3] ∧ H' = H1 ∧ allIn ls ds = allIn (ls.drop i) (ds.drop i)) ⟨none, none, rfl, rfl, rfl⟩ ?_ ?_⟩
              · rintro i σ H2 hi ⟨v2, v3, rfl, rfl, e5⟩
                have hix : i < xs.length := by rw [← hll]; exact hi
                obtain ⟨d2, hd2, hp2⟩ := paired_get hp (List.getElem?_eq_getElem hix)
                obtain ⟨t2, ht2⟩ := hp2.ty (K := K) hL1
                have hpt : atI (V.str n :: xs) (0 + (i : Int) + 1) = some xs[i] := by
                  rw [show (0 : Int) + (i : Int) + 1 = ((i + 1 : Nat) : Int) by omega]
                  exact atI_nat (by rw [List.getElem?_cons_succ, List.getElem?_eq_getElem hix])
                have e6 : allIn (ls.drop i) (ds.drop i) = (partB ls[i] d2 && allIn (ls.drop (i + 1)) (ds.drop (i + 1))) := allIn_drop (List.getElem?_eq_getElem hi) hd2
                have bad : partB ls[i] d2 = false → Q (.bl false) H2 := fun e => by
                  refine q0 ?_ _ s1
                  rw [hv2, e5, e6, e]
                  rfl
                (repeat (first | refine ⟨_, rfl, ?_⟩ | refine ⟨_, _, rfl, rfl, ?_⟩ | refine ⟨rfl, ?_⟩ | refine .inl ⟨_, rfl, ?_⟩ | refine .inr ⟨_, rfl, ?_⟩ | refine ⟨.inr ⟨by decide, by decide⟩, ?_⟩ | refine ⟨⟨by decide, by decide⟩, ?_⟩ | refine ⟨⟨by decide, by decide, by decide⟩, ?_⟩ | refine ⟨.inr ⟨by omega, by omega⟩, ?_⟩ | refine ⟨(by show (0 : Int) < _; first | decide | omega), ?_⟩ | refine ⟨Nat.le_trans (Nat.le_of_ble_eq_true rfl : _ ≤ 50) (by decide), ?_⟩ | refine ⟨_, _, _, _, rfl, rfl, upd_same, rfl, ?_⟩ | refine ⟨_, _, _, _, rfl, rfl, SqL.of upd_same, rfl, ?_⟩ | refine ⟨_, _, _, _, rfl, rfl, SqT.of upd_same, rfl, ?_⟩ | refine ⟨_, _, rfl, .inl (SqL.of upd_same), ?_⟩ | refine ⟨_, _, rfl, .inr (SqT.of upd_same), ?_⟩ | (refine' ⟨_, _, _, _, rfl, rfl, _, _, _⟩; rotate_left 2; (focus (first | assumption | exact SqL.of (by assumption) | exact SqT.of (by assumption) | exact Same.seq (by assumption) (by assumption))); (focus (exact rfl))) | (refine' ⟨_, _, rfl, _, _⟩; rotate_left 1; (focus (first | exact .inl (by assumption) | exact .inl (SqL.of (by assumption)) | exact .inr (by assumption) | exact .inr (SqT.of (by assumption)))))))
                refine ⟨a, _, _, _, rfl, rfl, SqT.of (hL1 _ m), hpt, ?_⟩
                (repeat (first | refine ⟨_, rfl, ?_⟩ | refine ⟨_, _, rfl, rfl, ?_⟩ | refine ⟨rfl, ?_⟩ | refine .inl ⟨_, rfl, ?_⟩ | refine .inr ⟨_, rfl, ?_⟩ | refine ⟨.inr ⟨by decide, by decide⟩, ?_⟩ | refine ⟨⟨by decide, by decide⟩, ?_⟩ | refine ⟨⟨by decide, by decide, by decide⟩, ?_⟩ | refine ⟨.inr ⟨by omega, by omega⟩, ?_⟩ | refine ⟨(by show (0 : Int) < _; first | decide | omega), ?_⟩ | refine ⟨Nat.le_trans (Nat.le_of_ble_eq_true rfl : _ ≤ 50) (by decide), ?_⟩ | refine ⟨_, _, _, _, rfl, rfl, upd_same, rfl, ?_⟩ | refine ⟨_, _, _, _, rfl, rfl, SqL.of upd_same, rfl, ?_⟩ | refine ⟨_, _, _, _, rfl, rfl, SqT.of upd_same, rfl, ?_⟩ | refine ⟨_, _, rfl, .inl (SqL.of upd_same), ?_⟩ | refine ⟨_, _, rfl, .inr (SqT.of upd_same), ?_⟩ | (refine' ⟨_, _, _, _, rfl, rfl, _, _, _⟩; rotate_left 2; (focus (first | assumption | exact SqL.of (by assumption) | exact SqT.of (by assumption) | exact Same.seq (by assumption) (by assumption))); (focus (exact rfl))) | (refine' ⟨_, _, rfl, _, _⟩; rotate_left 1; (focus (first | exact .inl (by assumption) | exact .inl (SqL.of (by assumption)) | exact .inr (by assumption) | exact .inr (SqT.of (by assumption)))))))
                refine ⟨_, _, _, _, _, rfl, .ty "bool", ht2.ty, ht2.bl, ?_⟩
                cases hb : isBool d2 with
                | true =>
                  (repeat (first | refine ⟨_, rfl, ?_⟩ | refine ⟨_, _, rfl, rfl, ?_⟩ | refine ⟨rfl, ?_⟩ | refine .inl ⟨_, rfl, ?_⟩ | refine .inr ⟨_, rfl, ?_⟩ | refine ⟨.inr ⟨by decide, by decide⟩, ?_⟩ | refine ⟨⟨by decide, by decide⟩, ?_⟩ | refine ⟨⟨by decide, by decide, by decide⟩, ?_⟩ | refine ⟨.inr ⟨by omega, by omega⟩, ?_⟩ | refine ⟨(by show (0 : Int) < _; first | decide | omega), ?_⟩ | refine ⟨Nat.le_trans (Nat.le_of_ble_eq_true rfl : _ ≤ 50) (by decide), ?_⟩ | refine ⟨_, _, _, _, rfl, rfl, upd_same, rfl, ?_⟩ | refine ⟨_, _, _, _, rfl, rfl, SqL.of upd_same, rfl, ?_⟩ | refine ⟨_, _, _, _, rfl, rfl, SqT.of upd_same, rfl, ?_⟩ | refine ⟨_, _, rfl, .inl (SqL.of upd_same), ?_⟩ | refine ⟨_, _, rfl, .inr (SqT.of upd_same), ?_⟩ | (refine' ⟨_, _, _, _, rfl, rfl, _, _, _⟩; rotate_left 2; (focus (first | assumption | exact SqL.of (by assumption) | exact SqT.of (by assumption) | exact Same.seq (by assumption) (by assumption))); (focus (exact rfl))) | (refine' ⟨_, _, rfl, _, _⟩; rotate_left 1; (focus (first | exact .inl (by assumption) | exact .inl (SqL.of (by assumption)) | exact .inr (by assumption) | exact .inr (SqT.of (by assumption)))))))
                  exact bad (by cases d2 <;> first | rfl | cases hb)
                | false =>
                  (repeat (first | refine ⟨_, rfl, ?_⟩ | refine ⟨_, _, rfl, rfl, ?_⟩ | refine ⟨rfl, ?_⟩ | refine .inl ⟨_, rfl, ?_⟩ | refine .inr ⟨_, rfl, ?_⟩ | refine ⟨.inr ⟨by decide, by decide⟩, ?_⟩ | refine ⟨⟨by decide, by decide⟩, ?_⟩ | refine ⟨⟨by decide, by decide, by decide⟩, ?_⟩ | refine ⟨.inr ⟨by omega, by omega⟩, ?_⟩ | refine ⟨(by show (0 : Int) < _; first | decide | omega), ?_⟩ | refine ⟨Nat.le_trans (Nat.le_of_ble_eq_true rfl : _ ≤ 50) (by decide), ?_⟩ | refine ⟨_, _, _, _, rfl, rfl, upd_same, rfl, ?_⟩ | refine ⟨_, _, _, _, rfl, rfl, SqL.of upd_same, rfl, ?_⟩ | refine ⟨_, _, _, _, rfl, rfl, SqT.of upd_same, rfl, ?_⟩ | refine ⟨_, _, rfl, .inl (SqL.of upd_same), ?_⟩ | refine ⟨_, _, rfl, .inr (SqT.of upd_same), ?_⟩ | (refine' ⟨_, _, _, _, rfl, rfl, _, _, _⟩; rotate_left 2; (focus (first | assumption | exact SqL.of (by assumption) | exact SqT.of (by assumption) | exact Same.seq (by assumption) (by assumption))); (focus (exact rfl))) | (refine' ⟨_, _, rfl, _, _⟩; rotate_left 1; (focus (first | exact .inl (by assumption) | exact .inl (SqL.of (by assumption)) | exact .inr (by assumption) | exact .inr (SqT.of (by assumption)))))))
                  refine ⟨_, _, _, _, _, rfl, .ty "int", ht2.ty, ht2.int, ?_⟩
                  rw [hb, Bool.or_false]
                  cases hi3 : isInt d2 with
                  | false =>
                    (repeat (first | refine ⟨_, rfl, ?_⟩ | refine ⟨_, _, rfl, rfl, ?_⟩ | refine ⟨rfl, ?_⟩ | refine .inl ⟨_, rfl, ?_⟩ | refine .inr ⟨_, rfl, ?_⟩ | refine ⟨.inr ⟨by decide, by decide⟩, ?_⟩ | refine ⟨⟨by decide, by decide⟩, ?_⟩ | refine ⟨⟨by decide, by decide, by decide⟩, ?_⟩ | refine ⟨.inr ⟨by omega, by omega⟩, ?_⟩ | refine ⟨(by show (0 : Int) < _; first | decide | omega), ?_⟩ | refine ⟨Nat.le_trans (Nat.le_of_ble_eq_true rfl : _ ≤ 50) (by decide), ?_⟩ | refine ⟨_, _, _, _, rfl, rfl, upd_same, rfl, ?_⟩ | refine ⟨_, _, _, _, rfl, rfl, SqL.of upd_same, rfl, ?_⟩ | refine ⟨_, _, _, _, rfl, rfl, SqT.of upd_same, rfl, ?_⟩ | refine ⟨_, _, rfl, .inl (SqL.of upd_same), ?_⟩ | refine ⟨_, _, rfl, .inr (SqT.of upd_same), ?_⟩ | (refine' ⟨_, _, _, _, rfl, rfl, _, _, _⟩; rotate_left 2; (focus (first | assumption | exact SqL.of (by assumption) | exact SqT.of (by assumption) | exact Same.seq (by assumption) (by assumption))); (focus (exact rfl))) | (refine' ⟨_, _, rfl, _, _⟩; rotate_left 1; (focus (first | exact .inl (by assumption) | exact .inl (SqL.of (by assumption)) | exact .inr (by assumption) | exact .inr (SqT.of (by assumption)))))))
                    exact bad (by cases d2 <;> first | rfl | cases hi3)
                  | true =>
                    have e : ∃ i, d2 = .int i := by cases d2 <;> first | exact ⟨_, rfl⟩ | cases hi3
                    obtain ⟨z, rfl⟩ := e
                    have hz := ht2.at_ z rfl
                    rw [hz]
                    (repeat (first | refine ⟨_, rfl, ?_⟩ | refine ⟨_, _, rfl, rfl, ?_⟩ | refine ⟨rfl, ?_⟩ | refine .inl ⟨_, rfl, ?_⟩ | refine .inr ⟨_, rfl, ?_⟩ | refine ⟨.inr ⟨by decide, by decide⟩, ?_⟩ | refine ⟨⟨by decide, by decide⟩, ?_⟩ | refine ⟨⟨by decide, by decide, by decide⟩, ?_⟩ | refine ⟨.inr ⟨by omega, by omega⟩, ?_⟩ | refine ⟨(by show (0 : Int) < _; first | decide | omega), ?_⟩ | refine ⟨Nat.le_trans (Nat.le_of_ble_eq_true rfl : _ ≤ 50) (by decide), ?_⟩ | refine ⟨_, _, _, _, rfl, rfl, upd_same, rfl, ?_⟩ | refine ⟨_, _, _, _, rfl, rfl, SqL.of upd_same, rfl, ?_⟩ | refine ⟨_, _, _, _, rfl, rfl, SqT.of upd_same, rfl, ?_⟩ | refine ⟨_, _, rfl, .inl (SqL.of upd_same), ?_⟩ | refine ⟨_, _, rfl, .inr (SqT.of upd_same), ?_⟩ | (refine' ⟨_, _, _, _, rfl, rfl, _, _, _⟩; rotate_left 2; (focus (first | assumption | exact SqL.of (by assumption) | exact SqT.of (by assumption) | exact Same.seq (by assumption) (by assumption))); (focus (exact rfl))) | (refine' ⟨_, _, rfl, _, _⟩; rotate_left 1; (focus (first | exact .inl (by assumption) | exact .inl (SqL.of (by assumption)) | exact .inr (by assumption) | exact .inr (SqT.of (by assumption)))))))
                    have ep : partB ls[i] (.int z) = (decide (0 ≤ z) && decide (z ≤ ls[i])) := rfl
                    refine ite2 (fun e => ?_) (fun e => ?_)
                    · have e : z < 0 := of_decide_eq_true e
                      (repeat (first | refine ⟨_, rfl, ?_⟩ | refine ⟨_, _, rfl, rfl, ?_⟩ | refine ⟨rfl, ?_⟩ | refine .inl ⟨_, rfl, ?_⟩ | refine .inr ⟨_, rfl, ?_⟩ | refine ⟨.inr ⟨by decide, by decide⟩, ?_⟩ | refine ⟨⟨by decide, by decide⟩, ?_⟩ | refine ⟨⟨by decide, by decide, by decide⟩, ?_⟩ | refine ⟨.inr ⟨by omega, by omega⟩, ?_⟩ | refine ⟨(by show (0 : Int) < _; first | decide | omega), ?_⟩ | refine ⟨Nat.le_trans (Nat.le_of_ble_eq_true rfl : _ ≤ 50) (by decide), ?_⟩ | refine ⟨_, _, _, _, rfl, rfl, upd_same, rfl, ?_⟩ | refine ⟨_, _, _, _, rfl, rfl, SqL.of upd_same, rfl, ?_⟩ | refine ⟨_, _, _, _, rfl, rfl, SqT.of upd_same, rfl, ?_⟩ | refine ⟨_, _, rfl, .inl (SqL.of upd_same), ?_⟩ | refine ⟨_, _, rfl, .inr (SqT.of upd_same), ?_⟩ | (refine' ⟨_, _, _, _, rfl, rfl, _, _, _⟩; rotate_left 2; (focus (first | assumption | exact SqL.of (by assumption) | exact SqT.of (by assumption) | exact Same.seq (by assumption) (by assumption))); (focus (exact rfl))) | (refine' ⟨_, _, rfl, _, _⟩; rotate_left 1; (focus (first | exact .inl (by assumption) | exact .inl (SqL.of (by assumption)) | exact .inr (by assumption) | exact .inr (SqT.of (by assumption)))))))
                      exact bad (by rw [ep, decide_eq_false (by omega), Bool.false_and])
                    · have e : ¬ z < 0 := fun h => e (decide_eq_true h)
                      (repeat (first | refine ⟨_, rfl, ?_⟩ | refine ⟨_, _, rfl, rfl, ?_⟩ | refine ⟨rfl, ?_⟩ | refine .inl ⟨_, rfl, ?_⟩ | refine .inr ⟨_, rfl, ?_⟩ | refine ⟨.inr ⟨by decide, by decide⟩, ?_⟩ | refine ⟨⟨by decide, by decide⟩, ?_⟩ | refine ⟨⟨by decide, by decide, by decide⟩, ?_⟩ | refine ⟨.inr ⟨by omega, by omega⟩, ?_⟩ | refine ⟨(by show (0 : Int) < _; first | decide | omega), ?_⟩ | refine ⟨Nat.le_trans (Nat.le_of_ble_eq_true rfl : _ ≤ 50) (by decide), ?_⟩ | refine ⟨_, _, _, _, rfl, rfl, upd_same, rfl, ?_⟩ | refine ⟨_, _, _, _, rfl, rfl, SqL.of upd_same, rfl, ?_⟩ | refine ⟨_, _, _, _, rfl, rfl, SqT.of upd_same, rfl, ?_⟩ | refine ⟨_, _, rfl, .inl (SqL.of upd_same), ?_⟩ | refine ⟨_, _, rfl, .inr (SqT.of upd_same), ?_⟩ | (refine' ⟨_, _, _, _, rfl, rfl, _, _, _⟩; rotate_left 2; (focus (first | assumption | exact SqL.of (by assumption) | exact SqT.of (by assumption) | exact Same.seq (by assumption) (by assumption))); (focus (exact rfl))) | (refine' ⟨_, _, rfl, _, _⟩; rotate_left 1; (focus (first | exact .inl (by assumption) | exact .inl (SqL.of (by assumption)) | exact .inr (by assumption) | exact .inr (SqT.of (by assumption)))))))
                      refine ⟨r, _, _, _, rfl, rfl, SqL.of h1, get_at hi, ?_⟩
                      (repeat (first | refine ⟨_, rfl, ?_⟩ | refine ⟨_, _, rfl, rfl, ?_⟩ | refine ⟨rfl, ?_⟩ | refine .inl ⟨_, rfl, ?_⟩ | refine .inr ⟨_, rfl, ?_⟩ | refine ⟨.inr ⟨by decide, by decide⟩, ?_⟩ | refine ⟨⟨by decide, by decide⟩, ?_⟩ | refine ⟨⟨by decide, by decide, by decide⟩, ?_⟩ | refine ⟨.inr ⟨by omega, by omega⟩, ?_⟩ | refine ⟨(by show (0 : Int) < _; first | decide | omega), ?_⟩ | refine ⟨Nat.le_trans (Nat.le_of_ble_eq_true rfl : _ ≤ 50) (by decide), ?_⟩ | refine ⟨_, _, _, _, rfl, rfl, upd_same, rfl, ?_⟩ | refine ⟨_, _, _, _, rfl, rfl, SqL.of upd_same, rfl, ?_⟩ | refine ⟨_, _, _, _, rfl, rfl, SqT.of upd_same, rfl, ?_⟩ | refine ⟨_, _, rfl, .inl (SqL.of upd_same), ?_⟩ | refine ⟨_, _, rfl, .inr (SqT.of upd_same), ?_⟩ | (refine' ⟨_, _, _, _, rfl, rfl, _, _, _⟩; rotate_left 2; (focus (first | assumption | exact SqL.of (by assumption) | exact SqT.of (by assumption) | exact Same.seq (by assumption) (by assumption))); (focus (exact rfl))) | (refine' ⟨_, _, rfl, _, _⟩; rotate_left 1; (focus (first | exact .inl (by assumption) | exact .inl (SqL.of (by assumption)) | exact .inr (by assumption) | exact .inr (SqT.of (by assumption)))))))
                      refine ite2 (fun e2 => ?_) (fun e2 => ?_)
                      · have e2 : ls[i] < z := of_decide_eq_true e2
                        (repeat (first | refine ⟨_, rfl, ?_⟩ | refine ⟨_, _, rfl, rfl, ?_⟩ | refine ⟨rfl, ?_⟩ | refine .inl ⟨_, rfl, ?_⟩ | refine .inr ⟨_, rfl, ?_⟩ | refine ⟨.inr ⟨by decide, by decide⟩, ?_⟩ | refine ⟨⟨by decide, by decide⟩, ?_⟩ | refine ⟨⟨by decide, by decide, by decide⟩, ?_⟩ | refine ⟨.inr ⟨by omega, by omega⟩, ?_⟩ | refine ⟨(by show (0 : Int) < _; first | decide | omega), ?_⟩ | refine ⟨Nat.le_trans (Nat.le_of_ble_eq_true rfl : _ ≤ 50) (by decide), ?_⟩ | refine ⟨_, _, _, _, rfl, rfl, upd_same, rfl, ?_⟩ | refine ⟨_, _, _, _, rfl, rfl, SqL.of upd_same, rfl, ?_⟩ | refine ⟨_, _, _, _, rfl, rfl, SqT.of upd_same, rfl, ?_⟩ | refine ⟨_, _, rfl, .inl (SqL.of upd_same), ?_⟩ | refine ⟨_, _, rfl, .inr (SqT.of upd_same), ?_⟩ | (refine' ⟨_, _, _, _, rfl, rfl, _, _, _⟩; rotate_left 2; (focus (first | assumption | exact SqL.of (by assumption) | exact SqT.of (by assumption) | exact Same.seq (by assumption) (by assumption))); (focus (exact rfl))) | (refine' ⟨_, _, rfl, _, _⟩; rotate_left 1; (focus (first | exact .inl (by assumption) | exact .inl (SqL.of (by assumption)) | exact .inr (by assumption) | exact .inr (SqT.of (by assumption)))))))
                        exact bad (by rw [ep, decide_eq_false (p := z ≤ ls[i]) (by omega), Bool.and_false])
                      · have e2 : ¬ ls[i] < z := fun h => e2 (decide_eq_true h)
                        (repeat (first | refine ⟨_, rfl, ?_⟩ | refine ⟨_, _, rfl, rfl, ?_⟩ | refine ⟨rfl, ?_⟩ | refine .inl ⟨_, rfl, ?_⟩ | refine .inr ⟨_, rfl, ?_⟩ | refine ⟨.inr ⟨by decide, by decide⟩, ?_⟩ | refine ⟨⟨by decide, by decide⟩, ?_⟩ | refine ⟨⟨by decide, by decide, by decide⟩, ?_⟩ | refine ⟨.inr ⟨by omega, by omega⟩, ?_⟩ | refine ⟨(by show (0 : Int) < _; first | decide | omega), ?_⟩ | refine ⟨Nat.le_trans (Nat.le_of_ble_eq_true rfl : _ ≤ 50) (by decide), ?_⟩ | refine ⟨_, _, _, _, rfl, rfl, upd_same, rfl, ?_⟩ | refine ⟨_, _, _, _, rfl, rfl, SqL.of upd_same, rfl, ?_⟩ | refine ⟨_, _, _, _, rfl, rfl, SqT.of upd_same, rfl, ?_⟩ | refine ⟨_, _, rfl, .inl (SqL.of upd_same), ?_⟩ | refine ⟨_, _, rfl, .inr (SqT.of upd_same), ?_⟩ | (refine' ⟨_, _, _, _, rfl, rfl, _, _, _⟩; rotate_left 2; (focus (first | assumption | exact SqL.of (by assumption) | exact SqT.of (by assumption) | exact Same.seq (by assumption) (by assumption))); (focus (exact rfl))) | (refine' ⟨_, _, rfl, _, _⟩; rotate_left 1; (focus (first | exact .inl (by assumption) | exact .inl (SqL.of (by assumption)) | exact .inr (by assumption) | exact .inr (SqT.of (by assumption)))))))
                        rw [e5, e6, ep, decide_eq_true (by omega), decide_eq_true (by omega)]
                        rfl
              · rintro σ H2 ⟨v2, v3, rfl, rfl, e5⟩
                (repeat (first | refine ⟨_, rfl, ?_⟩ | refine ⟨_, _, rfl, rfl, ?_⟩ | refine ⟨rfl, ?_⟩ | refine .inl ⟨_, rfl, ?_⟩ | refine .inr ⟨_, rfl, ?_⟩ | refine ⟨.inr ⟨by decide, by decide⟩, ?_⟩ | refine ⟨⟨by decide, by decide⟩, ?_⟩ | refine ⟨⟨by decide, by decide, by decide⟩, ?_⟩ | refine ⟨.inr ⟨by omega, by omega⟩, ?_⟩ | refine ⟨(by show (0 : Int) < _; first | decide | omega), ?_⟩ | refine ⟨Nat.le_trans (Nat.le_of_ble_eq_true rfl : _ ≤ 50) (by decide), ?_⟩ | refine ⟨_, _, _, _, rfl, rfl, upd_same, rfl, ?_⟩ | refine ⟨_, _, _, _, rfl, rfl, SqL.of upd_same, rfl, ?_⟩ | refine ⟨_, _, _, _, rfl, rfl, SqT.of upd_same, rfl, ?_⟩ | refine ⟨_, _, rfl, .inl (SqL.of upd_same), ?_⟩ | refine ⟨_, _, rfl, .inr (SqT.of upd_same), ?_⟩ | (refine' ⟨_, _, _, _, rfl, rfl, _, _, _⟩; rotate_left 2; (focus (first | assumption | exact SqL.of (by assumption) | exact SqT.of (by assumption) | exact Same.seq (by assumption) (by assumption))); (focus (exact rfl))) | (refine' ⟨_, _, rfl, _, _⟩; rotate_left 1; (focus (first | exact .inl (by assumption) | exact .inl (SqL.of (by assumption)) | exact .inr (by assumption) | exact .inr (SqT.of (by assumption)))))))
                have e7 : insD (.tuple (.str n :: ds)) = true := by
                  rw [hv2, e5, List.drop_of_length_le (Nat.le_refl _), List.drop_of_length_le (by rw [← hlen, hll]; exact Nat.le_refl _)]
                  rfl
                have := q H2 s1
                rw [e7] at this
                exact this
          · (repeat (first | refine ⟨_, rfl, ?_⟩ | refine ⟨_, _, rfl, rfl, ?_⟩ | refine ⟨rfl, ?_⟩ | refine .inl ⟨_, rfl, ?_⟩ | refine .inr ⟨_, rfl, ?_⟩ | refine ⟨.inr ⟨by decide, by decide⟩, ?_⟩ | refine ⟨⟨by decide, by decide⟩, ?_⟩ | refine ⟨⟨by decide, by decide, by decide⟩, ?_⟩ | refine ⟨.inr ⟨by omega, by omega⟩, ?_⟩ | refine ⟨(by show (0 : Int) < _; first | decide | omega), ?_⟩ | refine ⟨Nat.le_trans (Nat.le_of_ble_eq_true rfl : _ ≤ 50) (by decide), ?_⟩ | refine ⟨_, _, _, _, rfl, rfl, upd_same, rfl, ?_⟩ | refine ⟨_, _, _, _, rfl, rfl, SqL.of upd_same, rfl, ?_⟩ | refine ⟨_, _, _, _, rfl, rfl, SqT.of upd_same, rfl, ?_⟩ | refine ⟨_, _, rfl, .inl (SqL.of upd_same), ?_⟩ | refine ⟨_, _, rfl, .inr (SqT.of upd_same), ?_⟩ | (refine' ⟨_, _, _, _, rfl, rfl, _, _, _⟩; rotate_left 2; (focus (first | assumption | exact SqL.of (by assumption) | exact SqT.of (by assumption) | exact Same.seq (by assumption) (by assumption))); (focus (exact rfl))) | (refine' ⟨_, _, rfl, _, _⟩; rotate_left 1; (focus (first | exact .inl (by assumption) | exact .inl (SqL.of (by assumption)) | exact .inr (by assumption) | exact .inr (SqT.of (by assumption)))))))
            rw [decide_eq_true (rfl : V.non = V.non)]
            (repeat (first | refine ⟨_, rfl, ?_⟩ | refine ⟨_, _, rfl, rfl, ?_⟩ | refine ⟨rfl, ?_⟩ | refine .inl ⟨_, rfl, ?_⟩ | refine .inr ⟨_, rfl, ?_⟩ | refine ⟨.inr ⟨by decide, by decide⟩, ?_⟩ | refine ⟨⟨by decide, by decide⟩, ?_⟩ | refine ⟨⟨by decide, by decide, by decide⟩, ?_⟩ | refine ⟨.inr ⟨by omega, by omega⟩, ?_⟩ | refine ⟨(by show (0 : Int) < _; first | decide | omega), ?_⟩ | refine ⟨Nat.le_trans (Nat.le_of_ble_eq_true rfl : _ ≤ 50) (by decide), ?_⟩ | refine ⟨_, _, _, _, rfl, rfl, upd_same, rfl, ?_⟩ | refine ⟨_, _, _, _, rfl, rfl, SqL.of upd_same, rfl, ?_⟩ | refine ⟨_, _, _, _, rfl, rfl, SqT.of upd_same, rfl, ?_⟩ | refine ⟨_, _, rfl, .inl (SqL.of upd_same), ?_⟩ | refine ⟨_, _, rfl, .inr (SqT.of upd_same), ?_⟩ | (refine' ⟨_, _, _, _, rfl, rfl, _, _, _⟩; rotate_left 2; (focus (first | assumption | exact SqL.of (by assumption) | exact SqT.of (by assumption) | exact Same.seq (by assumption) (by assumption))); (focus (exact rfl))) | (refine' ⟨_, _, rfl, _, _⟩; rotate_left 1; (focus (first | exact .inl (by assumption) | exact .inl (SqL.of (by assumption)) | exact .inr (by assumption) | exact .inr (SqT.of (by assumption)))))))
            refine q0 ?_ _ s1
            show (match limsOf n with | some ls => allIn ls ds | none => false) = false
            rw [hls]
    · (repeat (first | refine ⟨_, rfl, ?_⟩ | refine ⟨_, _, rfl, rfl, ?_⟩ | refine ⟨rfl, ?_⟩ | refine .inl ⟨_, rfl, ?_⟩ | refine .inr ⟨_, rfl, ?_⟩ | refine ⟨.inr ⟨by decide, by decide⟩, ?_⟩ | refine ⟨⟨by decide, by decide⟩, ?_⟩ | refine ⟨⟨by decide, by decide, by decide⟩, ?_⟩ | refine ⟨.inr ⟨by omega, by omega⟩, ?_⟩ | refine ⟨(by show (0 : Int) < _; first | decide | omega), ?_⟩ | refine ⟨Nat.le_trans (Nat.le_of_ble_eq_true rfl : _ ≤ 50) (by decide), ?_⟩ | refine ⟨_, _, _, _, rfl, rfl, upd_same, rfl, ?_⟩ | refine ⟨_, _, _, _, rfl, rfl, SqL.of upd_same, rfl, ?_⟩ | refine ⟨_, _, _, _, rfl, rfl, SqT.of upd_same, rfl, ?_⟩ | refine ⟨_, _, rfl, .inl (SqL.of upd_same), ?_⟩ | refine ⟨_, _, rfl, .inr (SqT.of upd_same), ?_⟩ | (refine' ⟨_, _, _, _, rfl, rfl, _, _, _⟩; rotate_left 2; (focus (first | assumption | exact SqL.of (by assumption) | exact SqT.of (by assumption) | exact Same.seq (by assumption) (by assumption))); (focus (exact rfl))) | (refine' ⟨_, _, rfl, _, _⟩; rotate_left 1; (focus (first | exact .inl (by assumption) | exact .inl (SqL.of (by assumption)) | exact .inr (by assumption) | exact .inr (SqT.of (by assumption)))))))
      exact q0 rfl _ (Same.refl _)
end
end K26

set_option Elab.async false
set_option linter.all false
set_option maxRecDepth 100000
set_option maxHeartbeats 4000000
namespace K26
open PySem PySem.Spec PyProof.Rows L2 Lw GxR
section
variable {P1 P2 : Addr} {H0 H H' : Hp} {p a : Addr} {L L' : List (Addr × HO)} {u u' : HO}
theorem Wd.mono (h : Wd P1 P2 H0 H p L) (s : Same H H') : Wd P1 P2 H0 H' p L := by
  obtain ⟨x, y, t1, t2, hx, h1, h2, o⟩ := h
  exact ⟨x, y, t1, t2, hx, h1, h2, o.mono s⟩
theorem Wd.perm (h : Wd P1 P2 H0 H p L) (q : List.Perm L L') : Wd P1 P2 H0 H p L' := by
  obtain ⟨x, y, t1, t2, hx, h1, h2, o⟩ := h
  exact ⟨x, y, t1, t2, hx, h1, h2, Objs.perm' o (.cons _ (.cons _ (.cons _ q)))⟩
theorem Wd.push (h : Wd P1 P2 H0 H p L) (n : H a = none) (s : Same H H') (e : H' a = some u) : Wd P1 P2 H0 H' p ((a, u) :: L) := by
  obtain ⟨x, y, t1, t2, hx, h1, h2, o⟩ := h
  exact ⟨x, y, t1, t2, hx, h1, h2, Objs.perm' (o.push n s e) (((List.Perm.swap _ _ _).trans (.cons _ ((List.Perm.swap _ _ _).trans (.cons _ (.swap _ _ _))))))⟩
theorem Wd.put (h : Wd P1 P2 H0 H p L) (i : Nat) (hi : L[i]? = some (a, u)) : Wd P1 P2 H0 (upd H a u') p (L.set i (a, u')) := by
  obtain ⟨x, y, t1, t2, hx, h1, h2, o⟩ := h
  exact ⟨x, y, t1, t2, hx, h1, h2, o.put (i + 3) hi⟩
end
def spName (P1 P2 : Addr) : Sp := fun vs H Q _ => ∃ H0 p L, vs = [.ref p] ∧ Wd P1 P2 H0 H p L ∧ ∀ n H', n ∈ texts33 → (kindsOf n).isSome = true → Wd P1 P2 H0 H' p L → Q (.str n) H'
def spGood (P1 P2 : Addr) : Sp := fun vs H Q _ => ∃ H0 p L, vs = [.ref p] ∧ Wd P1 P2 H0 H p L ∧ ∀ (r : Addr) (n : Str) (ls is : List Int) (H' : Hp), n ∈ texts33 → limsOf n = some ls → allIn ls (is.map PyData.int) = true → Wd P1 P2 H0 H' p ((r, .tup (.str n :: is.map V.int)) :: L) → Q (.ref r) H'
def spOther (P1 P2 : Addr) : Sp := fun vs H Q _ => ∃ H0 p L, vs = [.ref p] ∧ Wd P1 P2 H0 H p L ∧ ∀ v d M H', Wd P1 P2 H0 H' p (M ++ L) → PL 1 M v d → Q v H'
def names25 : List Str := KDx.forms25.map (·.1)
theorem names_ok : ∀ n ∈ names25, n ∈ texts33 ∧ (kindsOf n).isSome = true := by decide +kernel
theorem at_map {α : Type} (f : α → V) {l : List α} {i : Int} (h0 : 0 ≤ i) (h1 : i < l.length) : ∃ x ∈ l, atI (l.map f) i = some (f x) := by
  obtain ⟨j, rfl⟩ := Int.eq_ofNat_of_zero_le h0
  have hj : j < l.length := by omega
  refine ⟨l[j], List.getElem_mem _, atI_nat ?_⟩
  rw [List.getElem?_map, List.getElem?_eq_getElem hj]
  rfl
theorem lims_top (n : Str) (ls : List Int) (h : limsOf n = some ls) : ∀ l ∈ ls, 0 ≤ l ∧ l ≤ 65535 := by
  unfold limsOf at h
  cases e : kindsOf n with
  | none => rw [e] at h; cases h
  | some ks =>
    rw [e] at h
    cases h
    intro l hl
    obtain ⟨c, _, rfl⟩ := List.mem_map.mp hl
    unfold topOf
    repeat' split
    all_goals exact ⟨by decide, by decide⟩
theorem allIn_snoc : ∀ {ls : List Int} {ds : List PyData} {l : Int} {d : PyData}, allIn ls ds = true → partB l d = true → allIn (ls ++ [l]) (ds ++ [d]) = true
  | [], [], l, d, _, h => by
    show (partB l d && true) = true
    rw [h]
    rfl
  | [], _ :: _, _, _, h, _ => by cases h
  | _ :: _, [], _, _, h, _ => by cases h
  | x :: ls, y :: ds, l, d, h, h2 => by
    obtain ⟨g1, g2⟩ := Bool.and_eq_true_iff.mp (show (partB x y && allIn ls ds) = true from h)
    show (partB x y && allIn (ls ++ [l]) (ds ++ [d])) = true
    rw [g1, allIn_snoc g2 h2]
    rfl
section
variable {P : Program} {w : World} {K : PySem.W.Frag} {mg : Str → Option Value} {base : Heap} {P1 P2 : Addr}
theorem ok_name (T : Tx w K mg) : FnOk P w K mg base CX0 2 T.a_law_name T.d_law_name ["source"] (spName P1 P2) := by
  have G_law_draw : FnOk P w K mg base CX0 1 T.a_law_draw T.d_law_draw ["source", "many"] spDraw := ok_draw T
  refine T.F_law_name.ok sc_law_name (fun vs H Q E h => ?_) (fun cdv A outer s H vs Q E hr h => ?_)
  · obtain ⟨H0, p, L, rfl, _⟩ := h
    rfl
  · obtain ⟨H0, p, L, rfl, o, q⟩ := h
    have hr_law_draw : Room 1 _ := hr
    refine ⟨_, (pss_cons (ps_set (i := 1) sc_law_name.nd rfl (.inl rfl) (pe_lst (pa_cons pe_str (pa_cons pe_str (pa_cons pe_str (pa_cons pe_str (pa_cons pe_str (pa_cons pe_str (pa_cons pe_str (pa_cons pe_str (pa_cons pe_str (pa_cons pe_str (pa_cons pe_str (pa_cons pe_str (pa_cons pe_str (pa_cons pe_str pa_nil))))))))))))))))
        (pss_cons (ps_set (i := 1) sc_law_name.nd rfl (.inl rfl) (pe_op op_cat (pv 1) (pe_lst (pa_cons pe_str (pa_cons pe_str (pa_cons pe_str (pa_cons pe_str (pa_cons pe_str (pa_cons pe_str (pa_cons pe_str (pa_cons pe_str (pa_cons pe_str (pa_cons pe_str (pa_cons pe_str pa_nil))))))))))))))
        (pss_one (ps_ret (pe_ix ix_list (pv 1) (pe_call G_law_draw hr_law_draw (by rfl) T.g_law_draw T.F_law_draw.kp T.b_law_draw .nil pass0 (pa_cons (pv 0) (pa_cons pe_int pa_nil))) (fun _ _ => rfl)))))), ?_⟩
    (repeat (first | refine ⟨_, rfl, ?_⟩ | refine ⟨_, _, rfl, rfl, ?_⟩ | refine ⟨rfl, ?_⟩ | refine .inl ⟨_, rfl, ?_⟩ | refine .inr ⟨_, rfl, ?_⟩ | refine ⟨.inr ⟨by decide, by decide⟩, ?_⟩ | refine ⟨⟨by decide, by decide⟩, ?_⟩ | refine ⟨⟨by decide, by decide, by decide⟩, ?_⟩ | refine ⟨.inr ⟨by omega, by omega⟩, ?_⟩ | refine ⟨(by show (0 : Int) < _; first | decide | omega), ?_⟩ | refine ⟨Nat.le_trans (Nat.le_of_ble_eq_true rfl : _ ≤ 50) (by decide), ?_⟩ | refine ⟨_, _, _, _, rfl, rfl, upd_same, rfl, ?_⟩ | refine ⟨_, _, _, _, rfl, rfl, SqL.of upd_same, rfl, ?_⟩ | refine ⟨_, _, _, _, rfl, rfl, SqT.of upd_same, rfl, ?_⟩ | refine ⟨_, _, rfl, .inl (SqL.of upd_same), ?_⟩ | refine ⟨_, _, rfl, .inr (SqT.of upd_same), ?_⟩ | (refine' ⟨_, _, _, _, rfl, rfl, _, _, _⟩; rotate_left 2; (focus (first | assumption | exact SqL.of (by assumption) | exact SqT.of (by assumption) | exact Same.seq (by assumption) (by assumption))); (focus (exact rfl))) | (refine' ⟨_, _, rfl, _, _⟩; rotate_left 1; (focus (first | exact .inl (by assumption) | exact .inl (SqL.of (by assumption)) | exact .inr (by assumption) | exact .inr (SqT.of (by assumption)))))))
    refine fun l1 h1 => ?_
    have o1 := o.add (u := .lst [.str "set", .str "move", .str "add", .str "addc", .str "sub", .str "subc", .str "mul", .str "high", .str "div", .str "and", .str "or", .str "xor", .str "less", .str "downby"]) h1
    (repeat (first | refine ⟨_, rfl, ?_⟩ | refine ⟨_, _, rfl, rfl, ?_⟩ | refine ⟨rfl, ?_⟩ | refine .inl ⟨_, rfl, ?_⟩ | refine .inr ⟨_, rfl, ?_⟩ | refine ⟨.inr ⟨by decide, by decide⟩, ?_⟩ | refine ⟨⟨by decide, by decide⟩, ?_⟩ | refine ⟨⟨by decide, by decide, by decide⟩, ?_⟩ | refine ⟨.inr ⟨by omega, by omega⟩, ?_⟩ | refine ⟨(by show (0 : Int) < _; first | decide | omega), ?_⟩ | refine ⟨Nat.le_trans (Nat.le_of_ble_eq_true rfl : _ ≤ 50) (by decide), ?_⟩ | refine ⟨_, _, _, _, rfl, rfl, upd_same, rfl, ?_⟩ | refine ⟨_, _, _, _, rfl, rfl, SqL.of upd_same, rfl, ?_⟩ | refine ⟨_, _, _, _, rfl, rfl, SqT.of upd_same, rfl, ?_⟩ | refine ⟨_, _, rfl, .inl (SqL.of upd_same), ?_⟩ | refine ⟨_, _, rfl, .inr (SqT.of upd_same), ?_⟩ | (refine' ⟨_, _, _, _, rfl, rfl, _, _, _⟩; rotate_left 2; (focus (first | assumption | exact SqL.of (by assumption) | exact SqT.of (by assumption) | exact Same.seq (by assumption) (by assumption))); (focus (exact rfl))) | (refine' ⟨_, _, rfl, _, _⟩; rotate_left 1; (focus (first | exact .inl (by assumption) | exact .inl (SqL.of (by assumption)) | exact .inr (by assumption) | exact .inr (SqT.of (by assumption)))))))
    refine fun l2 h2 => ?_
    have o2 := o1.add (u := .lst [.str "down", .str "up", .str "carry", .str "clear", .str "load", .str "store", .str "jump", .str "below", .str "call", .str "ret", .str "halt"]) h2
    refine ⟨l1, l2, _, _, rfl, rfl, o2.mem (List.mem_cons_of_mem _ (List.mem_cons_self ..)), o2.mem (List.mem_cons_self ..), by show 25 ≤ sizeLine; decide, fun l3 h3 => ?_⟩
    have o3 := o2.add (u := .lst (names25.map V.str)) h3
    (repeat (first | refine ⟨_, rfl, ?_⟩ | refine ⟨_, _, rfl, rfl, ?_⟩ | refine ⟨rfl, ?_⟩ | refine .inl ⟨_, rfl, ?_⟩ | refine .inr ⟨_, rfl, ?_⟩ | refine ⟨.inr ⟨by decide, by decide⟩, ?_⟩ | refine ⟨⟨by decide, by decide⟩, ?_⟩ | refine ⟨⟨by decide, by decide, by decide⟩, ?_⟩ | refine ⟨.inr ⟨by omega, by omega⟩, ?_⟩ | refine ⟨(by show (0 : Int) < _; first | decide | omega), ?_⟩ | refine ⟨Nat.le_trans (Nat.le_of_ble_eq_true rfl : _ ≤ 50) (by decide), ?_⟩ | refine ⟨_, _, _, _, rfl, rfl, upd_same, rfl, ?_⟩ | refine ⟨_, _, _, _, rfl, rfl, SqL.of upd_same, rfl, ?_⟩ | refine ⟨_, _, _, _, rfl, rfl, SqT.of upd_same, rfl, ?_⟩ | refine ⟨_, _, rfl, .inl (SqL.of upd_same), ?_⟩ | refine ⟨_, _, rfl, .inr (SqT.of upd_same), ?_⟩ | (refine' ⟨_, _, _, _, rfl, rfl, _, _, _⟩; rotate_left 2; (focus (first | assumption | exact SqL.of (by assumption) | exact SqT.of (by assumption) | exact Same.seq (by assumption) (by assumption))); (focus (exact rfl))) | (refine' ⟨_, _, rfl, _, _⟩; rotate_left 1; (focus (first | exact .inl (by assumption) | exact .inl (SqL.of (by assumption)) | exact .inr (by assumption) | exact .inr (SqT.of (by assumption)))))))
    dsimp only [tCons, tC, tNil]
    refine o3.draw (by decide) (by decide) fun v H4 v0 v1 o4 => ?_
    obtain ⟨n, hn, hat⟩ := at_map V.str (l := names25) v0 v1
    obtain ⟨n1, n2⟩ := names_ok n hn
    refine ⟨l3, _, _, _, rfl, rfl, SqL.of (o4.mem (List.mem_cons_self ..)), hat, ?_⟩
    exact q n _ n1 n2 (o4.sub ((List.sublist_cons_self _ _).trans ((List.sublist_cons_self _ _).trans (List.sublist_cons_self _ _))))
theorem ok_good (T : Tx w K mg) : FnOk P w K mg base CX0 3 T.a_law_good T.d_law_good ["source"] (spGood P1 P2) := by
  have G_law_draw : FnOk P w K mg base CX0 1 T.a_law_draw T.d_law_draw ["source", "many"] spDraw := ok_draw T
  have G_law_name : FnOk P w K mg base CX0 2 T.a_law_name T.d_law_name ["source"] (spName P1 P2) := ok_name T
  have G_law_limits : FnOk P w K mg base CX0 1 T.a_law_limits T.d_law_limits ["name"] spLimits := ok_limits T
  refine T.F_law_good.ok sc_law_good (fun vs H Q E h => ?_) (fun cdv A outer s H vs Q E hr h => ?_)
  · obtain ⟨H0, p, L, rfl, _⟩ := h
    rfl
  · obtain ⟨H0, p, L, rfl, o, q⟩ := h
    have hr_law_draw : Room 1 _ := hr.mono (by decide)
    have hr_law_limits : Room 1 _ := hr.mono (by decide)
    have hr_law_name : Room 2 _ := hr
    refine ⟨_, (pss_cons (ps_set (i := 1) sc_law_good.nd rfl (.inl rfl) (pe_call G_law_name hr_law_name (by rfl) T.g_law_name T.F_law_name.kp T.b_law_name .nil pass0 (pa_cons (pv 0) pa_nil)))
        (pss_cons (ps_set (i := 2) sc_law_good.nd rfl (.inl rfl) (pe_lst (pa_cons (pv 1) pa_nil)))
        (pss_cons (ps_for PassesOwn.never rfl (pi_list (pe_call G_law_limits hr_law_limits (by rfl) T.g_law_limits T.F_law_limits.kp T.b_law_limits .nil pass0 (pa_cons (pv 1) pa_nil))) (pg_name (i := 3) sc_law_good.nd rfl (.inl rfl))
        (pss_cons (ps_set (i := 4) sc_law_good.nd rfl (.inl rfl) (pe_call G_law_draw hr_law_draw (by rfl) T.g_law_draw T.F_law_draw.kp T.b_law_draw .nil pass0 (pa_cons (pv 0) (pa_cons pe_int pa_nil))))
        (pss_one (ps_if (pt_cmpR op_eq (pv 4) pe_int (nomark _))
        (pss_one (ps_expr (pe_bm PySem.F.plainAttrs_list PySem.F.slot_list_append PySem.F.type_list_append mt_append (pv 2) (pa_cons pe_int pa_nil))))
        (pss_one (ps_if (pt_cmpR op_eq (pv 4) pe_int (nomark _))
        (pss_one (ps_expr (pe_bm PySem.F.plainAttrs_list PySem.F.slot_list_append PySem.F.type_list_append mt_append (pv 2) (pa_cons (pv 3) pa_nil))))
        (pss_one (ps_expr (pe_bm PySem.F.plainAttrs_list PySem.F.slot_list_append PySem.F.type_list_append mt_append (pv 2) (pa_cons (pe_call G_law_draw hr_law_draw (by rfl) T.g_law_draw T.F_law_draw.kp T.b_law_draw .nil pass0 (pa_cons (pv 0) (pa_cons (pe_op op_add (pv 3) pe_int) pa_nil))) pa_nil))))))))))
        (pss_one (ps_ret (pe_callTy call_tuple_of (by rfl) T.z_tuple (by decide +kernel) (pa_cons (pv 2) pa_nil))))))), ?_⟩
    refine ⟨_, rfl, ?_⟩
    dsimp only [tCons, tC, tNil]
    refine ⟨H0, p, L, rfl, o, fun n H1 hn hk o1 => ?_⟩
    (repeat (first | refine ⟨_, rfl, ?_⟩ | refine ⟨_, _, rfl, rfl, ?_⟩ | refine ⟨rfl, ?_⟩ | refine .inl ⟨_, rfl, ?_⟩ | refine .inr ⟨_, rfl, ?_⟩ | refine ⟨.inr ⟨by decide, by decide⟩, ?_⟩ | refine ⟨⟨by decide, by decide⟩, ?_⟩ | refine ⟨⟨by decide, by decide, by decide⟩, ?_⟩ | refine ⟨.inr ⟨by omega, by omega⟩, ?_⟩ | refine ⟨(by show (0 : Int) < _; first | decide | omega), ?_⟩ | refine ⟨Nat.le_trans (Nat.le_of_ble_eq_true rfl : _ ≤ 50) (by decide), ?_⟩ | refine ⟨_, _, _, _, rfl, rfl, upd_same, rfl, ?_⟩ | refine ⟨_, _, _, _, rfl, rfl, SqL.of upd_same, rfl, ?_⟩ | refine ⟨_, _, _, _, rfl, rfl, SqT.of upd_same, rfl, ?_⟩ | refine ⟨_, _, rfl, .inl (SqL.of upd_same), ?_⟩ | refine ⟨_, _, rfl, .inr (SqT.of upd_same), ?_⟩ | (refine' ⟨_, _, _, _, rfl, rfl, _, _, _⟩; rotate_left 2; (focus (first | assumption | exact SqL.of (by assumption) | exact SqT.of (by assumption) | exact Same.seq (by assumption) (by assumption))); (focus (exact rfl))) | (refine' ⟨_, _, rfl, _, _⟩; rotate_left 1; (focus (first | exact .inl (by assumption) | exact .inl (SqL.of (by assumption)) | exact .inr (by assumption) | exact .inr (SqT.of (by assumption)))))))
    refine fun b hb => ?_
    have o2 := o1.add (u := .lst [.str n]) hb
    (repeat (first | refine ⟨_, rfl, ?_⟩ | refine ⟨_, _, rfl, rfl, ?_⟩ | refine ⟨rfl, ?_⟩ | refine .inl ⟨_, rfl, ?_⟩ | refine .inr ⟨_, rfl, ?_⟩ | refine ⟨.inr ⟨by decide, by decide⟩, ?_⟩ | refine ⟨⟨by decide, by decide⟩, ?_⟩ | refine ⟨⟨by decide, by decide, by decide⟩, ?_⟩ | refine ⟨.inr ⟨by omega, by omega⟩, ?_⟩ | refine ⟨(by show (0 : Int) < _; first | decide | omega), ?_⟩ | refine ⟨Nat.le_trans (Nat.le_of_ble_eq_true rfl : _ ≤ 50) (by decide), ?_⟩ | refine ⟨_, _, _, _, rfl, rfl, upd_same, rfl, ?_⟩ | refine ⟨_, _, _, _, rfl, rfl, SqL.of upd_same, rfl, ?_⟩ | refine ⟨_, _, _, _, rfl, rfl, SqT.of upd_same, rfl, ?_⟩ | refine ⟨_, _, rfl, .inl (SqL.of upd_same), ?_⟩ | refine ⟨_, _, rfl, .inr (SqT.of upd_same), ?_⟩ | (refine' ⟨_, _, _, _, rfl, rfl, _, _, _⟩; rotate_left 2; (focus (first | assumption | exact SqL.of (by assumption) | exact SqT.of (by assumption) | exact Same.seq (by assumption) (by assumption))); (focus (exact rfl))) | (refine' ⟨_, _, rfl, _, _⟩; rotate_left 1; (focus (first | exact .inl (by assumption) | exact .inl (SqL.of (by assumption)) | exact .inr (by assumption) | exact .inr (SqT.of (by assumption)))))))
    refine ⟨hn, fun ls hls H3 s3 l hl h3 => ?_, fun e => ?_⟩
    · have o3 := o2.push hl s3 h3
      (repeat (first | refine ⟨_, rfl, ?_⟩ | refine ⟨_, _, rfl, rfl, ?_⟩ | refine ⟨rfl, ?_⟩ | refine .inl ⟨_, rfl, ?_⟩ | refine .inr ⟨_, rfl, ?_⟩ | refine ⟨.inr ⟨by decide, by decide⟩, ?_⟩ | refine ⟨⟨by decide, by decide⟩, ?_⟩ | refine ⟨⟨by decide, by decide, by decide⟩, ?_⟩ | refine ⟨.inr ⟨by omega, by omega⟩, ?_⟩ | refine ⟨(by show (0 : Int) < _; first | decide | omega), ?_⟩ | refine ⟨Nat.le_trans (Nat.le_of_ble_eq_true rfl : _ ≤ 50) (by decide), ?_⟩ | refine ⟨_, _, _, _, rfl, rfl, upd_same, rfl, ?_⟩ | refine ⟨_, _, _, _, rfl, rfl, SqL.of upd_same, rfl, ?_⟩ | refine ⟨_, _, _, _, rfl, rfl, SqT.of upd_same, rfl, ?_⟩ | refine ⟨_, _, rfl, .inl (SqL.of upd_same), ?_⟩ | refine ⟨_, _, rfl, .inr (SqT.of upd_same), ?_⟩ | (refine' ⟨_, _, _, _, rfl, rfl, _, _, _⟩; rotate_left 2; (focus (first | assumption | exact SqL.of (by assumption) | exact SqT.of (by assumption) | exact Same.seq (by assumption) (by assumption))); (focus (exact rfl))) | (refine' ⟨_, _, rfl, _, _⟩; rotate_left 1; (focus (first | exact .inl (by assumption) | exact .inl (SqL.of (by assumption)) | exact .inr (by assumption) | exact .inr (SqT.of (by assumption)))))))
      have htop : ∀ l ∈ ls, 0 ≤ l ∧ l ≤ 65535 := lims_top n ls hls
      refine ⟨⟨_, SqL.of h3⟩, for_list (K := K) (a := l) (xs := ls.map V.int) (fun i σ H' => ∃ (v3 v4 : Option V) (js : List Int), σ = [some (.ref p), some (.str n), some (.ref b), v3, v4] ∧ Wd P1 P2 H0 H' p ((l, .lst (ls.map V.int)) :: (b, .lst (.str n :: js.map V.int)) :: L) ∧ js.length = i ∧ js.length ≤ ls.length ∧ allIn (ls.take i) (js.map PyData.int) = true) ?_ ?_ ?_ ?_⟩
      · exact ⟨none, none, [], rfl, o3, rfl, Nat.zero_le _, by rw [List.take_zero]; rfl⟩
      · rintro i σ H' _ ⟨v3, v4, js, rfl, o4, _⟩
        exact SqL.of (o4.mem (List.mem_cons_self ..))
      · rintro i x σ H4 hx ⟨v3, v4, js, rfl, o4, rfl, hjl, hall⟩
        have hi : js.length < ls.length := by
          rcases Nat.lt_or_ge js.length ls.length with z | z
          · exact z
          · rw [List.getElem?_eq_none (by rw [List.length_map]; exact z)] at hx
            cases hx
        obtain rfl : x = .int ls[js.length] := by
          rw [List.getElem?_map, List.getElem?_eq_getElem hi] at hx
          cases hx
          rfl
        obtain ⟨l0, l1⟩ := htop _ (List.getElem_mem hi)
        have next : ∀ (z : Int) (v4 : Option V) (H5 : Hp), 0 ≤ z → z ≤ ls[js.length] → Wd P1 P2 H0 H5 p ((l, .lst (ls.map V.int)) :: (b, .lst (.str n :: js.map V.int)) :: L) →
            ∃ (v3 v4' : Option V) (js' : List Int), [some (.ref p), some (.str n), some (.ref b), some (V.int ls[js.length]), v4] = [some (.ref p), some (.str n), some (.ref b), v3, v4'] ∧ Wd P1 P2 H0 (upd H5 b (.lst ((.str n :: js.map V.int) ++ [.int z]))) p ((l, .lst (ls.map V.int)) :: (b, .lst (.str n :: js'.map V.int)) :: L) ∧ js'.length = js.length + 1 ∧ js'.length ≤ ls.length ∧ allIn (ls.take (js.length + 1)) (js'.map PyData.int) = true := by
          intro z v4 H5 z0 z1 o5
          refine ⟨_, _, js ++ [z], rfl, ?_, by rw [List.length_append]; rfl, by rw [List.length_append]; exact hi, ?_⟩
          · rw [List.map_append]
            exact o5.put (u' := .lst (.str n :: (js.map V.int ++ [.int z]))) 1 rfl
          · rw [List.take_add_one, List.getElem?_eq_getElem hi, List.map_append]
            refine allIn_snoc hall ?_
            show (decide (0 ≤ z) && decide (z ≤ ls[js.length])) = true
            rw [decide_eq_true z0, decide_eq_true z1]
            rfl
        (repeat (first | refine ⟨_, rfl, ?_⟩ | refine ⟨_, _, rfl, rfl, ?_⟩ | refine ⟨rfl, ?_⟩ | refine .inl ⟨_, rfl, ?_⟩ | refine .inr ⟨_, rfl, ?_⟩ | refine ⟨.inr ⟨by decide, by decide⟩, ?_⟩ | refine ⟨⟨by decide, by decide⟩, ?_⟩ | refine ⟨⟨by decide, by decide, by decide⟩, ?_⟩ | refine ⟨.inr ⟨by omega, by omega⟩, ?_⟩ | refine ⟨(by show (0 : Int) < _; first | decide | omega), ?_⟩ | refine ⟨Nat.le_trans (Nat.le_of_ble_eq_true rfl : _ ≤ 50) (by decide), ?_⟩ | refine ⟨_, _, _, _, rfl, rfl, upd_same, rfl, ?_⟩ | refine ⟨_, _, _, _, rfl, rfl, SqL.of upd_same, rfl, ?_⟩ | refine ⟨_, _, _, _, rfl, rfl, SqT.of upd_same, rfl, ?_⟩ | refine ⟨_, _, rfl, .inl (SqL.of upd_same), ?_⟩ | refine ⟨_, _, rfl, .inr (SqT.of upd_same), ?_⟩ | (refine' ⟨_, _, _, _, rfl, rfl, _, _, _⟩; rotate_left 2; (focus (first | assumption | exact SqL.of (by assumption) | exact SqT.of (by assumption) | exact Same.seq (by assumption) (by assumption))); (focus (exact rfl))) | (refine' ⟨_, _, rfl, _, _⟩; rotate_left 1; (focus (first | exact .inl (by assumption) | exact .inl (SqL.of (by assumption)) | exact .inr (by assumption) | exact .inr (SqT.of (by assumption)))))))
        dsimp only [tCons, tC, tNil]
        refine o4.draw (by decide) (by decide) fun sh H5 _ _ o5 => ?_
        have hb5 := o5.mem (q := (b, .lst (.str n :: js.map V.int))) (List.mem_cons_of_mem _ (List.mem_cons_self ..))
        have small : (V.str n :: js.map V.int).length < sizeLine := by
          rw [List.length_cons, List.length_map]
          have := lims_len n ls hls
          exact Nat.lt_of_le_of_lt (show js.length + 1 ≤ 4 by omega) (by show 4 < sizeLine; decide)
        (repeat (first | refine ⟨_, rfl, ?_⟩ | refine ⟨_, _, rfl, rfl, ?_⟩ | refine ⟨rfl, ?_⟩ | refine .inl ⟨_, rfl, ?_⟩ | refine .inr ⟨_, rfl, ?_⟩ | refine ⟨.inr ⟨by decide, by decide⟩, ?_⟩ | refine ⟨⟨by decide, by decide⟩, ?_⟩ | refine ⟨⟨by decide, by decide, by decide⟩, ?_⟩ | refine ⟨.inr ⟨by omega, by omega⟩, ?_⟩ | refine ⟨(by show (0 : Int) < _; first | decide | omega), ?_⟩ | refine ⟨Nat.le_trans (Nat.le_of_ble_eq_true rfl : _ ≤ 50) (by decide), ?_⟩ | refine ⟨_, _, _, _, rfl, rfl, upd_same, rfl, ?_⟩ | refine ⟨_, _, _, _, rfl, rfl, SqL.of upd_same, rfl, ?_⟩ | refine ⟨_, _, _, _, rfl, rfl, SqT.of upd_same, rfl, ?_⟩ | refine ⟨_, _, rfl, .inl (SqL.of upd_same), ?_⟩ | refine ⟨_, _, rfl, .inr (SqT.of upd_same), ?_⟩ | (refine' ⟨_, _, _, _, rfl, rfl, _, _, _⟩; rotate_left 2; (focus (first | assumption | exact SqL.of (by assumption) | exact SqT.of (by assumption) | exact Same.seq (by assumption) (by assumption))); (focus (exact rfl))) | (refine' ⟨_, _, rfl, _, _⟩; rotate_left 1; (focus (first | exact .inl (by assumption) | exact .inl (SqL.of (by assumption)) | exact .inr (by assumption) | exact .inr (SqT.of (by assumption)))))))
        refine ite2 (fun e => ?_) (fun e => ?_)
        · (repeat (first | refine ⟨_, rfl, ?_⟩ | refine ⟨_, _, rfl, rfl, ?_⟩ | refine ⟨rfl, ?_⟩ | refine .inl ⟨_, rfl, ?_⟩ | refine .inr ⟨_, rfl, ?_⟩ | refine ⟨.inr ⟨by decide, by decide⟩, ?_⟩ | refine ⟨⟨by decide, by decide⟩, ?_⟩ | refine ⟨⟨by decide, by decide, by decide⟩, ?_⟩ | refine ⟨.inr ⟨by omega, by omega⟩, ?_⟩ | refine ⟨(by show (0 : Int) < _; first | decide | omega), ?_⟩ | refine ⟨Nat.le_trans (Nat.le_of_ble_eq_true rfl : _ ≤ 50) (by decide), ?_⟩ | refine ⟨_, _, _, _, rfl, rfl, upd_same, rfl, ?_⟩ | refine ⟨_, _, _, _, rfl, rfl, SqL.of upd_same, rfl, ?_⟩ | refine ⟨_, _, _, _, rfl, rfl, SqT.of upd_same, rfl, ?_⟩ | refine ⟨_, _, rfl, .inl (SqL.of upd_same), ?_⟩ | refine ⟨_, _, rfl, .inr (SqT.of upd_same), ?_⟩ | (refine' ⟨_, _, _, _, rfl, rfl, _, _, _⟩; rotate_left 2; (focus (first | assumption | exact SqL.of (by assumption) | exact SqT.of (by assumption) | exact Same.seq (by assumption) (by assumption))); (focus (exact rfl))) | (refine' ⟨_, _, rfl, _, _⟩; rotate_left 1; (focus (first | exact .inl (by assumption) | exact .inl (SqL.of (by assumption)) | exact .inr (by assumption) | exact .inr (SqT.of (by assumption)))))))
          refine ⟨.inl ⟨rfl, _, SqL.of hb5⟩, ?_⟩
          (repeat (first | refine ⟨_, rfl, ?_⟩ | refine ⟨_, _, rfl, rfl, ?_⟩ | refine ⟨rfl, ?_⟩ | refine .inl ⟨_, rfl, ?_⟩ | refine .inr ⟨_, rfl, ?_⟩ | refine ⟨.inr ⟨by decide, by decide⟩, ?_⟩ | refine ⟨⟨by decide, by decide⟩, ?_⟩ | refine ⟨⟨by decide, by decide, by decide⟩, ?_⟩ | refine ⟨.inr ⟨by omega, by omega⟩, ?_⟩ | refine ⟨(by show (0 : Int) < _; first | decide | omega), ?_⟩ | refine ⟨Nat.le_trans (Nat.le_of_ble_eq_true rfl : _ ≤ 50) (by decide), ?_⟩ | refine ⟨_, _, _, _, rfl, rfl, upd_same, rfl, ?_⟩ | refine ⟨_, _, _, _, rfl, rfl, SqL.of upd_same, rfl, ?_⟩ | refine ⟨_, _, _, _, rfl, rfl, SqT.of upd_same, rfl, ?_⟩ | refine ⟨_, _, rfl, .inl (SqL.of upd_same), ?_⟩ | refine ⟨_, _, rfl, .inr (SqT.of upd_same), ?_⟩ | (refine' ⟨_, _, _, _, rfl, rfl, _, _, _⟩; rotate_left 2; (focus (first | assumption | exact SqL.of (by assumption) | exact SqT.of (by assumption) | exact Same.seq (by assumption) (by assumption))); (focus (exact rfl))) | (refine' ⟨_, _, rfl, _, _⟩; rotate_left 1; (focus (first | exact .inl (by assumption) | exact .inl (SqL.of (by assumption)) | exact .inr (by assumption) | exact .inr (SqT.of (by assumption)))))))
          refine ⟨b, _, _, rfl, rfl, hb5, small, ?_⟩
          exact next 0 _ _ (Int.le_refl _) l0 o5
        · (repeat (first | refine ⟨_, rfl, ?_⟩ | refine ⟨_, _, rfl, rfl, ?_⟩ | refine ⟨rfl, ?_⟩ | refine .inl ⟨_, rfl, ?_⟩ | refine .inr ⟨_, rfl, ?_⟩ | refine ⟨.inr ⟨by decide, by decide⟩, ?_⟩ | refine ⟨⟨by decide, by decide⟩, ?_⟩ | refine ⟨⟨by decide, by decide, by decide⟩, ?_⟩ | refine ⟨.inr ⟨by omega, by omega⟩, ?_⟩ | refine ⟨(by show (0 : Int) < _; first | decide | omega), ?_⟩ | refine ⟨Nat.le_trans (Nat.le_of_ble_eq_true rfl : _ ≤ 50) (by decide), ?_⟩ | refine ⟨_, _, _, _, rfl, rfl, upd_same, rfl, ?_⟩ | refine ⟨_, _, _, _, rfl, rfl, SqL.of upd_same, rfl, ?_⟩ | refine ⟨_, _, _, _, rfl, rfl, SqT.of upd_same, rfl, ?_⟩ | refine ⟨_, _, rfl, .inl (SqL.of upd_same), ?_⟩ | refine ⟨_, _, rfl, .inr (SqT.of upd_same), ?_⟩ | (refine' ⟨_, _, _, _, rfl, rfl, _, _, _⟩; rotate_left 2; (focus (first | assumption | exact SqL.of (by assumption) | exact SqT.of (by assumption) | exact Same.seq (by assumption) (by assumption))); (focus (exact rfl))) | (refine' ⟨_, _, rfl, _, _⟩; rotate_left 1; (focus (first | exact .inl (by assumption) | exact .inl (SqL.of (by assumption)) | exact .inr (by assumption) | exact .inr (SqT.of (by assumption)))))))
          refine ite2 (fun e => ?_) (fun e => ?_)
          · (repeat (first | refine ⟨_, rfl, ?_⟩ | refine ⟨_, _, rfl, rfl, ?_⟩ | refine ⟨rfl, ?_⟩ | refine .inl ⟨_, rfl, ?_⟩ | refine .inr ⟨_, rfl, ?_⟩ | refine ⟨.inr ⟨by decide, by decide⟩, ?_⟩ | refine ⟨⟨by decide, by decide⟩, ?_⟩ | refine ⟨⟨by decide, by decide, by decide⟩, ?_⟩ | refine ⟨.inr ⟨by omega, by omega⟩, ?_⟩ | refine ⟨(by show (0 : Int) < _; first | decide | omega), ?_⟩ | refine ⟨Nat.le_trans (Nat.le_of_ble_eq_true rfl : _ ≤ 50) (by decide), ?_⟩ | refine ⟨_, _, _, _, rfl, rfl, upd_same, rfl, ?_⟩ | refine ⟨_, _, _, _, rfl, rfl, SqL.of upd_same, rfl, ?_⟩ | refine ⟨_, _, _, _, rfl, rfl, SqT.of upd_same, rfl, ?_⟩ | refine ⟨_, _, rfl, .inl (SqL.of upd_same), ?_⟩ | refine ⟨_, _, rfl, .inr (SqT.of upd_same), ?_⟩ | (refine' ⟨_, _, _, _, rfl, rfl, _, _, _⟩; rotate_left 2; (focus (first | assumption | exact SqL.of (by assumption) | exact SqT.of (by assumption) | exact Same.seq (by assumption) (by assumption))); (focus (exact rfl))) | (refine' ⟨_, _, rfl, _, _⟩; rotate_left 1; (focus (first | exact .inl (by assumption) | exact .inl (SqL.of (by assumption)) | exact .inr (by assumption) | exact .inr (SqT.of (by assumption)))))))
            refine ⟨.inl ⟨rfl, _, SqL.of hb5⟩, ?_⟩
            (repeat (first | refine ⟨_, rfl, ?_⟩ | refine ⟨_, _, rfl, rfl, ?_⟩ | refine ⟨rfl, ?_⟩ | refine .inl ⟨_, rfl, ?_⟩ | refine .inr ⟨_, rfl, ?_⟩ | refine ⟨.inr ⟨by decide, by decide⟩, ?_⟩ | refine ⟨⟨by decide, by decide⟩, ?_⟩ | refine ⟨⟨by decide, by decide, by decide⟩, ?_⟩ | refine ⟨.inr ⟨by omega, by omega⟩, ?_⟩ | refine ⟨(by show (0 : Int) < _; first | decide | omega), ?_⟩ | refine ⟨Nat.le_trans (Nat.le_of_ble_eq_true rfl : _ ≤ 50) (by decide), ?_⟩ | refine ⟨_, _, _, _, rfl, rfl, upd_same, rfl, ?_⟩ | refine ⟨_, _, _, _, rfl, rfl, SqL.of upd_same, rfl, ?_⟩ | refine ⟨_, _, _, _, rfl, rfl, SqT.of upd_same, rfl, ?_⟩ | refine ⟨_, _, rfl, .inl (SqL.of upd_same), ?_⟩ | refine ⟨_, _, rfl, .inr (SqT.of upd_same), ?_⟩ | (refine' ⟨_, _, _, _, rfl, rfl, _, _, _⟩; rotate_left 2; (focus (first | assumption | exact SqL.of (by assumption) | exact SqT.of (by assumption) | exact Same.seq (by assumption) (by assumption))); (focus (exact rfl))) | (refine' ⟨_, _, rfl, _, _⟩; rotate_left 1; (focus (first | exact .inl (by assumption) | exact .inl (SqL.of (by assumption)) | exact .inr (by assumption) | exact .inr (SqT.of (by assumption)))))))
            refine ⟨b, _, _, rfl, rfl, hb5, small, ?_⟩
            exact next _ _ _ l0 (Int.le_refl _) o5
          · (repeat (first | refine ⟨_, rfl, ?_⟩ | refine ⟨_, _, rfl, rfl, ?_⟩ | refine ⟨rfl, ?_⟩ | refine .inl ⟨_, rfl, ?_⟩ | refine .inr ⟨_, rfl, ?_⟩ | refine ⟨.inr ⟨by decide, by decide⟩, ?_⟩ | refine ⟨⟨by decide, by decide⟩, ?_⟩ | refine ⟨⟨by decide, by decide, by decide⟩, ?_⟩ | refine ⟨.inr ⟨by omega, by omega⟩, ?_⟩ | refine ⟨(by show (0 : Int) < _; first | decide | omega), ?_⟩ | refine ⟨Nat.le_trans (Nat.le_of_ble_eq_true rfl : _ ≤ 50) (by decide), ?_⟩ | refine ⟨_, _, _, _, rfl, rfl, upd_same, rfl, ?_⟩ | refine ⟨_, _, _, _, rfl, rfl, SqL.of upd_same, rfl, ?_⟩ | refine ⟨_, _, _, _, rfl, rfl, SqT.of upd_same, rfl, ?_⟩ | refine ⟨_, _, rfl, .inl (SqL.of upd_same), ?_⟩ | refine ⟨_, _, rfl, .inr (SqT.of upd_same), ?_⟩ | (refine' ⟨_, _, _, _, rfl, rfl, _, _, _⟩; rotate_left 2; (focus (first | assumption | exact SqL.of (by assumption) | exact SqT.of (by assumption) | exact Same.seq (by assumption) (by assumption))); (focus (exact rfl))) | (refine' ⟨_, _, rfl, _, _⟩; rotate_left 1; (focus (first | exact .inl (by assumption) | exact .inl (SqL.of (by assumption)) | exact .inr (by assumption) | exact .inr (SqT.of (by assumption)))))))
            refine ⟨.inl ⟨rfl, _, SqL.of hb5⟩, ?_⟩
            (repeat (first | refine ⟨_, rfl, ?_⟩ | refine ⟨_, _, rfl, rfl, ?_⟩ | refine ⟨rfl, ?_⟩ | refine .inl ⟨_, rfl, ?_⟩ | refine .inr ⟨_, rfl, ?_⟩ | refine ⟨.inr ⟨by decide, by decide⟩, ?_⟩ | refine ⟨⟨by decide, by decide⟩, ?_⟩ | refine ⟨⟨by decide, by decide, by decide⟩, ?_⟩ | refine ⟨.inr ⟨by omega, by omega⟩, ?_⟩ | refine ⟨(by show (0 : Int) < _; first | decide | omega), ?_⟩ | refine ⟨Nat.le_trans (Nat.le_of_ble_eq_true rfl : _ ≤ 50) (by decide), ?_⟩ | refine ⟨_, _, _, _, rfl, rfl, upd_same, rfl, ?_⟩ | refine ⟨_, _, _, _, rfl, rfl, SqL.of upd_same, rfl, ?_⟩ | refine ⟨_, _, _, _, rfl, rfl, SqT.of upd_same, rfl, ?_⟩ | refine ⟨_, _, rfl, .inl (SqL.of upd_same), ?_⟩ | refine ⟨_, _, rfl, .inr (SqT.of upd_same), ?_⟩ | (refine' ⟨_, _, _, _, rfl, rfl, _, _, _⟩; rotate_left 2; (focus (first | assumption | exact SqL.of (by assumption) | exact SqT.of (by assumption) | exact Same.seq (by assumption) (by assumption))); (focus (exact rfl))) | (refine' ⟨_, _, rfl, _, _⟩; rotate_left 1; (focus (first | exact .inl (by assumption) | exact .inl (SqL.of (by assumption)) | exact .inr (by assumption) | exact .inr (SqT.of (by assumption)))))))
            dsimp only [tCons, tC, tNil]
            refine o5.draw (by omega) (by omega) fun z H6 z0 z1 o6 => ?_
            refine ⟨b, _, _, rfl, rfl, o6.mem (q := (b, .lst (.str n :: js.map V.int))) (List.mem_cons_of_mem _ (List.mem_cons_self ..)), small, ?_⟩
            exact next _ _ _ z0 (by omega) o6
      · rintro σ H5 ⟨v3, v4, js, rfl, o4, hjl, _, hall⟩
        rw [List.length_map] at hjl hall
        rw [List.take_of_length_le (Nat.le_refl _)] at hall
        (repeat (first | refine ⟨_, rfl, ?_⟩ | refine ⟨_, _, rfl, rfl, ?_⟩ | refine ⟨rfl, ?_⟩ | refine .inl ⟨_, rfl, ?_⟩ | refine .inr ⟨_, rfl, ?_⟩ | refine ⟨.inr ⟨by decide, by decide⟩, ?_⟩ | refine ⟨⟨by decide, by decide⟩, ?_⟩ | refine ⟨⟨by decide, by decide, by decide⟩, ?_⟩ | refine ⟨.inr ⟨by omega, by omega⟩, ?_⟩ | refine ⟨(by show (0 : Int) < _; first | decide | omega), ?_⟩ | refine ⟨Nat.le_trans (Nat.le_of_ble_eq_true rfl : _ ≤ 50) (by decide), ?_⟩ | refine ⟨_, _, _, _, rfl, rfl, upd_same, rfl, ?_⟩ | refine ⟨_, _, _, _, rfl, rfl, SqL.of upd_same, rfl, ?_⟩ | refine ⟨_, _, _, _, rfl, rfl, SqT.of upd_same, rfl, ?_⟩ | refine ⟨_, _, rfl, .inl (SqL.of upd_same), ?_⟩ | refine ⟨_, _, rfl, .inr (SqT.of upd_same), ?_⟩ | (refine' ⟨_, _, _, _, rfl, rfl, _, _, _⟩; rotate_left 2; (focus (first | assumption | exact SqL.of (by assumption) | exact SqT.of (by assumption) | exact Same.seq (by assumption) (by assumption))); (focus (exact rfl))) | (refine' ⟨_, _, rfl, _, _⟩; rotate_left 1; (focus (first | exact .inl (by assumption) | exact .inl (SqL.of (by assumption)) | exact .inr (by assumption) | exact .inr (SqT.of (by assumption)))))))
        refine ⟨b, _, rfl, .inl ⟨SqL.of (o4.mem (q := (b, .lst (.str n :: js.map V.int))) (List.mem_cons_of_mem _ (List.mem_cons_self ..))), fun r hr => ?_⟩⟩
        have o5 := o4.add (u := .tup (.str n :: js.map V.int)) hr
        exact q r n ls js _ hn hls hall (o5.sub (((List.sublist_cons_self _ _).trans (List.sublist_cons_self _ _)).cons_cons _))
    · obtain ⟨ks, hks⟩ := Option.isSome_iff_exists.mp hk
      unfold limsOf at e
      rw [hks] at e
      cases e
theorem ok_other (T : Tx w K mg) : FnOk P w K mg base CX0 3 T.a_law_other T.d_law_other ["source"] (spOther P1 P2) := by
  have G_law_draw : FnOk P w K mg base CX0 1 T.a_law_draw T.d_law_draw ["source", "many"] spDraw := ok_draw T
  have G_law_name : FnOk P w K mg base CX0 2 T.a_law_name T.d_law_name ["source"] (spName P1 P2) := ok_name T
  refine T.F_law_other.ok sc_law_other (fun vs H Q E h => ?_) (fun cdv A outer s H vs Q E hr h => ?_)
  · obtain ⟨H0, p, L, rfl, _⟩ := h
    rfl
  · obtain ⟨H0, p, L, rfl, o, q⟩ := h
    have hr_law_draw : Room 1 _ := hr.mono (by decide)
    have hr_law_name : Room 2 _ := hr
    refine ⟨_, (pss_cons (ps_set (i := 1) sc_law_other.nd rfl (.inl rfl) (pe_call G_law_draw hr_law_draw (by rfl) T.g_law_draw T.F_law_draw.kp T.b_law_draw .nil pass0 (pa_cons (pv 0) (pa_cons pe_int pa_nil))))
        (pss_cons (ps_if (pt_cmpR op_lt (pv 1) pe_int (nomark _))
        (pss_one (ps_ret (pe_ix ix_list (pe_lst (pa_cons (pe_un un_neg pe_int) (pa_cons pe_int (pa_cons pe_int (pa_cons pe_int (pa_cons pe_int (pa_cons pe_int (pa_cons pe_int (pa_cons pe_int pa_nil))))))))) (pv 1) (fun _ _ => rfl))))
        pss_nil)
        (pss_cons (ps_if (pt_cmpR op_eq (pv 1) pe_int (nomark _))
        (pss_one (ps_ret (pe_cmpR op_eq (pe_call G_law_draw hr_law_draw (by rfl) T.g_law_draw T.F_law_draw.kp T.b_law_draw .nil pass0 (pa_cons (pv 0) (pa_cons pe_int pa_nil))) pe_int (nomark _))))
        pss_nil)
        (pss_cons (ps_if (pt_cmpR op_eq (pv 1) pe_int (nomark _))
        (pss_one (ps_ret pe_non))
        pss_nil)
        (pss_cons (ps_if (pt_cmpR op_eq (pv 1) pe_int (nomark _))
        (pss_one (ps_ret (pe_ix ix_list (pe_lst (pa_cons pe_str (pa_cons pe_str (pa_cons pe_str (pa_cons pe_str (pa_cons pe_str (pa_cons pe_str (pa_cons pe_str (pa_cons pe_str pa_nil))))))))) (pe_call G_law_draw hr_law_draw (by rfl) T.g_law_draw T.F_law_draw.kp T.b_law_draw .nil pass0 (pa_cons (pv 0) (pa_cons pe_int pa_nil))) (fun _ _ => rfl))))
        pss_nil)
        (pss_cons (ps_if (pt_cmpR op_eq (pv 1) pe_int (nomark _))
        (pss_one (ps_ret (pe_ix ix_list (pe_lst (pa_cons (pe_tup pa_nil) (pa_cons (pe_tup (pa_cons pe_int pa_nil)) (pa_cons (pe_tup (pa_cons pe_str pa_nil)) pa_nil)))) (pe_call G_law_draw hr_law_draw (by rfl) T.g_law_draw T.F_law_draw.kp T.b_law_draw .nil pass0 (pa_cons (pv 0) (pa_cons pe_int pa_nil))) (fun _ _ => rfl))))
        pss_nil)
        (pss_cons (ps_if (pt_cmpR op_eq (pv 1) pe_int (nomark _))
        (pss_one (ps_ret (pe_lst (pa_cons (pe_call G_law_draw hr_law_draw (by rfl) T.g_law_draw T.F_law_draw.kp T.b_law_draw .nil pass0 (pa_cons (pv 0) (pa_cons pe_int pa_nil))) pa_nil))))
        pss_nil)
        (pss_cons (ps_if (pt_cmpR op_eq (pv 1) pe_int (nomark _))
        (pss_one (ps_ret (pe_call G_law_name hr_law_name (by rfl) T.g_law_name T.F_law_name.kp T.b_law_name .nil pass0 (pa_cons (pv 0) pa_nil))))
        pss_nil)
        (pss_cons (ps_if (pt_cmpR op_eq (pv 1) pe_int (nomark _))
        (pss_one (ps_ret (pe_op op_add (pe_op op_pow pe_int pe_int) (pe_call G_law_draw hr_law_draw (by rfl) T.g_law_draw T.F_law_draw.kp T.b_law_draw .nil pass0 (pa_cons (pv 0) (pa_cons pe_int pa_nil))))))
        pss_nil)
        (pss_one (ps_ret (pe_op op_sub (pe_call G_law_draw hr_law_draw (by rfl) T.g_law_draw T.F_law_draw.kp T.b_law_draw .nil pass0 (pa_cons (pv 0) (pa_cons pe_int pa_nil))) pe_int)))))))))))), ?_⟩
    have fin : ∀ v d H', Wd P1 P2 H0 H' p L → PL 1 [] v d → Q v H' := fun v d H' o' h => q v d [] H' o' h
    have atom : ∀ v d H', Wd P1 P2 H0 H' p L → Atom v d → Q v H' := fun v d H' o' h => fin v d H' o' (.inl h)
    refine ⟨_, rfl, ?_⟩
    dsimp only [tCons, tC, tNil]
    refine o.draw (by decide) (by decide) fun sh H1 v0 v1 o1 => ?_
    (repeat (first | refine ⟨_, rfl, ?_⟩ | refine ⟨_, _, rfl, rfl, ?_⟩ | refine ⟨rfl, ?_⟩ | refine .inl ⟨_, rfl, ?_⟩ | refine .inr ⟨_, rfl, ?_⟩ | refine ⟨.inr ⟨by decide, by decide⟩, ?_⟩ | refine ⟨⟨by decide, by decide⟩, ?_⟩ | refine ⟨⟨by decide, by decide, by decide⟩, ?_⟩ | refine ⟨.inr ⟨by omega, by omega⟩, ?_⟩ | refine ⟨(by show (0 : Int) < _; first | decide | omega), ?_⟩ | refine ⟨Nat.le_trans (Nat.le_of_ble_eq_true rfl : _ ≤ 50) (by decide), ?_⟩ | refine ⟨_, _, _, _, rfl, rfl, upd_same, rfl, ?_⟩ | refine ⟨_, _, _, _, rfl, rfl, SqL.of upd_same, rfl, ?_⟩ | refine ⟨_, _, _, _, rfl, rfl, SqT.of upd_same, rfl, ?_⟩ | refine ⟨_, _, rfl, .inl (SqL.of upd_same), ?_⟩ | refine ⟨_, _, rfl, .inr (SqT.of upd_same), ?_⟩ | (refine' ⟨_, _, _, _, rfl, rfl, _, _, _⟩; rotate_left 2; (focus (first | assumption | exact SqL.of (by assumption) | exact SqT.of (by assumption) | exact Same.seq (by assumption) (by assumption))); (focus (exact rfl))) | (refine' ⟨_, _, rfl, _, _⟩; rotate_left 1; (focus (first | exact .inl (by assumption) | exact .inl (SqL.of (by assumption)) | exact .inr (by assumption) | exact .inr (SqT.of (by assumption)))))))
    refine ite2 (fun e => ?_) (fun e => ?_)
    · have e := of_decide_eq_true e
      (repeat (first | refine ⟨_, rfl, ?_⟩ | refine ⟨_, _, rfl, rfl, ?_⟩ | refine ⟨rfl, ?_⟩ | refine .inl ⟨_, rfl, ?_⟩ | refine .inr ⟨_, rfl, ?_⟩ | refine ⟨.inr ⟨by decide, by decide⟩, ?_⟩ | refine ⟨⟨by decide, by decide⟩, ?_⟩ | refine ⟨⟨by decide, by decide, by decide⟩, ?_⟩ | refine ⟨.inr ⟨by omega, by omega⟩, ?_⟩ | refine ⟨(by show (0 : Int) < _; first | decide | omega), ?_⟩ | refine ⟨Nat.le_trans (Nat.le_of_ble_eq_true rfl : _ ≤ 50) (by decide), ?_⟩ | refine ⟨_, _, _, _, rfl, rfl, upd_same, rfl, ?_⟩ | refine ⟨_, _, _, _, rfl, rfl, SqL.of upd_same, rfl, ?_⟩ | refine ⟨_, _, _, _, rfl, rfl, SqT.of upd_same, rfl, ?_⟩ | refine ⟨_, _, rfl, .inl (SqL.of upd_same), ?_⟩ | refine ⟨_, _, rfl, .inr (SqT.of upd_same), ?_⟩ | (refine' ⟨_, _, _, _, rfl, rfl, _, _, _⟩; rotate_left 2; (focus (first | assumption | exact SqL.of (by assumption) | exact SqT.of (by assumption) | exact Same.seq (by assumption) (by assumption))); (focus (exact rfl))) | (refine' ⟨_, _, rfl, _, _⟩; rotate_left 1; (focus (first | exact .inl (by assumption) | exact .inl (SqL.of (by assumption)) | exact .inr (by assumption) | exact .inr (SqT.of (by assumption)))))))
      refine fun l hl => ?_
      obtain ⟨z, _, hz⟩ := at_map V.int (l := [-1, 16, 4096, 20000, 65536, 15, 65535, 0]) v0 e
      refine ⟨_, rfl, l, _, _, _, rfl, rfl, SqL.of upd_same, hz, ?_⟩
      exact atom _ (.int z) _ (o1.skip hl) rfl
    have e := fun h => e (decide_eq_true h)
    (repeat (first | refine ⟨_, rfl, ?_⟩ | refine ⟨_, _, rfl, rfl, ?_⟩ | refine ⟨rfl, ?_⟩ | refine .inl ⟨_, rfl, ?_⟩ | refine .inr ⟨_, rfl, ?_⟩ | refine ⟨.inr ⟨by decide, by decide⟩, ?_⟩ | refine ⟨⟨by decide, by decide⟩, ?_⟩ | refine ⟨⟨by decide, by decide, by decide⟩, ?_⟩ | refine ⟨.inr ⟨by omega, by omega⟩, ?_⟩ | refine ⟨(by show (0 : Int) < _; first | decide | omega), ?_⟩ | refine ⟨Nat.le_trans (Nat.le_of_ble_eq_true rfl : _ ≤ 50) (by decide), ?_⟩ | refine ⟨_, _, _, _, rfl, rfl, upd_same, rfl, ?_⟩ | refine ⟨_, _, _, _, rfl, rfl, SqL.of upd_same, rfl, ?_⟩ | refine ⟨_, _, _, _, rfl, rfl, SqT.of upd_same, rfl, ?_⟩ | refine ⟨_, _, rfl, .inl (SqL.of upd_same), ?_⟩ | refine ⟨_, _, rfl, .inr (SqT.of upd_same), ?_⟩ | (refine' ⟨_, _, _, _, rfl, rfl, _, _, _⟩; rotate_left 2; (focus (first | assumption | exact SqL.of (by assumption) | exact SqT.of (by assumption) | exact Same.seq (by assumption) (by assumption))); (focus (exact rfl))) | (refine' ⟨_, _, rfl, _, _⟩; rotate_left 1; (focus (first | exact .inl (by assumption) | exact .inl (SqL.of (by assumption)) | exact .inr (by assumption) | exact .inr (SqT.of (by assumption)))))))
    refine ite2 (fun e8 => ?_) (fun e8 => ?_)
    · (repeat (first | refine ⟨_, rfl, ?_⟩ | refine ⟨_, _, rfl, rfl, ?_⟩ | refine ⟨rfl, ?_⟩ | refine .inl ⟨_, rfl, ?_⟩ | refine .inr ⟨_, rfl, ?_⟩ | refine ⟨.inr ⟨by decide, by decide⟩, ?_⟩ | refine ⟨⟨by decide, by decide⟩, ?_⟩ | refine ⟨⟨by decide, by decide, by decide⟩, ?_⟩ | refine ⟨.inr ⟨by omega, by omega⟩, ?_⟩ | refine ⟨(by show (0 : Int) < _; first | decide | omega), ?_⟩ | refine ⟨Nat.le_trans (Nat.le_of_ble_eq_true rfl : _ ≤ 50) (by decide), ?_⟩ | refine ⟨_, _, _, _, rfl, rfl, upd_same, rfl, ?_⟩ | refine ⟨_, _, _, _, rfl, rfl, SqL.of upd_same, rfl, ?_⟩ | refine ⟨_, _, _, _, rfl, rfl, SqT.of upd_same, rfl, ?_⟩ | refine ⟨_, _, rfl, .inl (SqL.of upd_same), ?_⟩ | refine ⟨_, _, rfl, .inr (SqT.of upd_same), ?_⟩ | (refine' ⟨_, _, _, _, rfl, rfl, _, _, _⟩; rotate_left 2; (focus (first | assumption | exact SqL.of (by assumption) | exact SqT.of (by assumption) | exact Same.seq (by assumption) (by assumption))); (focus (exact rfl))) | (refine' ⟨_, _, rfl, _, _⟩; rotate_left 1; (focus (first | exact .inl (by assumption) | exact .inl (SqL.of (by assumption)) | exact .inr (by assumption) | exact .inr (SqT.of (by assumption)))))))
      dsimp only [tCons, tC, tNil]
      refine o1.draw (by decide) (by decide) fun v H2 _ _ o2 => ?_
      (repeat (first | refine ⟨_, rfl, ?_⟩ | refine ⟨_, _, rfl, rfl, ?_⟩ | refine ⟨rfl, ?_⟩ | refine .inl ⟨_, rfl, ?_⟩ | refine .inr ⟨_, rfl, ?_⟩ | refine ⟨.inr ⟨by decide, by decide⟩, ?_⟩ | refine ⟨⟨by decide, by decide⟩, ?_⟩ | refine ⟨⟨by decide, by decide, by decide⟩, ?_⟩ | refine ⟨.inr ⟨by omega, by omega⟩, ?_⟩ | refine ⟨(by show (0 : Int) < _; first | decide | omega), ?_⟩ | refine ⟨Nat.le_trans (Nat.le_of_ble_eq_true rfl : _ ≤ 50) (by decide), ?_⟩ | refine ⟨_, _, _, _, rfl, rfl, upd_same, rfl, ?_⟩ | refine ⟨_, _, _, _, rfl, rfl, SqL.of upd_same, rfl, ?_⟩ | refine ⟨_, _, _, _, rfl, rfl, SqT.of upd_same, rfl, ?_⟩ | refine ⟨_, _, rfl, .inl (SqL.of upd_same), ?_⟩ | refine ⟨_, _, rfl, .inr (SqT.of upd_same), ?_⟩ | (refine' ⟨_, _, _, _, rfl, rfl, _, _, _⟩; rotate_left 2; (focus (first | assumption | exact SqL.of (by assumption) | exact SqT.of (by assumption) | exact Same.seq (by assumption) (by assumption))); (focus (exact rfl))) | (refine' ⟨_, _, rfl, _, _⟩; rotate_left 1; (focus (first | exact .inl (by assumption) | exact .inl (SqL.of (by assumption)) | exact .inr (by assumption) | exact .inr (SqT.of (by assumption)))))))
      exact atom (.bl _) (.bool _) _ o2 rfl
    (repeat (first | refine ⟨_, rfl, ?_⟩ | refine ⟨_, _, rfl, rfl, ?_⟩ | refine ⟨rfl, ?_⟩ | refine .inl ⟨_, rfl, ?_⟩ | refine .inr ⟨_, rfl, ?_⟩ | refine ⟨.inr ⟨by decide, by decide⟩, ?_⟩ | refine ⟨⟨by decide, by decide⟩, ?_⟩ | refine ⟨⟨by decide, by decide, by decide⟩, ?_⟩ | refine ⟨.inr ⟨by omega, by omega⟩, ?_⟩ | refine ⟨(by show (0 : Int) < _; first | decide | omega), ?_⟩ | refine ⟨Nat.le_trans (Nat.le_of_ble_eq_true rfl : _ ≤ 50) (by decide), ?_⟩ | refine ⟨_, _, _, _, rfl, rfl, upd_same, rfl, ?_⟩ | refine ⟨_, _, _, _, rfl, rfl, SqL.of upd_same, rfl, ?_⟩ | refine ⟨_, _, _, _, rfl, rfl, SqT.of upd_same, rfl, ?_⟩ | refine ⟨_, _, rfl, .inl (SqL.of upd_same), ?_⟩ | refine ⟨_, _, rfl, .inr (SqT.of upd_same), ?_⟩ | (refine' ⟨_, _, _, _, rfl, rfl, _, _, _⟩; rotate_left 2; (focus (first | assumption | exact SqL.of (by assumption) | exact SqT.of (by assumption) | exact Same.seq (by assumption) (by assumption))); (focus (exact rfl))) | (refine' ⟨_, _, rfl, _, _⟩; rotate_left 1; (focus (first | exact .inl (by assumption) | exact .inl (SqL.of (by assumption)) | exact .inr (by assumption) | exact .inr (SqT.of (by assumption)))))))
    refine ite2 (fun e9 => ?_) (fun e9 => ?_)
    · (repeat (first | refine ⟨_, rfl, ?_⟩ | refine ⟨_, _, rfl, rfl, ?_⟩ | refine ⟨rfl, ?_⟩ | refine .inl ⟨_, rfl, ?_⟩ | refine .inr ⟨_, rfl, ?_⟩ | refine ⟨.inr ⟨by decide, by decide⟩, ?_⟩ | refine ⟨⟨by decide, by decide⟩, ?_⟩ | refine ⟨⟨by decide, by decide, by decide⟩, ?_⟩ | refine ⟨.inr ⟨by omega, by omega⟩, ?_⟩ | refine ⟨(by show (0 : Int) < _; first | decide | omega), ?_⟩ | refine ⟨Nat.le_trans (Nat.le_of_ble_eq_true rfl : _ ≤ 50) (by decide), ?_⟩ | refine ⟨_, _, _, _, rfl, rfl, upd_same, rfl, ?_⟩ | refine ⟨_, _, _, _, rfl, rfl, SqL.of upd_same, rfl, ?_⟩ | refine ⟨_, _, _, _, rfl, rfl, SqT.of upd_same, rfl, ?_⟩ | refine ⟨_, _, rfl, .inl (SqL.of upd_same), ?_⟩ | refine ⟨_, _, rfl, .inr (SqT.of upd_same), ?_⟩ | (refine' ⟨_, _, _, _, rfl, rfl, _, _, _⟩; rotate_left 2; (focus (first | assumption | exact SqL.of (by assumption) | exact SqT.of (by assumption) | exact Same.seq (by assumption) (by assumption))); (focus (exact rfl))) | (refine' ⟨_, _, rfl, _, _⟩; rotate_left 1; (focus (first | exact .inl (by assumption) | exact .inl (SqL.of (by assumption)) | exact .inr (by assumption) | exact .inr (SqT.of (by assumption)))))))
      exact atom .non .none _ o1 trivial
    (repeat (first | refine ⟨_, rfl, ?_⟩ | refine ⟨_, _, rfl, rfl, ?_⟩ | refine ⟨rfl, ?_⟩ | refine .inl ⟨_, rfl, ?_⟩ | refine .inr ⟨_, rfl, ?_⟩ | refine ⟨.inr ⟨by decide, by decide⟩, ?_⟩ | refine ⟨⟨by decide, by decide⟩, ?_⟩ | refine ⟨⟨by decide, by decide, by decide⟩, ?_⟩ | refine ⟨.inr ⟨by omega, by omega⟩, ?_⟩ | refine ⟨(by show (0 : Int) < _; first | decide | omega), ?_⟩ | refine ⟨Nat.le_trans (Nat.le_of_ble_eq_true rfl : _ ≤ 50) (by decide), ?_⟩ | refine ⟨_, _, _, _, rfl, rfl, upd_same, rfl, ?_⟩ | refine ⟨_, _, _, _, rfl, rfl, SqL.of upd_same, rfl, ?_⟩ | refine ⟨_, _, _, _, rfl, rfl, SqT.of upd_same, rfl, ?_⟩ | refine ⟨_, _, rfl, .inl (SqL.of upd_same), ?_⟩ | refine ⟨_, _, rfl, .inr (SqT.of upd_same), ?_⟩ | (refine' ⟨_, _, _, _, rfl, rfl, _, _, _⟩; rotate_left 2; (focus (first | assumption | exact SqL.of (by assumption) | exact SqT.of (by assumption) | exact Same.seq (by assumption) (by assumption))); (focus (exact rfl))) | (refine' ⟨_, _, rfl, _, _⟩; rotate_left 1; (focus (first | exact .inl (by assumption) | exact .inl (SqL.of (by assumption)) | exact .inr (by assumption) | exact .inr (SqT.of (by assumption)))))))
    refine ite2 (fun e9 => ?_) (fun e9 => ?_)
    · (repeat (first | refine ⟨_, rfl, ?_⟩ | refine ⟨_, _, rfl, rfl, ?_⟩ | refine ⟨rfl, ?_⟩ | refine .inl ⟨_, rfl, ?_⟩ | refine .inr ⟨_, rfl, ?_⟩ | refine ⟨.inr ⟨by decide, by decide⟩, ?_⟩ | refine ⟨⟨by decide, by decide⟩, ?_⟩ | refine ⟨⟨by decide, by decide, by decide⟩, ?_⟩ | refine ⟨.inr ⟨by omega, by omega⟩, ?_⟩ | refine ⟨(by show (0 : Int) < _; first | decide | omega), ?_⟩ | refine ⟨Nat.le_trans (Nat.le_of_ble_eq_true rfl : _ ≤ 50) (by decide), ?_⟩ | refine ⟨_, _, _, _, rfl, rfl, upd_same, rfl, ?_⟩ | refine ⟨_, _, _, _, rfl, rfl, SqL.of upd_same, rfl, ?_⟩ | refine ⟨_, _, _, _, rfl, rfl, SqT.of upd_same, rfl, ?_⟩ | refine ⟨_, _, rfl, .inl (SqL.of upd_same), ?_⟩ | refine ⟨_, _, rfl, .inr (SqT.of upd_same), ?_⟩ | (refine' ⟨_, _, _, _, rfl, rfl, _, _, _⟩; rotate_left 2; (focus (first | assumption | exact SqL.of (by assumption) | exact SqT.of (by assumption) | exact Same.seq (by assumption) (by assumption))); (focus (exact rfl))) | (refine' ⟨_, _, rfl, _, _⟩; rotate_left 1; (focus (first | exact .inl (by assumption) | exact .inl (SqL.of (by assumption)) | exact .inr (by assumption) | exact .inr (SqT.of (by assumption)))))))
      refine fun l hl => ?_
      have o2 := o1.add (u := .lst (KDx.odd8.map V.str)) hl
      refine ⟨_, rfl, ?_⟩
      dsimp only [tCons, tC, tNil]
      refine o2.draw (m := 8) (by decide) (by decide) fun v H3 v0 v1 o3 => ?_
      obtain ⟨z, hz, e⟩ := at_map V.str (l := KDx.odd8) v0 v1
      refine ⟨l, _, _, _, rfl, rfl, SqL.of (o3.mem (List.mem_cons_self ..)), e, ?_⟩
      exact atom _ (.str z) _ (o3.sub (List.sublist_cons_self _ _)) ⟨rfl, List.mem_append_right _ hz⟩
    (repeat (first | refine ⟨_, rfl, ?_⟩ | refine ⟨_, _, rfl, rfl, ?_⟩ | refine ⟨rfl, ?_⟩ | refine .inl ⟨_, rfl, ?_⟩ | refine .inr ⟨_, rfl, ?_⟩ | refine ⟨.inr ⟨by decide, by decide⟩, ?_⟩ | refine ⟨⟨by decide, by decide⟩, ?_⟩ | refine ⟨⟨by decide, by decide, by decide⟩, ?_⟩ | refine ⟨.inr ⟨by omega, by omega⟩, ?_⟩ | refine ⟨(by show (0 : Int) < _; first | decide | omega), ?_⟩ | refine ⟨Nat.le_trans (Nat.le_of_ble_eq_true rfl : _ ≤ 50) (by decide), ?_⟩ | refine ⟨_, _, _, _, rfl, rfl, upd_same, rfl, ?_⟩ | refine ⟨_, _, _, _, rfl, rfl, SqL.of upd_same, rfl, ?_⟩ | refine ⟨_, _, _, _, rfl, rfl, SqT.of upd_same, rfl, ?_⟩ | refine ⟨_, _, rfl, .inl (SqL.of upd_same), ?_⟩ | refine ⟨_, _, rfl, .inr (SqT.of upd_same), ?_⟩ | (refine' ⟨_, _, _, _, rfl, rfl, _, _, _⟩; rotate_left 2; (focus (first | assumption | exact SqL.of (by assumption) | exact SqT.of (by assumption) | exact Same.seq (by assumption) (by assumption))); (focus (exact rfl))) | (refine' ⟨_, _, rfl, _, _⟩; rotate_left 1; (focus (first | exact .inl (by assumption) | exact .inl (SqL.of (by assumption)) | exact .inr (by assumption) | exact .inr (SqT.of (by assumption)))))))
    refine ite2 (fun e9 => ?_) (fun e9 => ?_)
    · (repeat (first | refine ⟨_, rfl, ?_⟩ | refine ⟨_, _, rfl, rfl, ?_⟩ | refine ⟨rfl, ?_⟩ | refine .inl ⟨_, rfl, ?_⟩ | refine .inr ⟨_, rfl, ?_⟩ | refine ⟨.inr ⟨by decide, by decide⟩, ?_⟩ | refine ⟨⟨by decide, by decide⟩, ?_⟩ | refine ⟨⟨by decide, by decide, by decide⟩, ?_⟩ | refine ⟨.inr ⟨by omega, by omega⟩, ?_⟩ | refine ⟨(by show (0 : Int) < _; first | decide | omega), ?_⟩ | refine ⟨Nat.le_trans (Nat.le_of_ble_eq_true rfl : _ ≤ 50) (by decide), ?_⟩ | refine ⟨_, _, _, _, rfl, rfl, upd_same, rfl, ?_⟩ | refine ⟨_, _, _, _, rfl, rfl, SqL.of upd_same, rfl, ?_⟩ | refine ⟨_, _, _, _, rfl, rfl, SqT.of upd_same, rfl, ?_⟩ | refine ⟨_, _, rfl, .inl (SqL.of upd_same), ?_⟩ | refine ⟨_, _, rfl, .inr (SqT.of upd_same), ?_⟩ | (refine' ⟨_, _, _, _, rfl, rfl, _, _, _⟩; rotate_left 2; (focus (first | assumption | exact SqL.of (by assumption) | exact SqT.of (by assumption) | exact Same.seq (by assumption) (by assumption))); (focus (exact rfl))) | (refine' ⟨_, _, rfl, _, _⟩; rotate_left 1; (focus (first | exact .inl (by assumption) | exact .inl (SqL.of (by assumption)) | exact .inr (by assumption) | exact .inr (SqT.of (by assumption)))))))
      refine fun t1 h1 => ?_
      have o2 := o1.add (u := .tup []) h1
      (repeat (first | refine ⟨_, rfl, ?_⟩ | refine ⟨_, _, rfl, rfl, ?_⟩ | refine ⟨rfl, ?_⟩ | refine .inl ⟨_, rfl, ?_⟩ | refine .inr ⟨_, rfl, ?_⟩ | refine ⟨.inr ⟨by decide, by decide⟩, ?_⟩ | refine ⟨⟨by decide, by decide⟩, ?_⟩ | refine ⟨⟨by decide, by decide, by decide⟩, ?_⟩ | refine ⟨.inr ⟨by omega, by omega⟩, ?_⟩ | refine ⟨(by show (0 : Int) < _; first | decide | omega), ?_⟩ | refine ⟨Nat.le_trans (Nat.le_of_ble_eq_true rfl : _ ≤ 50) (by decide), ?_⟩ | refine ⟨_, _, _, _, rfl, rfl, upd_same, rfl, ?_⟩ | refine ⟨_, _, _, _, rfl, rfl, SqL.of upd_same, rfl, ?_⟩ | refine ⟨_, _, _, _, rfl, rfl, SqT.of upd_same, rfl, ?_⟩ | refine ⟨_, _, rfl, .inl (SqL.of upd_same), ?_⟩ | refine ⟨_, _, rfl, .inr (SqT.of upd_same), ?_⟩ | (refine' ⟨_, _, _, _, rfl, rfl, _, _, _⟩; rotate_left 2; (focus (first | assumption | exact SqL.of (by assumption) | exact SqT.of (by assumption) | exact Same.seq (by assumption) (by assumption))); (focus (exact rfl))) | (refine' ⟨_, _, rfl, _, _⟩; rotate_left 1; (focus (first | exact .inl (by assumption) | exact .inl (SqL.of (by assumption)) | exact .inr (by assumption) | exact .inr (SqT.of (by assumption)))))))
      refine fun t2 h2 => ?_
      have o3 := o2.add (u := .tup [.int 0]) h2
      (repeat (first | refine ⟨_, rfl, ?_⟩ | refine ⟨_, _, rfl, rfl, ?_⟩ | refine ⟨rfl, ?_⟩ | refine .inl ⟨_, rfl, ?_⟩ | refine .inr ⟨_, rfl, ?_⟩ | refine ⟨.inr ⟨by decide, by decide⟩, ?_⟩ | refine ⟨⟨by decide, by decide⟩, ?_⟩ | refine ⟨⟨by decide, by decide, by decide⟩, ?_⟩ | refine ⟨.inr ⟨by omega, by omega⟩, ?_⟩ | refine ⟨(by show (0 : Int) < _; first | decide | omega), ?_⟩ | refine ⟨Nat.le_trans (Nat.le_of_ble_eq_true rfl : _ ≤ 50) (by decide), ?_⟩ | refine ⟨_, _, _, _, rfl, rfl, upd_same, rfl, ?_⟩ | refine ⟨_, _, _, _, rfl, rfl, SqL.of upd_same, rfl, ?_⟩ | refine ⟨_, _, _, _, rfl, rfl, SqT.of upd_same, rfl, ?_⟩ | refine ⟨_, _, rfl, .inl (SqL.of upd_same), ?_⟩ | refine ⟨_, _, rfl, .inr (SqT.of upd_same), ?_⟩ | (refine' ⟨_, _, _, _, rfl, rfl, _, _, _⟩; rotate_left 2; (focus (first | assumption | exact SqL.of (by assumption) | exact SqT.of (by assumption) | exact Same.seq (by assumption) (by assumption))); (focus (exact rfl))) | (refine' ⟨_, _, rfl, _, _⟩; rotate_left 1; (focus (first | exact .inl (by assumption) | exact .inl (SqL.of (by assumption)) | exact .inr (by assumption) | exact .inr (SqT.of (by assumption)))))))
      refine fun t3 h3 => ?_
      have o4 := o3.add (u := .tup [.str "halt"]) h3
      (repeat (first | refine ⟨_, rfl, ?_⟩ | refine ⟨_, _, rfl, rfl, ?_⟩ | refine ⟨rfl, ?_⟩ | refine .inl ⟨_, rfl, ?_⟩ | refine .inr ⟨_, rfl, ?_⟩ | refine ⟨.inr ⟨by decide, by decide⟩, ?_⟩ | refine ⟨⟨by decide, by decide⟩, ?_⟩ | refine ⟨⟨by decide, by decide, by decide⟩, ?_⟩ | refine ⟨.inr ⟨by omega, by omega⟩, ?_⟩ | refine ⟨(by show (0 : Int) < _; first | decide | omega), ?_⟩ | refine ⟨Nat.le_trans (Nat.le_of_ble_eq_true rfl : _ ≤ 50) (by decide), ?_⟩ | refine ⟨_, _, _, _, rfl, rfl, upd_same, rfl, ?_⟩ | refine ⟨_, _, _, _, rfl, rfl, SqL.of upd_same, rfl, ?_⟩ | refine ⟨_, _, _, _, rfl, rfl, SqT.of upd_same, rfl, ?_⟩ | refine ⟨_, _, rfl, .inl (SqL.of upd_same), ?_⟩ | refine ⟨_, _, rfl, .inr (SqT.of upd_same), ?_⟩ | (refine' ⟨_, _, _, _, rfl, rfl, _, _, _⟩; rotate_left 2; (focus (first | assumption | exact SqL.of (by assumption) | exact SqT.of (by assumption) | exact Same.seq (by assumption) (by assumption))); (focus (exact rfl))) | (refine' ⟨_, _, rfl, _, _⟩; rotate_left 1; (focus (first | exact .inl (by assumption) | exact .inl (SqL.of (by assumption)) | exact .inr (by assumption) | exact .inr (SqT.of (by assumption)))))))
      refine fun l hl => ?_
      have o5 := o4.add (u := .lst ([t1, t2, t3].map V.ref)) hl
      refine ⟨_, rfl, ?_⟩
      dsimp only [tCons, tC, tNil]
      refine o5.draw (m := 3) (by decide) (by decide) fun v H3 v0 v1 o6 => ?_
      obtain ⟨z, hz, e⟩ := at_map V.ref (l := [t1, t2, t3]) v0 v1
      refine ⟨l, _, _, _, rfl, rfl, SqL.of (o6.mem (List.mem_cons_self ..)), e, ?_⟩
      have hm : ∀ d, PL 1 [(l, .lst ([t1, t2, t3].map V.ref)), (t3, .tup [.str "halt"]), (t2, .tup [.int 0]), (t1, .tup [])] (.ref z) d → Q (.ref z) H3 := fun d h => q _ d [(l, .lst ([t1, t2, t3].map V.ref)), (t3, .tup [.str "halt"]), (t2, .tup [.int 0]), (t1, .tup [])] _ o6 h
      have hz : z = t1 ∨ z = t2 ∨ z = t3 := by simpa using hz
      rcases hz with rfl | rfl | rfl
      · exact hm (.tuple []) (.inr ⟨_, _, _, rfl, .nil, .inl ⟨by simp, rfl⟩⟩)
      · exact hm (.tuple [.int 0]) (.inr ⟨_, [.int 0], _, rfl, .cons (show Atom (.int 0) (.int 0) from rfl) .nil, .inl ⟨by simp, rfl⟩⟩)
      · exact hm (.tuple [.str "halt"]) (.inr ⟨_, [.str "halt"], _, rfl, .cons (show Atom (.str "halt") (.str "halt") from ⟨rfl, by decide +kernel⟩) .nil, .inl ⟨by simp, rfl⟩⟩)
    (repeat (first | refine ⟨_, rfl, ?_⟩ | refine ⟨_, _, rfl, rfl, ?_⟩ | refine ⟨rfl, ?_⟩ | refine .inl ⟨_, rfl, ?_⟩ | refine .inr ⟨_, rfl, ?_⟩ | refine ⟨.inr ⟨by decide, by decide⟩, ?_⟩ | refine ⟨⟨by decide, by decide⟩, ?_⟩ | refine ⟨⟨by decide, by decide, by decide⟩, ?_⟩ | refine ⟨.inr ⟨by omega, by omega⟩, ?_⟩ | refine ⟨(by show (0 : Int) < _; first | decide | omega), ?_⟩ | refine ⟨Nat.le_trans (Nat.le_of_ble_eq_true rfl : _ ≤ 50) (by decide), ?_⟩ | refine ⟨_, _, _, _, rfl, rfl, upd_same, rfl, ?_⟩ | refine ⟨_, _, _, _, rfl, rfl, SqL.of upd_same, rfl, ?_⟩ | refine ⟨_, _, _, _, rfl, rfl, SqT.of upd_same, rfl, ?_⟩ | refine ⟨_, _, rfl, .inl (SqL.of upd_same), ?_⟩ | refine ⟨_, _, rfl, .inr (SqT.of upd_same), ?_⟩ | (refine' ⟨_, _, _, _, rfl, rfl, _, _, _⟩; rotate_left 2; (focus (first | assumption | exact SqL.of (by assumption) | exact SqT.of (by assumption) | exact Same.seq (by assumption) (by assumption))); (focus (exact rfl))) | (refine' ⟨_, _, rfl, _, _⟩; rotate_left 1; (focus (first | exact .inl (by assumption) | exact .inl (SqL.of (by assumption)) | exact .inr (by assumption) | exact .inr (SqT.of (by assumption)))))))
    refine ite2 (fun e9 => ?_) (fun e9 => ?_)
    · (repeat (first | refine ⟨_, rfl, ?_⟩ | refine ⟨_, _, rfl, rfl, ?_⟩ | refine ⟨rfl, ?_⟩ | refine .inl ⟨_, rfl, ?_⟩ | refine .inr ⟨_, rfl, ?_⟩ | refine ⟨.inr ⟨by decide, by decide⟩, ?_⟩ | refine ⟨⟨by decide, by decide⟩, ?_⟩ | refine ⟨⟨by decide, by decide, by decide⟩, ?_⟩ | refine ⟨.inr ⟨by omega, by omega⟩, ?_⟩ | refine ⟨(by show (0 : Int) < _; first | decide | omega), ?_⟩ | refine ⟨Nat.le_trans (Nat.le_of_ble_eq_true rfl : _ ≤ 50) (by decide), ?_⟩ | refine ⟨_, _, _, _, rfl, rfl, upd_same, rfl, ?_⟩ | refine ⟨_, _, _, _, rfl, rfl, SqL.of upd_same, rfl, ?_⟩ | refine ⟨_, _, _, _, rfl, rfl, SqT.of upd_same, rfl, ?_⟩ | refine ⟨_, _, rfl, .inl (SqL.of upd_same), ?_⟩ | refine ⟨_, _, rfl, .inr (SqT.of upd_same), ?_⟩ | (refine' ⟨_, _, _, _, rfl, rfl, _, _, _⟩; rotate_left 2; (focus (first | assumption | exact SqL.of (by assumption) | exact SqT.of (by assumption) | exact Same.seq (by assumption) (by assumption))); (focus (exact rfl))) | (refine' ⟨_, _, rfl, _, _⟩; rotate_left 1; (focus (first | exact .inl (by assumption) | exact .inl (SqL.of (by assumption)) | exact .inr (by assumption) | exact .inr (SqT.of (by assumption)))))))
      dsimp only [tCons, tC, tNil]
      refine o1.draw (by decide) (by decide) fun v H2 _ _ o2 => ?_
      (repeat (first | refine ⟨_, rfl, ?_⟩ | refine ⟨_, _, rfl, rfl, ?_⟩ | refine ⟨rfl, ?_⟩ | refine .inl ⟨_, rfl, ?_⟩ | refine .inr ⟨_, rfl, ?_⟩ | refine ⟨.inr ⟨by decide, by decide⟩, ?_⟩ | refine ⟨⟨by decide, by decide⟩, ?_⟩ | refine ⟨⟨by decide, by decide, by decide⟩, ?_⟩ | refine ⟨.inr ⟨by omega, by omega⟩, ?_⟩ | refine ⟨(by show (0 : Int) < _; first | decide | omega), ?_⟩ | refine ⟨Nat.le_trans (Nat.le_of_ble_eq_true rfl : _ ≤ 50) (by decide), ?_⟩ | refine ⟨_, _, _, _, rfl, rfl, upd_same, rfl, ?_⟩ | refine ⟨_, _, _, _, rfl, rfl, SqL.of upd_same, rfl, ?_⟩ | refine ⟨_, _, _, _, rfl, rfl, SqT.of upd_same, rfl, ?_⟩ | refine ⟨_, _, rfl, .inl (SqL.of upd_same), ?_⟩ | refine ⟨_, _, rfl, .inr (SqT.of upd_same), ?_⟩ | (refine' ⟨_, _, _, _, rfl, rfl, _, _, _⟩; rotate_left 2; (focus (first | assumption | exact SqL.of (by assumption) | exact SqT.of (by assumption) | exact Same.seq (by assumption) (by assumption))); (focus (exact rfl))) | (refine' ⟨_, _, rfl, _, _⟩; rotate_left 1; (focus (first | exact .inl (by assumption) | exact .inl (SqL.of (by assumption)) | exact .inr (by assumption) | exact .inr (SqT.of (by assumption)))))))
      refine fun l hl => ?_
      have o3 := o2.add (u := .lst [.int v]) hl
      exact q _ (.list [.int v]) [(l, .lst [.int v])] _ o3 (.inr ⟨_, [.int v], _, rfl, .cons (show Atom (.int v) (.int v) from rfl) .nil, .inr ⟨by simp, rfl⟩⟩)
    (repeat (first | refine ⟨_, rfl, ?_⟩ | refine ⟨_, _, rfl, rfl, ?_⟩ | refine ⟨rfl, ?_⟩ | refine .inl ⟨_, rfl, ?_⟩ | refine .inr ⟨_, rfl, ?_⟩ | refine ⟨.inr ⟨by decide, by decide⟩, ?_⟩ | refine ⟨⟨by decide, by decide⟩, ?_⟩ | refine ⟨⟨by decide, by decide, by decide⟩, ?_⟩ | refine ⟨.inr ⟨by omega, by omega⟩, ?_⟩ | refine ⟨(by show (0 : Int) < _; first | decide | omega), ?_⟩ | refine ⟨Nat.le_trans (Nat.le_of_ble_eq_true rfl : _ ≤ 50) (by decide), ?_⟩ | refine ⟨_, _, _, _, rfl, rfl, upd_same, rfl, ?_⟩ | refine ⟨_, _, _, _, rfl, rfl, SqL.of upd_same, rfl, ?_⟩ | refine ⟨_, _, _, _, rfl, rfl, SqT.of upd_same, rfl, ?_⟩ | refine ⟨_, _, rfl, .inl (SqL.of upd_same), ?_⟩ | refine ⟨_, _, rfl, .inr (SqT.of upd_same), ?_⟩ | (refine' ⟨_, _, _, _, rfl, rfl, _, _, _⟩; rotate_left 2; (focus (first | assumption | exact SqL.of (by assumption) | exact SqT.of (by assumption) | exact Same.seq (by assumption) (by assumption))); (focus (exact rfl))) | (refine' ⟨_, _, rfl, _, _⟩; rotate_left 1; (focus (first | exact .inl (by assumption) | exact .inl (SqL.of (by assumption)) | exact .inr (by assumption) | exact .inr (SqT.of (by assumption)))))))
    refine ite2 (fun e9 => ?_) (fun e9 => ?_)
    · (repeat (first | refine ⟨_, rfl, ?_⟩ | refine ⟨_, _, rfl, rfl, ?_⟩ | refine ⟨rfl, ?_⟩ | refine .inl ⟨_, rfl, ?_⟩ | refine .inr ⟨_, rfl, ?_⟩ | refine ⟨.inr ⟨by decide, by decide⟩, ?_⟩ | refine ⟨⟨by decide, by decide⟩, ?_⟩ | refine ⟨⟨by decide, by decide, by decide⟩, ?_⟩ | refine ⟨.inr ⟨by omega, by omega⟩, ?_⟩ | refine ⟨(by show (0 : Int) < _; first | decide | omega), ?_⟩ | refine ⟨Nat.le_trans (Nat.le_of_ble_eq_true rfl : _ ≤ 50) (by decide), ?_⟩ | refine ⟨_, _, _, _, rfl, rfl, upd_same, rfl, ?_⟩ | refine ⟨_, _, _, _, rfl, rfl, SqL.of upd_same, rfl, ?_⟩ | refine ⟨_, _, _, _, rfl, rfl, SqT.of upd_same, rfl, ?_⟩ | refine ⟨_, _, rfl, .inl (SqL.of upd_same), ?_⟩ | refine ⟨_, _, rfl, .inr (SqT.of upd_same), ?_⟩ | (refine' ⟨_, _, _, _, rfl, rfl, _, _, _⟩; rotate_left 2; (focus (first | assumption | exact SqL.of (by assumption) | exact SqT.of (by assumption) | exact Same.seq (by assumption) (by assumption))); (focus (exact rfl))) | (refine' ⟨_, _, rfl, _, _⟩; rotate_left 1; (focus (first | exact .inl (by assumption) | exact .inl (SqL.of (by assumption)) | exact .inr (by assumption) | exact .inr (SqT.of (by assumption)))))))
      dsimp only [tCons, tC, tNil]
      refine ⟨H0, p, L, rfl, o1, fun n H2 n1 n2 o2 => ?_⟩
      exact atom _ (.str n) _ o2 ⟨rfl, n1⟩
    (repeat (first | refine ⟨_, rfl, ?_⟩ | refine ⟨_, _, rfl, rfl, ?_⟩ | refine ⟨rfl, ?_⟩ | refine .inl ⟨_, rfl, ?_⟩ | refine .inr ⟨_, rfl, ?_⟩ | refine ⟨.inr ⟨by decide, by decide⟩, ?_⟩ | refine ⟨⟨by decide, by decide⟩, ?_⟩ | refine ⟨⟨by decide, by decide, by decide⟩, ?_⟩ | refine ⟨.inr ⟨by omega, by omega⟩, ?_⟩ | refine ⟨(by show (0 : Int) < _; first | decide | omega), ?_⟩ | refine ⟨Nat.le_trans (Nat.le_of_ble_eq_true rfl : _ ≤ 50) (by decide), ?_⟩ | refine ⟨_, _, _, _, rfl, rfl, upd_same, rfl, ?_⟩ | refine ⟨_, _, _, _, rfl, rfl, SqL.of upd_same, rfl, ?_⟩ | refine ⟨_, _, _, _, rfl, rfl, SqT.of upd_same, rfl, ?_⟩ | refine ⟨_, _, rfl, .inl (SqL.of upd_same), ?_⟩ | refine ⟨_, _, rfl, .inr (SqT.of upd_same), ?_⟩ | (refine' ⟨_, _, _, _, rfl, rfl, _, _, _⟩; rotate_left 2; (focus (first | assumption | exact SqL.of (by assumption) | exact SqT.of (by assumption) | exact Same.seq (by assumption) (by assumption))); (focus (exact rfl))) | (refine' ⟨_, _, rfl, _, _⟩; rotate_left 1; (focus (first | exact .inl (by assumption) | exact .inl (SqL.of (by assumption)) | exact .inr (by assumption) | exact .inr (SqT.of (by assumption)))))))
    refine ite2 (fun e9 => ?_) (fun e9 => ?_)
    · (repeat (first | refine ⟨_, rfl, ?_⟩ | refine ⟨_, _, rfl, rfl, ?_⟩ | refine ⟨rfl, ?_⟩ | refine .inl ⟨_, rfl, ?_⟩ | refine .inr ⟨_, rfl, ?_⟩ | refine ⟨.inr ⟨by decide, by decide⟩, ?_⟩ | refine ⟨⟨by decide, by decide⟩, ?_⟩ | refine ⟨⟨by decide, by decide, by decide⟩, ?_⟩ | refine ⟨.inr ⟨by omega, by omega⟩, ?_⟩ | refine ⟨(by show (0 : Int) < _; first | decide | omega), ?_⟩ | refine ⟨Nat.le_trans (Nat.le_of_ble_eq_true rfl : _ ≤ 50) (by decide), ?_⟩ | refine ⟨_, _, _, _, rfl, rfl, upd_same, rfl, ?_⟩ | refine ⟨_, _, _, _, rfl, rfl, SqL.of upd_same, rfl, ?_⟩ | refine ⟨_, _, _, _, rfl, rfl, SqT.of upd_same, rfl, ?_⟩ | refine ⟨_, _, rfl, .inl (SqL.of upd_same), ?_⟩ | refine ⟨_, _, rfl, .inr (SqT.of upd_same), ?_⟩ | (refine' ⟨_, _, _, _, rfl, rfl, _, _, _⟩; rotate_left 2; (focus (first | assumption | exact SqL.of (by assumption) | exact SqT.of (by assumption) | exact Same.seq (by assumption) (by assumption))); (focus (exact rfl))) | (refine' ⟨_, _, rfl, _, _⟩; rotate_left 1; (focus (first | exact .inl (by assumption) | exact .inl (SqL.of (by assumption)) | exact .inr (by assumption) | exact .inr (SqT.of (by assumption)))))))
      dsimp only [tCons, tC, tNil]
      refine o1.draw (by decide) (by decide) fun v H2 _ _ o2 => ?_
      refine ⟨_, _, rfl, rfl, ?_⟩
      exact atom _ (.int _) _ o2 rfl
    · (repeat (first | refine ⟨_, rfl, ?_⟩ | refine ⟨_, _, rfl, rfl, ?_⟩ | refine ⟨rfl, ?_⟩ | refine .inl ⟨_, rfl, ?_⟩ | refine .inr ⟨_, rfl, ?_⟩ | refine ⟨.inr ⟨by decide, by decide⟩, ?_⟩ | refine ⟨⟨by decide, by decide⟩, ?_⟩ | refine ⟨⟨by decide, by decide, by decide⟩, ?_⟩ | refine ⟨.inr ⟨by omega, by omega⟩, ?_⟩ | refine ⟨(by show (0 : Int) < _; first | decide | omega), ?_⟩ | refine ⟨Nat.le_trans (Nat.le_of_ble_eq_true rfl : _ ≤ 50) (by decide), ?_⟩ | refine ⟨_, _, _, _, rfl, rfl, upd_same, rfl, ?_⟩ | refine ⟨_, _, _, _, rfl, rfl, SqL.of upd_same, rfl, ?_⟩ | refine ⟨_, _, _, _, rfl, rfl, SqT.of upd_same, rfl, ?_⟩ | refine ⟨_, _, rfl, .inl (SqL.of upd_same), ?_⟩ | refine ⟨_, _, rfl, .inr (SqT.of upd_same), ?_⟩ | (refine' ⟨_, _, _, _, rfl, rfl, _, _, _⟩; rotate_left 2; (focus (first | assumption | exact SqL.of (by assumption) | exact SqT.of (by assumption) | exact Same.seq (by assumption) (by assumption))); (focus (exact rfl))) | (refine' ⟨_, _, rfl, _, _⟩; rotate_left 1; (focus (first | exact .inl (by assumption) | exact .inl (SqL.of (by assumption)) | exact .inr (by assumption) | exact .inr (SqT.of (by assumption)))))))
      dsimp only [tCons, tC, tNil]
      refine o1.draw (by decide) (by decide) fun v H2 _ _ o2 => ?_
      refine ⟨_, _, rfl, rfl, ?_⟩
      exact atom _ (.int _) _ o2 rfl
end
end K26

set_option Elab.async false
set_option linter.all false
set_option maxRecDepth 100000
set_option maxHeartbeats 4000000
namespace K26
open PySem PySem.Spec PyProof.Rows L2 Lw GxR
/-- a tuple of parts -/
def TV (n : Nat) (L : List (Addr × HO)) (v : V) : Prop := ∃ a xs ds, v = .ref a ∧ (a, HO.tup xs) ∈ L ∧ Paired (PL 1 L) xs ds ∧ xs.length ≤ n
theorem TV.pl {n : Nat} {L : List (Addr × HO)} {v : V} (h : TV n L v) : ∃ d, PL 2 L v d := by
  obtain ⟨a, xs, ds, e, m, p, _⟩ := h
  exact ⟨.tuple ds, .inr ⟨a, xs, ds, e, p, .inl ⟨m, rfl⟩⟩⟩
theorem TV.mono {n : Nat} {L M : List (Addr × HO)} {v : V} (h : TV n L v) (s : ∀ q ∈ L, q ∈ M) : TV n M v := by
  obtain ⟨a, xs, ds, e, m, p, b⟩ := h
  exact ⟨a, xs, ds, e, s _ m, Paired.imp (PL.mono s 1) p, b⟩
theorem paired_take {α β : Type} {R : α → β → Prop} : ∀ (n : Nat) {xs : List α} {ys : List β}, Paired R xs ys → Paired R (xs.take n) (ys.take n)
  | 0, _, _, _ => .nil
  | _ + 1, _, _, .nil => .nil
  | n + 1, _, _, .cons r t => .cons r (paired_take n t)
theorem paired_drop {α β : Type} {R : α → β → Prop} : ∀ (n : Nat) {xs : List α} {ys : List β}, Paired R xs ys → Paired R (xs.drop n) (ys.drop n)
  | 0, _, _, h => h
  | _ + 1, _, _, .nil => .nil
  | n + 1, _, _, .cons _ t => paired_drop n t
theorem paired_app {α β : Type} {R : α → β → Prop} : ∀ {xs : List α} {ys : List β} {xs' : List α} {ys' : List β}, Paired R xs ys → Paired R xs' ys' → Paired R (xs ++ xs') (ys ++ ys')
  | _, _, _, _, .nil, h => h
  | _, _, _, _, .cons r t, h => .cons r (paired_app t h)
section
variable {K : PySem.W.Frag} {P1 P2 : Addr} {H0 H : Hp} {p : Addr} {L : List (Addr × HO)} {v x y : V} {Q : VK} {n k : Nat}
theorem suf (M L : List (Addr × HO)) : L <:+ M ++ L := ⟨M, rfl⟩
theorem TV.slice (h : TV n L v) (o : Wd P1 P2 H0 H p L) (lo hi : Option Int) (q : ∀ v' N H', L <:+ N → Wd P1 P2 H0 H' p N → TV n N v' → Q v' H') : rSlA K v lo hi H Q := by
  have h0 := h
  obtain ⟨a, xs, ds, rfl, m, pr, hb⟩ := h
  refine ⟨a, xs, rfl, SqT.of (o.mem m), fun _ => q _ L H (suf [] L) o h0, fun _ r hr => ?_⟩
  refine q _ ((r, .tup (cutV xs lo hi)) :: L) _ (suf [_] L) (o.add hr) ⟨r, _, _, rfl, List.mem_cons_self .., Paired.imp (PL.mono (fun q hq => List.mem_cons_of_mem _ hq) 1) (paired_take _ (paired_drop _ pr)), Nat.le_trans (cutV_length xs lo hi) hb⟩
theorem TV.cat (h : TV n L x) (g : TV k L y) (o : Wd P1 P2 H0 H p L) (hz : n + k ≤ 100) (q : ∀ v' N H', L <:+ N → Wd P1 P2 H0 H' p N → TV (n + k) N v' → Q v' H') : rCatA K x y H Q := by
  obtain ⟨a, xs, ds, rfl, m, pr, hb⟩ := h
  obtain ⟨b, ys, es, rfl, m2, pr2, hb2⟩ := g
  refine ⟨a, b, xs, ys, rfl, rfl, SqT.of (o.mem m), SqT.of (o.mem m2), Nat.le_trans (show xs.length + ys.length ≤ 100 by omega) (by decide), fun _ => ?_, fun _ _ => ?_, fun _ _ r hr => ?_⟩
  · exact q _ L H (suf [] L) o ⟨b, ys, es, rfl, m2, pr2, by omega⟩
  · exact q _ L H (suf [] L) o ⟨a, xs, ds, rfl, m, pr, by omega⟩
  · exact q _ ((r, .tup (xs ++ ys)) :: L) _ (suf [_] L) (o.add hr) ⟨r, _, _, rfl, List.mem_cons_self .., Paired.imp (PL.mono (fun q hq => List.mem_cons_of_mem _ hq) 1) (paired_app pr pr2), by rw [List.length_append]; omega⟩
end
/-- a good instruction at r -/
def Gd (L : List (Addr × HO)) (r : Addr) (n : Str) (ls is : List Int) : Prop := (r, HO.tup (.str n :: is.map V.int)) ∈ L ∧ n ∈ texts33 ∧ limsOf n = some ls ∧ allIn ls (is.map PyData.int) = true
theorem Gd.mono {L M : List (Addr × HO)} {r : Addr} {n : Str} {ls js : List Int} (h : Gd L r n ls js) (s : ∀ q ∈ L, q ∈ M) : Gd M r n ls js := ⟨s _ h.1, h.2⟩
theorem ints_paired {L : List (Addr × HO)} {k : Nat} : ∀ js : List Int, Paired (PL k L) (js.map V.int) (js.map PyData.int)
  | [] => .nil
  | j :: js => .cons (by cases k with | zero => exact rfl | succ k => exact .inl rfl) (ints_paired js)
theorem Gd.pr {L : List (Addr × HO)} {r : Addr} {n : Str} {ls js : List Int} (h : Gd L r n ls js) : Paired (PL 1 L) (.str n :: js.map V.int) (.str n :: js.map PyData.int) := .cons (.inl ⟨rfl, h.2.1⟩) (ints_paired js)
theorem Gd.len {L : List (Addr × HO)} {r : Addr} {n : Str} {ls js : List Int} (h : Gd L r n ls js) : js.length = ls.length ∧ js.length ≤ 3 := by
  have e : ls.length = js.length := by
    rcases Nat.decEq ls.length (js.map PyData.int).length with z | z
    · have := h.2.2.2
      rw [allIn_len z] at this
      cases this
    · rw [List.length_map] at z
      exact z
  exact ⟨e.symm, by have := lims_len n ls h.2.2.1; omega⟩
theorem Gd.tv {L : List (Addr × HO)} {r : Addr} {n : Str} {ls js : List Int} (h : Gd L r n ls js) : TV 4 L (.ref r) :=
  ⟨r, _, _, rfl, h.1, h.pr, by rw [List.length_cons, List.length_map]; have := h.len.2; omega⟩
def spChanged (P1 P2 : Addr) : Sp := fun vs H Q _ => ∃ (H0 : Hp) (p r : Addr) (L : List (Addr × HO)) (n : Str) (ls js : List Int), vs = [.ref p, .ref r] ∧ Wd P1 P2 H0 H p L ∧ Gd L r n ls js ∧ ∀ v d N H', L <:+ N → Wd P1 P2 H0 H' p N → PL 2 N v d → Q v H'
def Ic (P1 P2 : Addr) (H0 : Hp) (p r : Addr) (L : List (Addr × HO)) (m : Nat) : L2.St → Hp → Prop := fun σ H => ∃ v d N ch at_, σ = [some (.ref p), some (.ref r), some (.int ch), some (.int at_), some v] ∧ 0 ≤ at_ ∧ at_ ≤ (m : Int) ∧ L <:+ N ∧ Wd P1 P2 H0 H p N ∧ PL 1 N v d
section
variable {P : Program} {w : World} {K : PySem.W.Frag} {mg : Str → Option Value} {base : Heap} {P1 P2 : Addr}
theorem ok_changed (T : Tx w K mg) : FnOk P w K mg base CX0 4 T.a_law_changed T.d_law_changed ["source", "good"] (spChanged P1 P2) := by
  have G_law_draw : FnOk P w K mg base CX0 1 T.a_law_draw T.d_law_draw ["source", "many"] spDraw := ok_draw T
  have G_law_name : FnOk P w K mg base CX0 2 T.a_law_name T.d_law_name ["source"] (spName P1 P2) := ok_name T
  have G_law_limits : FnOk P w K mg base CX0 1 T.a_law_limits T.d_law_limits ["name"] spLimits := ok_limits T
  have G_law_other : FnOk P w K mg base CX0 3 T.a_law_other T.d_law_other ["source"] (spOther P1 P2) := ok_other T
  refine T.F_law_changed.ok sc_law_changed (fun vs H Q E h => ?_) (fun cdv A outer s H vs Q E hr h => ?_)
  · obtain ⟨H0, p, r, L, n, ls, js, rfl, _⟩ := h
    rfl
  · obtain ⟨H0, p, r, L, n, ls, js, rfl, o, hg, q⟩ := h
    have hr_law_draw : Room 1 _ := hr.mono (by decide)
    have hr_law_limits : Room 1 _ := hr.mono (by decide)
    have hr_law_name : Room 2 _ := hr.mono (by decide)
    have hr_law_other : Room 3 _ := hr
    refine ⟨_, (pss_cons (ps_set (i := 2) sc_law_changed.nd rfl (.inl rfl) (pe_call G_law_draw hr_law_draw (by rfl) T.g_law_draw T.F_law_draw.kp T.b_law_draw .nil pass0 (pa_cons (pv 0) (pa_cons pe_int pa_nil))))
        (pss_cons (ps_set (i := 3) sc_law_changed.nd rfl (.inl rfl) (pe_call G_law_draw hr_law_draw (by rfl) T.g_law_draw T.F_law_draw.kp T.b_law_draw .nil pass0 (pa_cons (pv 0) (pa_cons (pe_callB call_len_seq (by rfl) T.z_len (by decide +kernel) (pa_cons (pv 1) pa_nil)) pa_nil))))
        (pss_cons (ps_set (i := 4) sc_law_changed.nd rfl (.inl rfl) (pe_call G_law_other hr_law_other (by rfl) T.g_law_other T.F_law_other.kp T.b_law_other .nil pass0 (pa_cons (pv 0) pa_nil)))
        (C8.pss_cut (ps_if (PW.pt (pw_and (pt_cmpR op_gt (pv 2) pe_int (nomark _)) (pw_and1 (pt_cmpR op_gt (pv 3) pe_int (nomark _)))))
        (pss_one (ps_set (i := 4) sc_law_changed.nd rfl (.inl rfl) (pe_op op_add (pe_ix ix_list (pe_call G_law_limits hr_law_limits (by rfl) T.g_law_limits T.F_law_limits.kp T.b_law_limits .nil pass0 (pa_cons (pe_ix ix_tup (pv 1) pe_int (fun _ _ => rfl)) pa_nil)) (pe_op op_sub (pv 3) pe_int) (fun _ _ => rfl)) pe_int)))
        pss_nil)
        (pss_cons (ps_if (pt_cmpR op_eq (pv 2) pe_int (nomark _))
        (pss_one (ps_ret (pe_callTy call_list_of (by rfl) T.z_list (by decide +kernel) (pa_cons (pv 1) pa_nil))))
        pss_nil)
        (pss_cons (ps_if (pt_cmpR op_eq (pv 2) pe_int (nomark _))
        (pss_one (ps_ret (pe_op op_catA (pv 1) (pe_tup (pa_cons (pv 4) pa_nil)))))
        pss_nil)
        (pss_cons (ps_if (pt_cmpR op_eq (pv 2) pe_int (nomark _))
        (pss_one (ps_ret (pe_op op_catA (pe_slice sl_tupA (pv 1) po_none (po_some (pv 3))) (pe_slice sl_tupA (pv 1) (po_some (pe_op op_add (pv 3) pe_int)) po_none))))
        pss_nil)
        (pss_cons (ps_if (pt_cmpR op_eq (pv 2) pe_int (nomark _))
        (pss_one (ps_ret (pe_op op_catA (pe_op op_catA (pe_slice sl_tupA (pv 1) po_none (po_some (pv 3))) (pe_tup (pa_cons (pv 4) pa_nil))) (pe_slice sl_tupA (pv 1) (po_some (pv 3)) po_none))))
        pss_nil)
        (pss_cons (ps_if (pt_cmpR op_eq (pv 2) pe_int (nomark _))
        (pss_one (ps_ret (pe_op op_catA (pe_tup (pa_cons (pe_call G_law_name hr_law_name (by rfl) T.g_law_name T.F_law_name.kp T.b_law_name .nil pass0 (pa_cons (pv 0) pa_nil)) pa_nil)) (pe_slice sl_tupA (pv 1) (po_some pe_int) po_none))))
        pss_nil)
        (pss_cons (ps_if (pt_cmpR op_eq (pv 2) pe_int (nomark _))
        (pss_one (ps_ret (pv 4)))
        pss_nil)
        (pss_cons (ps_if (pt_cmpR op_eq (pv 2) pe_int (nomark _))
        (pss_one (ps_ret (pe_tup (pa_cons (pv 1) pa_nil))))
        pss_nil)
        (pss_one (ps_ret (pe_op op_catA (pe_op op_catA (pe_slice sl_tupA (pv 1) po_none (po_some (pv 3))) (pe_tup (pa_cons (pv 4) pa_nil))) (pe_slice sl_tupA (pv 1) (po_some (pe_op op_add (pv 3) pe_int)) po_none))))))))))))))), ?_⟩
    have hgl := hg.len
    refine ⟨_, rfl, ?_⟩
    dsimp only [tCons, tC, tNil]
    refine o.draw (by decide) (by decide) fun ch H1 ch0 ch1 o1 => ?_
    refine ⟨_, rfl, ?_⟩
    dsimp only [tCons, tC, tNil]
    refine ⟨_, rfl, r, _, rfl, .inr (SqT.of (o1.mem hg.1)), ?_⟩
    dsimp only [tCons, tC, tNil]
    refine o1.draw (by rw [List.length_cons]; omega) (by rw [List.length_cons, List.length_map]; omega) fun at_ H2 at0' at1 o2 => ?_
    have at1 : at_ ≤ (js.length : Int) := by rw [List.length_cons, List.length_map] at at1; omega
    refine ⟨_, rfl, ?_⟩
    dsimp only [tCons, tC, tNil]
    refine ⟨H0, p, L, rfl, o2, fun v d M H3 o3 hv => ?_⟩
    have hg3 : Gd (M ++ L) r n ls js := hg.mono fun q hq => List.mem_append_right _ hq
    refine ⟨Ic P1 P2 H0 p r L js.length, ?_, ?_⟩
    · (repeat (first | refine ⟨_, rfl, ?_⟩ | refine ⟨_, _, rfl, rfl, ?_⟩ | refine ⟨rfl, ?_⟩ | refine .inl ⟨_, rfl, ?_⟩ | refine .inr ⟨_, rfl, ?_⟩ | refine ⟨.inr ⟨by decide, by decide⟩, ?_⟩ | refine ⟨⟨by decide, by decide⟩, ?_⟩ | refine ⟨⟨by decide, by decide, by decide⟩, ?_⟩ | refine ⟨.inr ⟨by omega, by omega⟩, ?_⟩ | refine ⟨(by show (0 : Int) < _; first | decide | omega), ?_⟩ | refine ⟨Nat.le_trans (Nat.le_of_ble_eq_true rfl : _ ≤ 50) (by decide), ?_⟩ | refine ⟨_, _, _, _, rfl, rfl, upd_same, rfl, ?_⟩ | refine ⟨_, _, _, _, rfl, rfl, SqL.of upd_same, rfl, ?_⟩ | refine ⟨_, _, _, _, rfl, rfl, SqT.of upd_same, rfl, ?_⟩ | refine ⟨_, _, rfl, .inl (SqL.of upd_same), ?_⟩ | refine ⟨_, _, rfl, .inr (SqT.of upd_same), ?_⟩ | (refine' ⟨_, _, _, _, rfl, rfl, _, _, _⟩; rotate_left 2; (focus (first | assumption | exact SqL.of (by assumption) | exact SqT.of (by assumption) | exact Same.seq (by assumption) (by assumption))); (focus (exact rfl))) | (refine' ⟨_, _, rfl, _, _⟩; rotate_left 1; (focus (first | exact .inl (by assumption) | exact .inl (SqL.of (by assumption)) | exact .inr (by assumption) | exact .inr (SqT.of (by assumption)))))))
      trace_state
      refine ite2 (fun e1 => ?_) (fun e1 => ?_)
      · (repeat (first | refine ⟨_, rfl, ?_⟩ | refine ⟨_, _, rfl, rfl, ?_⟩ | refine ⟨rfl, ?_⟩ | refine .inl ⟨_, rfl, ?_⟩ | refine .inr ⟨_, rfl, ?_⟩ | refine ⟨.inr ⟨by decide, by decide⟩, ?_⟩ | refine ⟨⟨by decide, by decide⟩, ?_⟩ | refine ⟨⟨by decide, by decide, by decide⟩, ?_⟩ | refine ⟨.inr ⟨by omega, by omega⟩, ?_⟩ | refine ⟨(by show (0 : Int) < _; first | decide | omega), ?_⟩ | refine ⟨Nat.le_trans (Nat.le_of_ble_eq_true rfl : _ ≤ 50) (by decide), ?_⟩ | refine ⟨_, _, _, _, rfl, rfl, upd_same, rfl, ?_⟩ | refine ⟨_, _, _, _, rfl, rfl, SqL.of upd_same, rfl, ?_⟩ | refine ⟨_, _, _, _, rfl, rfl, SqT.of upd_same, rfl, ?_⟩ | refine ⟨_, _, rfl, .inl (SqL.of upd_same), ?_⟩ | refine ⟨_, _, rfl, .inr (SqT.of upd_same), ?_⟩ | (refine' ⟨_, _, _, _, rfl, rfl, _, _, _⟩; rotate_left 2; (focus (first | assumption | exact SqL.of (by assumption) | exact SqT.of (by assumption) | exact Same.seq (by assumption) (by assumption))); (focus (exact rfl))) | (refine' ⟨_, _, rfl, _, _⟩; rotate_left 1; (focus (first | exact .inl (by assumption) | exact .inl (SqL.of (by assumption)) | exact .inr (by assumption) | exact .inr (SqT.of (by assumption)))))))
        refine ite2 (fun e2 => ?_) (fun e2 => ?_)
        · have e2 : 0 < at_ := of_decide_eq_true e2
          (repeat (first | refine ⟨_, rfl, ?_⟩ | refine ⟨_, _, rfl, rfl, ?_⟩ | refine ⟨rfl, ?_⟩ | refine .inl ⟨_, rfl, ?_⟩ | refine .inr ⟨_, rfl, ?_⟩ | refine ⟨.inr ⟨by decide, by decide⟩, ?_⟩ | refine ⟨⟨by decide, by decide⟩, ?_⟩ | refine ⟨⟨by decide, by decide, by decide⟩, ?_⟩ | refine ⟨.inr ⟨by omega, by omega⟩, ?_⟩ | refine ⟨(by show (0 : Int) < _; first | decide | omega), ?_⟩ | refine ⟨Nat.le_trans (Nat.le_of_ble_eq_true rfl : _ ≤ 50) (by decide), ?_⟩ | refine ⟨_, _, _, _, rfl, rfl, upd_same, rfl, ?_⟩ | refine ⟨_, _, _, _, rfl, rfl, SqL.of upd_same, rfl, ?_⟩ | refine ⟨_, _, _, _, rfl, rfl, SqT.of upd_same, rfl, ?_⟩ | refine ⟨_, _, rfl, .inl (SqL.of upd_same), ?_⟩ | refine ⟨_, _, rfl, .inr (SqT.of upd_same), ?_⟩ | (refine' ⟨_, _, _, _, rfl, rfl, _, _, _⟩; rotate_left 2; (focus (first | assumption | exact SqL.of (by assumption) | exact SqT.of (by assumption) | exact Same.seq (by assumption) (by assumption))); (focus (exact rfl))) | (refine' ⟨_, _, rfl, _, _⟩; rotate_left 1; (focus (first | exact .inl (by assumption) | exact .inl (SqL.of (by assumption)) | exact .inr (by assumption) | exact .inr (SqT.of (by assumption)))))))
          refine ⟨r, _, _, _, rfl, rfl, SqT.of (o3.mem hg3.1), at0 _ _, ?_⟩
          refine ⟨n, rfl, hg.2.1, fun ls2 hls H4 s4 l hl h4 => ?_, fun e => ?_⟩
          · have o4 := o3.push hl s4 h4
            cases hls.symm.trans hg.2.2.1
            obtain ⟨z, hz⟩ := at_int (ns := ls) (i := at_ - 1) (by omega) (by omega)
            (repeat (first | refine ⟨_, rfl, ?_⟩ | refine ⟨_, _, rfl, rfl, ?_⟩ | refine ⟨rfl, ?_⟩ | refine .inl ⟨_, rfl, ?_⟩ | refine .inr ⟨_, rfl, ?_⟩ | refine ⟨.inr ⟨by decide, by decide⟩, ?_⟩ | refine ⟨⟨by decide, by decide⟩, ?_⟩ | refine ⟨⟨by decide, by decide, by decide⟩, ?_⟩ | refine ⟨.inr ⟨by omega, by omega⟩, ?_⟩ | refine ⟨(by show (0 : Int) < _; first | decide | omega), ?_⟩ | refine ⟨Nat.le_trans (Nat.le_of_ble_eq_true rfl : _ ≤ 50) (by decide), ?_⟩ | refine ⟨_, _, _, _, rfl, rfl, upd_same, rfl, ?_⟩ | refine ⟨_, _, _, _, rfl, rfl, SqL.of upd_same, rfl, ?_⟩ | refine ⟨_, _, _, _, rfl, rfl, SqT.of upd_same, rfl, ?_⟩ | refine ⟨_, _, rfl, .inl (SqL.of upd_same), ?_⟩ | refine ⟨_, _, rfl, .inr (SqT.of upd_same), ?_⟩ | (refine' ⟨_, _, _, _, rfl, rfl, _, _, _⟩; rotate_left 2; (focus (first | assumption | exact SqL.of (by assumption) | exact SqT.of (by assumption) | exact Same.seq (by assumption) (by assumption))); (focus (exact rfl))) | (refine' ⟨_, _, rfl, _, _⟩; rotate_left 1; (focus (first | exact .inl (by assumption) | exact .inl (SqL.of (by assumption)) | exact .inr (by assumption) | exact .inr (SqT.of (by assumption)))))))
            refine ⟨l, _, _, _, rfl, rfl, SqL.of h4, hz, ?_⟩
            (repeat (first | refine ⟨_, rfl, ?_⟩ | refine ⟨_, _, rfl, rfl, ?_⟩ | refine ⟨rfl, ?_⟩ | refine .inl ⟨_, rfl, ?_⟩ | refine .inr ⟨_, rfl, ?_⟩ | refine ⟨.inr ⟨by decide, by decide⟩, ?_⟩ | refine ⟨⟨by decide, by decide⟩, ?_⟩ | refine ⟨⟨by decide, by decide, by decide⟩, ?_⟩ | refine ⟨.inr ⟨by omega, by omega⟩, ?_⟩ | refine ⟨(by show (0 : Int) < _; first | decide | omega), ?_⟩ | refine ⟨Nat.le_trans (Nat.le_of_ble_eq_true rfl : _ ≤ 50) (by decide), ?_⟩ | refine ⟨_, _, _, _, rfl, rfl, upd_same, rfl, ?_⟩ | refine ⟨_, _, _, _, rfl, rfl, SqL.of upd_same, rfl, ?_⟩ | refine ⟨_, _, _, _, rfl, rfl, SqT.of upd_same, rfl, ?_⟩ | refine ⟨_, _, rfl, .inl (SqL.of upd_same), ?_⟩ | refine ⟨_, _, rfl, .inr (SqT.of upd_same), ?_⟩ | (refine' ⟨_, _, _, _, rfl, rfl, _, _, _⟩; rotate_left 2; (focus (first | assumption | exact SqL.of (by assumption) | exact SqT.of (by assumption) | exact Same.seq (by assumption) (by assumption))); (focus (exact rfl))) | (refine' ⟨_, _, rfl, _, _⟩; rotate_left 1; (focus (first | exact .inl (by assumption) | exact .inl (SqL.of (by assumption)) | exact .inr (by assumption) | exact .inr (SqT.of (by assumption)))))))
            exact ⟨.int (z + 1), .int (z + 1), _, ch, at_, rfl, at0', at1, (suf M L).trans (suf [_] _), o4, .inl rfl⟩
          · rw [hg.2.2.1] at e
            cases e
        · exact ⟨v, d, M ++ L, ch, at_, rfl, at0', at1, suf M L, o3, PL.mono (fun q hq => List.mem_append_left _ hq) 1 _ _ hv⟩
      · exact ⟨v, d, M ++ L, ch, at_, rfl, at0', at1, suf M L, o3, PL.mono (fun q hq => List.mem_append_left _ hq) 1 _ _ hv⟩
    · clear o o1 o2 ch0 ch1 at0' at1 o3 hv hg3
      rintro σ H ⟨v, d, N, ch, at_, rfl, a0, a1, sf, o, hv⟩
      have hg3 : Gd N r n ls js := hg.mono fun q hq => sf.subset hq
      have fin : ∀ {k : Nat} {v : V} {N' : List (Addr × HO)} {H' : Hp}, N <:+ N' → Wd P1 P2 H0 H' p N' → TV k N' v → Q v H' := fun s' o' h => by
        obtain ⟨d, h⟩ := h.pl
        exact q _ d _ _ (sf.trans s') o' h
      have one : ∀ {N' : List (Addr × HO)} {r : Addr} {v : V} {d : PyData}, PL 1 N' v d → TV 1 ((r, .tup [v]) :: N') (.ref r) := fun h => ⟨_, _, _, rfl, List.mem_cons_self .., .cons (PL.mono (fun q hq => List.mem_cons_of_mem _ hq) 1 _ _ h) .nil, Nat.le_refl _⟩
      (repeat (first | refine ⟨_, rfl, ?_⟩ | refine ⟨_, _, rfl, rfl, ?_⟩ | refine ⟨rfl, ?_⟩ | refine .inl ⟨_, rfl, ?_⟩ | refine .inr ⟨_, rfl, ?_⟩ | refine ⟨.inr ⟨by decide, by decide⟩, ?_⟩ | refine ⟨⟨by decide, by decide⟩, ?_⟩ | refine ⟨⟨by decide, by decide, by decide⟩, ?_⟩ | refine ⟨.inr ⟨by omega, by omega⟩, ?_⟩ | refine ⟨(by show (0 : Int) < _; first | decide | omega), ?_⟩ | refine ⟨Nat.le_trans (Nat.le_of_ble_eq_true rfl : _ ≤ 50) (by decide), ?_⟩ | refine ⟨_, _, _, _, rfl, rfl, upd_same, rfl, ?_⟩ | refine ⟨_, _, _, _, rfl, rfl, SqL.of upd_same, rfl, ?_⟩ | refine ⟨_, _, _, _, rfl, rfl, SqT.of upd_same, rfl, ?_⟩ | refine ⟨_, _, rfl, .inl (SqL.of upd_same), ?_⟩ | refine ⟨_, _, rfl, .inr (SqT.of upd_same), ?_⟩ | (refine' ⟨_, _, _, _, rfl, rfl, _, _, _⟩; rotate_left 2; (focus (first | assumption | exact SqL.of (by assumption) | exact SqT.of (by assumption) | exact Same.seq (by assumption) (by assumption))); (focus (exact rfl))) | (refine' ⟨_, _, rfl, _, _⟩; rotate_left 1; (focus (first | exact .inl (by assumption) | exact .inl (SqL.of (by assumption)) | exact .inr (by assumption) | exact .inr (SqT.of (by assumption)))))))
      refine ite2 (fun _ => ?_) (fun _ => ?_)
      · (repeat (first | refine ⟨_, rfl, ?_⟩ | refine ⟨_, _, rfl, rfl, ?_⟩ | refine ⟨rfl, ?_⟩ | refine .inl ⟨_, rfl, ?_⟩ | refine .inr ⟨_, rfl, ?_⟩ | refine ⟨.inr ⟨by decide, by decide⟩, ?_⟩ | refine ⟨⟨by decide, by decide⟩, ?_⟩ | refine ⟨⟨by decide, by decide, by decide⟩, ?_⟩ | refine ⟨.inr ⟨by omega, by omega⟩, ?_⟩ | refine ⟨(by show (0 : Int) < _; first | decide | omega), ?_⟩ | refine ⟨Nat.le_trans (Nat.le_of_ble_eq_true rfl : _ ≤ 50) (by decide), ?_⟩ | refine ⟨_, _, _, _, rfl, rfl, upd_same, rfl, ?_⟩ | refine ⟨_, _, _, _, rfl, rfl, SqL.of upd_same, rfl, ?_⟩ | refine ⟨_, _, _, _, rfl, rfl, SqT.of upd_same, rfl, ?_⟩ | refine ⟨_, _, rfl, .inl (SqL.of upd_same), ?_⟩ | refine ⟨_, _, rfl, .inr (SqT.of upd_same), ?_⟩ | (refine' ⟨_, _, _, _, rfl, rfl, _, _, _⟩; rotate_left 2; (focus (first | assumption | exact SqL.of (by assumption) | exact SqT.of (by assumption) | exact Same.seq (by assumption) (by assumption))); (focus (exact rfl))) | (refine' ⟨_, _, rfl, _, _⟩; rotate_left 1; (focus (first | exact .inl (by assumption) | exact .inl (SqL.of (by assumption)) | exact .inr (by assumption) | exact .inr (SqT.of (by assumption)))))))
        refine ⟨r, _, rfl, .inr (SqT.of (o.mem hg3.1)), fun l hl => ?_⟩
        have o1 := o.add (u := .lst (.str n :: js.map V.int)) hl
        exact q _ (.list (.str n :: js.map PyData.int)) _ _ (sf.trans (suf [_] _)) o1 (PL.up 1 _ _ (.inr ⟨l, .str n :: js.map V.int, .str n :: js.map PyData.int, rfl, .cons (show Atom (.str n) (.str n) from ⟨rfl, hg.2.1⟩) (ints_paired js), .inr ⟨List.mem_cons_self .., rfl⟩⟩))
      (repeat (first | refine ⟨_, rfl, ?_⟩ | refine ⟨_, _, rfl, rfl, ?_⟩ | refine ⟨rfl, ?_⟩ | refine .inl ⟨_, rfl, ?_⟩ | refine .inr ⟨_, rfl, ?_⟩ | refine ⟨.inr ⟨by decide, by decide⟩, ?_⟩ | refine ⟨⟨by decide, by decide⟩, ?_⟩ | refine ⟨⟨by decide, by decide, by decide⟩, ?_⟩ | refine ⟨.inr ⟨by omega, by omega⟩, ?_⟩ | refine ⟨(by show (0 : Int) < _; first | decide | omega), ?_⟩ | refine ⟨Nat.le_trans (Nat.le_of_ble_eq_true rfl : _ ≤ 50) (by decide), ?_⟩ | refine ⟨_, _, _, _, rfl, rfl, upd_same, rfl, ?_⟩ | refine ⟨_, _, _, _, rfl, rfl, SqL.of upd_same, rfl, ?_⟩ | refine ⟨_, _, _, _, rfl, rfl, SqT.of upd_same, rfl, ?_⟩ | refine ⟨_, _, rfl, .inl (SqL.of upd_same), ?_⟩ | refine ⟨_, _, rfl, .inr (SqT.of upd_same), ?_⟩ | (refine' ⟨_, _, _, _, rfl, rfl, _, _, _⟩; rotate_left 2; (focus (first | assumption | exact SqL.of (by assumption) | exact SqT.of (by assumption) | exact Same.seq (by assumption) (by assumption))); (focus (exact rfl))) | (refine' ⟨_, _, rfl, _, _⟩; rotate_left 1; (focus (first | exact .inl (by assumption) | exact .inl (SqL.of (by assumption)) | exact .inr (by assumption) | exact .inr (SqT.of (by assumption)))))))
      refine ite2 (fun _ => ?_) (fun _ => ?_)
      · (repeat (first | refine ⟨_, rfl, ?_⟩ | refine ⟨_, _, rfl, rfl, ?_⟩ | refine ⟨rfl, ?_⟩ | refine .inl ⟨_, rfl, ?_⟩ | refine .inr ⟨_, rfl, ?_⟩ | refine ⟨.inr ⟨by decide, by decide⟩, ?_⟩ | refine ⟨⟨by decide, by decide⟩, ?_⟩ | refine ⟨⟨by decide, by decide, by decide⟩, ?_⟩ | refine ⟨.inr ⟨by omega, by omega⟩, ?_⟩ | refine ⟨(by show (0 : Int) < _; first | decide | omega), ?_⟩ | refine ⟨Nat.le_trans (Nat.le_of_ble_eq_true rfl : _ ≤ 50) (by decide), ?_⟩ | refine ⟨_, _, _, _, rfl, rfl, upd_same, rfl, ?_⟩ | refine ⟨_, _, _, _, rfl, rfl, SqL.of upd_same, rfl, ?_⟩ | refine ⟨_, _, _, _, rfl, rfl, SqT.of upd_same, rfl, ?_⟩ | refine ⟨_, _, rfl, .inl (SqL.of upd_same), ?_⟩ | refine ⟨_, _, rfl, .inr (SqT.of upd_same), ?_⟩ | (refine' ⟨_, _, _, _, rfl, rfl, _, _, _⟩; rotate_left 2; (focus (first | assumption | exact SqL.of (by assumption) | exact SqT.of (by assumption) | exact Same.seq (by assumption) (by assumption))); (focus (exact rfl))) | (refine' ⟨_, _, rfl, _, _⟩; rotate_left 1; (focus (first | exact .inl (by assumption) | exact .inl (SqL.of (by assumption)) | exact .inr (by assumption) | exact .inr (SqT.of (by assumption)))))))
        refine fun b hb => ?_
        have o1 := o.add (u := .tup [v]) hb
        refine TV.cat (hg3.mono fun q hq => List.mem_cons_of_mem _ hq).tv (one hv) o1 (by decide) fun v' N' H' s1 o2 t2 => ?_
        exact fin ((suf [_] N).trans s1) o2 t2
      (repeat (first | refine ⟨_, rfl, ?_⟩ | refine ⟨_, _, rfl, rfl, ?_⟩ | refine ⟨rfl, ?_⟩ | refine .inl ⟨_, rfl, ?_⟩ | refine .inr ⟨_, rfl, ?_⟩ | refine ⟨.inr ⟨by decide, by decide⟩, ?_⟩ | refine ⟨⟨by decide, by decide⟩, ?_⟩ | refine ⟨⟨by decide, by decide, by decide⟩, ?_⟩ | refine ⟨.inr ⟨by omega, by omega⟩, ?_⟩ | refine ⟨(by show (0 : Int) < _; first | decide | omega), ?_⟩ | refine ⟨Nat.le_trans (Nat.le_of_ble_eq_true rfl : _ ≤ 50) (by decide), ?_⟩ | refine ⟨_, _, _, _, rfl, rfl, upd_same, rfl, ?_⟩ | refine ⟨_, _, _, _, rfl, rfl, SqL.of upd_same, rfl, ?_⟩ | refine ⟨_, _, _, _, rfl, rfl, SqT.of upd_same, rfl, ?_⟩ | refine ⟨_, _, rfl, .inl (SqL.of upd_same), ?_⟩ | refine ⟨_, _, rfl, .inr (SqT.of upd_same), ?_⟩ | (refine' ⟨_, _, _, _, rfl, rfl, _, _, _⟩; rotate_left 2; (focus (first | assumption | exact SqL.of (by assumption) | exact SqT.of (by assumption) | exact Same.seq (by assumption) (by assumption))); (focus (exact rfl))) | (refine' ⟨_, _, rfl, _, _⟩; rotate_left 1; (focus (first | exact .inl (by assumption) | exact .inl (SqL.of (by assumption)) | exact .inr (by assumption) | exact .inr (SqT.of (by assumption)))))))
      refine ite2 (fun _ => ?_) (fun _ => ?_)
      · (repeat (first | refine ⟨_, rfl, ?_⟩ | refine ⟨_, _, rfl, rfl, ?_⟩ | refine ⟨rfl, ?_⟩ | refine .inl ⟨_, rfl, ?_⟩ | refine .inr ⟨_, rfl, ?_⟩ | refine ⟨.inr ⟨by decide, by decide⟩, ?_⟩ | refine ⟨⟨by decide, by decide⟩, ?_⟩ | refine ⟨⟨by decide, by decide, by decide⟩, ?_⟩ | refine ⟨.inr ⟨by omega, by omega⟩, ?_⟩ | refine ⟨(by show (0 : Int) < _; first | decide | omega), ?_⟩ | refine ⟨Nat.le_trans (Nat.le_of_ble_eq_true rfl : _ ≤ 50) (by decide), ?_⟩ | refine ⟨_, _, _, _, rfl, rfl, upd_same, rfl, ?_⟩ | refine ⟨_, _, _, _, rfl, rfl, SqL.of upd_same, rfl, ?_⟩ | refine ⟨_, _, _, _, rfl, rfl, SqT.of upd_same, rfl, ?_⟩ | refine ⟨_, _, rfl, .inl (SqL.of upd_same), ?_⟩ | refine ⟨_, _, rfl, .inr (SqT.of upd_same), ?_⟩ | (refine' ⟨_, _, _, _, rfl, rfl, _, _, _⟩; rotate_left 2; (focus (first | assumption | exact SqL.of (by assumption) | exact SqT.of (by assumption) | exact Same.seq (by assumption) (by assumption))); (focus (exact rfl))) | (refine' ⟨_, _, rfl, _, _⟩; rotate_left 1; (focus (first | exact .inl (by assumption) | exact .inl (SqL.of (by assumption)) | exact .inr (by assumption) | exact .inr (SqT.of (by assumption)))))))
        refine TV.slice hg3.tv o none (some at_) fun x1 N1 H1 s1 o1 t1 => ?_
        (repeat (first | refine ⟨_, rfl, ?_⟩ | refine ⟨_, _, rfl, rfl, ?_⟩ | refine ⟨rfl, ?_⟩ | refine .inl ⟨_, rfl, ?_⟩ | refine .inr ⟨_, rfl, ?_⟩ | refine ⟨.inr ⟨by decide, by decide⟩, ?_⟩ | refine ⟨⟨by decide, by decide⟩, ?_⟩ | refine ⟨⟨by decide, by decide, by decide⟩, ?_⟩ | refine ⟨.inr ⟨by omega, by omega⟩, ?_⟩ | refine ⟨(by show (0 : Int) < _; first | decide | omega), ?_⟩ | refine ⟨Nat.le_trans (Nat.le_of_ble_eq_true rfl : _ ≤ 50) (by decide), ?_⟩ | refine ⟨_, _, _, _, rfl, rfl, upd_same, rfl, ?_⟩ | refine ⟨_, _, _, _, rfl, rfl, SqL.of upd_same, rfl, ?_⟩ | refine ⟨_, _, _, _, rfl, rfl, SqT.of upd_same, rfl, ?_⟩ | refine ⟨_, _, rfl, .inl (SqL.of upd_same), ?_⟩ | refine ⟨_, _, rfl, .inr (SqT.of upd_same), ?_⟩ | (refine' ⟨_, _, _, _, rfl, rfl, _, _, _⟩; rotate_left 2; (focus (first | assumption | exact SqL.of (by assumption) | exact SqT.of (by assumption) | exact Same.seq (by assumption) (by assumption))); (focus (exact rfl))) | (refine' ⟨_, _, rfl, _, _⟩; rotate_left 1; (focus (first | exact .inl (by assumption) | exact .inl (SqL.of (by assumption)) | exact .inr (by assumption) | exact .inr (SqT.of (by assumption)))))))
        dsimp only [tNoPart]
        refine TV.slice (hg3.mono fun q hq => s1.subset hq).tv o1 (some (at_ + 1)) none fun x2 N2 H2 s2 o2 t2 => ?_
        refine TV.cat (t1.mono fun q hq => s2.subset hq) t2 o2 (by decide) fun v' N3 H3 s3 o3 t3 => ?_
        exact fin (s1.trans (s2.trans s3)) o3 t3
      (repeat (first | refine ⟨_, rfl, ?_⟩ | refine ⟨_, _, rfl, rfl, ?_⟩ | refine ⟨rfl, ?_⟩ | refine .inl ⟨_, rfl, ?_⟩ | refine .inr ⟨_, rfl, ?_⟩ | refine ⟨.inr ⟨by decide, by decide⟩, ?_⟩ | refine ⟨⟨by decide, by decide⟩, ?_⟩ | refine ⟨⟨by decide, by decide, by decide⟩, ?_⟩ | refine ⟨.inr ⟨by omega, by omega⟩, ?_⟩ | refine ⟨(by show (0 : Int) < _; first | decide | omega), ?_⟩ | refine ⟨Nat.le_trans (Nat.le_of_ble_eq_true rfl : _ ≤ 50) (by decide), ?_⟩ | refine ⟨_, _, _, _, rfl, rfl, upd_same, rfl, ?_⟩ | refine ⟨_, _, _, _, rfl, rfl, SqL.of upd_same, rfl, ?_⟩ | refine ⟨_, _, _, _, rfl, rfl, SqT.of upd_same, rfl, ?_⟩ | refine ⟨_, _, rfl, .inl (SqL.of upd_same), ?_⟩ | refine ⟨_, _, rfl, .inr (SqT.of upd_same), ?_⟩ | (refine' ⟨_, _, _, _, rfl, rfl, _, _, _⟩; rotate_left 2; (focus (first | assumption | exact SqL.of (by assumption) | exact SqT.of (by assumption) | exact Same.seq (by assumption) (by assumption))); (focus (exact rfl))) | (refine' ⟨_, _, rfl, _, _⟩; rotate_left 1; (focus (first | exact .inl (by assumption) | exact .inl (SqL.of (by assumption)) | exact .inr (by assumption) | exact .inr (SqT.of (by assumption)))))))
      refine ite2 (fun _ => ?_) (fun _ => ?_)
      · (repeat (first | refine ⟨_, rfl, ?_⟩ | refine ⟨_, _, rfl, rfl, ?_⟩ | refine ⟨rfl, ?_⟩ | refine .inl ⟨_, rfl, ?_⟩ | refine .inr ⟨_, rfl, ?_⟩ | refine ⟨.inr ⟨by decide, by decide⟩, ?_⟩ | refine ⟨⟨by decide, by decide⟩, ?_⟩ | refine ⟨⟨by decide, by decide, by decide⟩, ?_⟩ | refine ⟨.inr ⟨by omega, by omega⟩, ?_⟩ | refine ⟨(by show (0 : Int) < _; first | decide | omega), ?_⟩ | refine ⟨Nat.le_trans (Nat.le_of_ble_eq_true rfl : _ ≤ 50) (by decide), ?_⟩ | refine ⟨_, _, _, _, rfl, rfl, upd_same, rfl, ?_⟩ | refine ⟨_, _, _, _, rfl, rfl, SqL.of upd_same, rfl, ?_⟩ | refine ⟨_, _, _, _, rfl, rfl, SqT.of upd_same, rfl, ?_⟩ | refine ⟨_, _, rfl, .inl (SqL.of upd_same), ?_⟩ | refine ⟨_, _, rfl, .inr (SqT.of upd_same), ?_⟩ | (refine' ⟨_, _, _, _, rfl, rfl, _, _, _⟩; rotate_left 2; (focus (first | assumption | exact SqL.of (by assumption) | exact SqT.of (by assumption) | exact Same.seq (by assumption) (by assumption))); (focus (exact rfl))) | (refine' ⟨_, _, rfl, _, _⟩; rotate_left 1; (focus (first | exact .inl (by assumption) | exact .inl (SqL.of (by assumption)) | exact .inr (by assumption) | exact .inr (SqT.of (by assumption)))))))
        refine TV.slice hg3.tv o none (some at_) fun x1 N1 H1 s1 o1 t1 => ?_
        (repeat (first | refine ⟨_, rfl, ?_⟩ | refine ⟨_, _, rfl, rfl, ?_⟩ | refine ⟨rfl, ?_⟩ | refine .inl ⟨_, rfl, ?_⟩ | refine .inr ⟨_, rfl, ?_⟩ | refine ⟨.inr ⟨by decide, by decide⟩, ?_⟩ | refine ⟨⟨by decide, by decide⟩, ?_⟩ | refine ⟨⟨by decide, by decide, by decide⟩, ?_⟩ | refine ⟨.inr ⟨by omega, by omega⟩, ?_⟩ | refine ⟨(by show (0 : Int) < _; first | decide | omega), ?_⟩ | refine ⟨Nat.le_trans (Nat.le_of_ble_eq_true rfl : _ ≤ 50) (by decide), ?_⟩ | refine ⟨_, _, _, _, rfl, rfl, upd_same, rfl, ?_⟩ | refine ⟨_, _, _, _, rfl, rfl, SqL.of upd_same, rfl, ?_⟩ | refine ⟨_, _, _, _, rfl, rfl, SqT.of upd_same, rfl, ?_⟩ | refine ⟨_, _, rfl, .inl (SqL.of upd_same), ?_⟩ | refine ⟨_, _, rfl, .inr (SqT.of upd_same), ?_⟩ | (refine' ⟨_, _, _, _, rfl, rfl, _, _, _⟩; rotate_left 2; (focus (first | assumption | exact SqL.of (by assumption) | exact SqT.of (by assumption) | exact Same.seq (by assumption) (by assumption))); (focus (exact rfl))) | (refine' ⟨_, _, rfl, _, _⟩; rotate_left 1; (focus (first | exact .inl (by assumption) | exact .inl (SqL.of (by assumption)) | exact .inr (by assumption) | exact .inr (SqT.of (by assumption)))))))
        refine fun b hb => ?_
        have o2 := o1.add (u := .tup [v]) hb
        refine TV.cat (t1.mono fun q hq => List.mem_cons_of_mem _ hq) (one (PL.mono (fun q hq => s1.subset hq) 1 _ _ hv)) o2 (by decide) fun x2 N2 H2 s2 o3 t2 => ?_
        have s12 := s1.trans ((suf [_] N1).trans s2)
        (repeat (first | refine ⟨_, rfl, ?_⟩ | refine ⟨_, _, rfl, rfl, ?_⟩ | refine ⟨rfl, ?_⟩ | refine .inl ⟨_, rfl, ?_⟩ | refine .inr ⟨_, rfl, ?_⟩ | refine ⟨.inr ⟨by decide, by decide⟩, ?_⟩ | refine ⟨⟨by decide, by decide⟩, ?_⟩ | refine ⟨⟨by decide, by decide, by decide⟩, ?_⟩ | refine ⟨.inr ⟨by omega, by omega⟩, ?_⟩ | refine ⟨(by show (0 : Int) < _; first | decide | omega), ?_⟩ | refine ⟨Nat.le_trans (Nat.le_of_ble_eq_true rfl : _ ≤ 50) (by decide), ?_⟩ | refine ⟨_, _, _, _, rfl, rfl, upd_same, rfl, ?_⟩ | refine ⟨_, _, _, _, rfl, rfl, SqL.of upd_same, rfl, ?_⟩ | refine ⟨_, _, _, _, rfl, rfl, SqT.of upd_same, rfl, ?_⟩ | refine ⟨_, _, rfl, .inl (SqL.of upd_same), ?_⟩ | refine ⟨_, _, rfl, .inr (SqT.of upd_same), ?_⟩ | (refine' ⟨_, _, _, _, rfl, rfl, _, _, _⟩; rotate_left 2; (focus (first | assumption | exact SqL.of (by assumption) | exact SqT.of (by assumption) | exact Same.seq (by assumption) (by assumption))); (focus (exact rfl))) | (refine' ⟨_, _, rfl, _, _⟩; rotate_left 1; (focus (first | exact .inl (by assumption) | exact .inl (SqL.of (by assumption)) | exact .inr (by assumption) | exact .inr (SqT.of (by assumption)))))))
        dsimp only [tNoPart]
        refine TV.slice (hg3.mono fun q hq => s12.subset hq).tv o3 (some at_) none fun x3 N3 H3 s3 o4 t3 => ?_
        refine TV.cat (t2.mono fun q hq => s3.subset hq) t3 o4 (by decide) fun v' N4 H4 s4 o5 t5 => ?_
        exact fin (s12.trans (s3.trans s4)) o5 t5
      (repeat (first | refine ⟨_, rfl, ?_⟩ | refine ⟨_, _, rfl, rfl, ?_⟩ | refine ⟨rfl, ?_⟩ | refine .inl ⟨_, rfl, ?_⟩ | refine .inr ⟨_, rfl, ?_⟩ | refine ⟨.inr ⟨by decide, by decide⟩, ?_⟩ | refine ⟨⟨by decide, by decide⟩, ?_⟩ | refine ⟨⟨by decide, by decide, by decide⟩, ?_⟩ | refine ⟨.inr ⟨by omega, by omega⟩, ?_⟩ | refine ⟨(by show (0 : Int) < _; first | decide | omega), ?_⟩ | refine ⟨Nat.le_trans (Nat.le_of_ble_eq_true rfl : _ ≤ 50) (by decide), ?_⟩ | refine ⟨_, _, _, _, rfl, rfl, upd_same, rfl, ?_⟩ | refine ⟨_, _, _, _, rfl, rfl, SqL.of upd_same, rfl, ?_⟩ | refine ⟨_, _, _, _, rfl, rfl, SqT.of upd_same, rfl, ?_⟩ | refine ⟨_, _, rfl, .inl (SqL.of upd_same), ?_⟩ | refine ⟨_, _, rfl, .inr (SqT.of upd_same), ?_⟩ | (refine' ⟨_, _, _, _, rfl, rfl, _, _, _⟩; rotate_left 2; (focus (first | assumption | exact SqL.of (by assumption) | exact SqT.of (by assumption) | exact Same.seq (by assumption) (by assumption))); (focus (exact rfl))) | (refine' ⟨_, _, rfl, _, _⟩; rotate_left 1; (focus (first | exact .inl (by assumption) | exact .inl (SqL.of (by assumption)) | exact .inr (by assumption) | exact .inr (SqT.of (by assumption)))))))
      refine ite2 (fun _ => ?_) (fun _ => ?_)
      · (repeat (first | refine ⟨_, rfl, ?_⟩ | refine ⟨_, _, rfl, rfl, ?_⟩ | refine ⟨rfl, ?_⟩ | refine .inl ⟨_, rfl, ?_⟩ | refine .inr ⟨_, rfl, ?_⟩ | refine ⟨.inr ⟨by decide, by decide⟩, ?_⟩ | refine ⟨⟨by decide, by decide⟩, ?_⟩ | refine ⟨⟨by decide, by decide, by decide⟩, ?_⟩ | refine ⟨.inr ⟨by omega, by omega⟩, ?_⟩ | refine ⟨(by show (0 : Int) < _; first | decide | omega), ?_⟩ | refine ⟨Nat.le_trans (Nat.le_of_ble_eq_true rfl : _ ≤ 50) (by decide), ?_⟩ | refine ⟨_, _, _, _, rfl, rfl, upd_same, rfl, ?_⟩ | refine ⟨_, _, _, _, rfl, rfl, SqL.of upd_same, rfl, ?_⟩ | refine ⟨_, _, _, _, rfl, rfl, SqT.of upd_same, rfl, ?_⟩ | refine ⟨_, _, rfl, .inl (SqL.of upd_same), ?_⟩ | refine ⟨_, _, rfl, .inr (SqT.of upd_same), ?_⟩ | (refine' ⟨_, _, _, _, rfl, rfl, _, _, _⟩; rotate_left 2; (focus (first | assumption | exact SqL.of (by assumption) | exact SqT.of (by assumption) | exact Same.seq (by assumption) (by assumption))); (focus (exact rfl))) | (refine' ⟨_, _, rfl, _, _⟩; rotate_left 1; (focus (first | exact .inl (by assumption) | exact .inl (SqL.of (by assumption)) | exact .inr (by assumption) | exact .inr (SqT.of (by assumption)))))))
        dsimp only [tCons, tC, tNil]
        refine ⟨H0, p, N, rfl, o, fun m H1 m1 m2 o1 => ?_⟩
        (repeat (first | refine ⟨_, rfl, ?_⟩ | refine ⟨_, _, rfl, rfl, ?_⟩ | refine ⟨rfl, ?_⟩ | refine .inl ⟨_, rfl, ?_⟩ | refine .inr ⟨_, rfl, ?_⟩ | refine ⟨.inr ⟨by decide, by decide⟩, ?_⟩ | refine ⟨⟨by decide, by decide⟩, ?_⟩ | refine ⟨⟨by decide, by decide, by decide⟩, ?_⟩ | refine ⟨.inr ⟨by omega, by omega⟩, ?_⟩ | refine ⟨(by show (0 : Int) < _; first | decide | omega), ?_⟩ | refine ⟨Nat.le_trans (Nat.le_of_ble_eq_true rfl : _ ≤ 50) (by decide), ?_⟩ | refine ⟨_, _, _, _, rfl, rfl, upd_same, rfl, ?_⟩ | refine ⟨_, _, _, _, rfl, rfl, SqL.of upd_same, rfl, ?_⟩ | refine ⟨_, _, _, _, rfl, rfl, SqT.of upd_same, rfl, ?_⟩ | refine ⟨_, _, rfl, .inl (SqL.of upd_same), ?_⟩ | refine ⟨_, _, rfl, .inr (SqT.of upd_same), ?_⟩ | (refine' ⟨_, _, _, _, rfl, rfl, _, _, _⟩; rotate_left 2; (focus (first | assumption | exact SqL.of (by assumption) | exact SqT.of (by assumption) | exact Same.seq (by assumption) (by assumption))); (focus (exact rfl))) | (refine' ⟨_, _, rfl, _, _⟩; rotate_left 1; (focus (first | exact .inl (by assumption) | exact .inl (SqL.of (by assumption)) | exact .inr (by assumption) | exact .inr (SqT.of (by assumption)))))))
        refine fun b hb => ?_
        have o2 := o1.add (u := .tup [.str m]) hb
        (repeat (first | refine ⟨_, rfl, ?_⟩ | refine ⟨_, _, rfl, rfl, ?_⟩ | refine ⟨rfl, ?_⟩ | refine .inl ⟨_, rfl, ?_⟩ | refine .inr ⟨_, rfl, ?_⟩ | refine ⟨.inr ⟨by decide, by decide⟩, ?_⟩ | refine ⟨⟨by decide, by decide⟩, ?_⟩ | refine ⟨⟨by decide, by decide, by decide⟩, ?_⟩ | refine ⟨.inr ⟨by omega, by omega⟩, ?_⟩ | refine ⟨(by show (0 : Int) < _; first | decide | omega), ?_⟩ | refine ⟨Nat.le_trans (Nat.le_of_ble_eq_true rfl : _ ≤ 50) (by decide), ?_⟩ | refine ⟨_, _, _, _, rfl, rfl, upd_same, rfl, ?_⟩ | refine ⟨_, _, _, _, rfl, rfl, SqL.of upd_same, rfl, ?_⟩ | refine ⟨_, _, _, _, rfl, rfl, SqT.of upd_same, rfl, ?_⟩ | refine ⟨_, _, rfl, .inl (SqL.of upd_same), ?_⟩ | refine ⟨_, _, rfl, .inr (SqT.of upd_same), ?_⟩ | (refine' ⟨_, _, _, _, rfl, rfl, _, _, _⟩; rotate_left 2; (focus (first | assumption | exact SqL.of (by assumption) | exact SqT.of (by assumption) | exact Same.seq (by assumption) (by assumption))); (focus (exact rfl))) | (refine' ⟨_, _, rfl, _, _⟩; rotate_left 1; (focus (first | exact .inl (by assumption) | exact .inl (SqL.of (by assumption)) | exact .inr (by assumption) | exact .inr (SqT.of (by assumption)))))))
        dsimp only [tNoPart]
        refine TV.slice (hg3.mono fun q hq => List.mem_cons_of_mem _ hq).tv o2 (some 1) none fun x2 N2 H2 s2 o3 t2 => ?_
        refine TV.cat ((one (N' := N) (v := .str m) (d := .str m) (.inl ⟨rfl, m1⟩)).mono fun q hq => s2.subset hq) t2 o3 (by decide) fun v' N4 H4 s4 o5 t5 => ?_
        exact fin ((suf [_] N).trans (s2.trans s4)) o5 t5
      (repeat (first | refine ⟨_, rfl, ?_⟩ | refine ⟨_, _, rfl, rfl, ?_⟩ | refine ⟨rfl, ?_⟩ | refine .inl ⟨_, rfl, ?_⟩ | refine .inr ⟨_, rfl, ?_⟩ | refine ⟨.inr ⟨by decide, by decide⟩, ?_⟩ | refine ⟨⟨by decide, by decide⟩, ?_⟩ | refine ⟨⟨by decide, by decide, by decide⟩, ?_⟩ | refine ⟨.inr ⟨by omega, by omega⟩, ?_⟩ | refine ⟨(by show (0 : Int) < _; first | decide | omega), ?_⟩ | refine ⟨Nat.le_trans (Nat.le_of_ble_eq_true rfl : _ ≤ 50) (by decide), ?_⟩ | refine ⟨_, _, _, _, rfl, rfl, upd_same, rfl, ?_⟩ | refine ⟨_, _, _, _, rfl, rfl, SqL.of upd_same, rfl, ?_⟩ | refine ⟨_, _, _, _, rfl, rfl, SqT.of upd_same, rfl, ?_⟩ | refine ⟨_, _, rfl, .inl (SqL.of upd_same), ?_⟩ | refine ⟨_, _, rfl, .inr (SqT.of upd_same), ?_⟩ | (refine' ⟨_, _, _, _, rfl, rfl, _, _, _⟩; rotate_left 2; (focus (first | assumption | exact SqL.of (by assumption) | exact SqT.of (by assumption) | exact Same.seq (by assumption) (by assumption))); (focus (exact rfl))) | (refine' ⟨_, _, rfl, _, _⟩; rotate_left 1; (focus (first | exact .inl (by assumption) | exact .inl (SqL.of (by assumption)) | exact .inr (by assumption) | exact .inr (SqT.of (by assumption)))))))
      refine ite2 (fun _ => ?_) (fun _ => ?_)
      · (repeat (first | refine ⟨_, rfl, ?_⟩ | refine ⟨_, _, rfl, rfl, ?_⟩ | refine ⟨rfl, ?_⟩ | refine .inl ⟨_, rfl, ?_⟩ | refine .inr ⟨_, rfl, ?_⟩ | refine ⟨.inr ⟨by decide, by decide⟩, ?_⟩ | refine ⟨⟨by decide, by decide⟩, ?_⟩ | refine ⟨⟨by decide, by decide, by decide⟩, ?_⟩ | refine ⟨.inr ⟨by omega, by omega⟩, ?_⟩ | refine ⟨(by show (0 : Int) < _; first | decide | omega), ?_⟩ | refine ⟨Nat.le_trans (Nat.le_of_ble_eq_true rfl : _ ≤ 50) (by decide), ?_⟩ | refine ⟨_, _, _, _, rfl, rfl, upd_same, rfl, ?_⟩ | refine ⟨_, _, _, _, rfl, rfl, SqL.of upd_same, rfl, ?_⟩ | refine ⟨_, _, _, _, rfl, rfl, SqT.of upd_same, rfl, ?_⟩ | refine ⟨_, _, rfl, .inl (SqL.of upd_same), ?_⟩ | refine ⟨_, _, rfl, .inr (SqT.of upd_same), ?_⟩ | (refine' ⟨_, _, _, _, rfl, rfl, _, _, _⟩; rotate_left 2; (focus (first | assumption | exact SqL.of (by assumption) | exact SqT.of (by assumption) | exact Same.seq (by assumption) (by assumption))); (focus (exact rfl))) | (refine' ⟨_, _, rfl, _, _⟩; rotate_left 1; (focus (first | exact .inl (by assumption) | exact .inl (SqL.of (by assumption)) | exact .inr (by assumption) | exact .inr (SqT.of (by assumption)))))))
        exact q v d _ _ sf o (PL.up 1 _ _ hv)
      (repeat (first | refine ⟨_, rfl, ?_⟩ | refine ⟨_, _, rfl, rfl, ?_⟩ | refine ⟨rfl, ?_⟩ | refine .inl ⟨_, rfl, ?_⟩ | refine .inr ⟨_, rfl, ?_⟩ | refine ⟨.inr ⟨by decide, by decide⟩, ?_⟩ | refine ⟨⟨by decide, by decide⟩, ?_⟩ | refine ⟨⟨by decide, by decide, by decide⟩, ?_⟩ | refine ⟨.inr ⟨by omega, by omega⟩, ?_⟩ | refine ⟨(by show (0 : Int) < _; first | decide | omega), ?_⟩ | refine ⟨Nat.le_trans (Nat.le_of_ble_eq_true rfl : _ ≤ 50) (by decide), ?_⟩ | refine ⟨_, _, _, _, rfl, rfl, upd_same, rfl, ?_⟩ | refine ⟨_, _, _, _, rfl, rfl, SqL.of upd_same, rfl, ?_⟩ | refine ⟨_, _, _, _, rfl, rfl, SqT.of upd_same, rfl, ?_⟩ | refine ⟨_, _, rfl, .inl (SqL.of upd_same), ?_⟩ | refine ⟨_, _, rfl, .inr (SqT.of upd_same), ?_⟩ | (refine' ⟨_, _, _, _, rfl, rfl, _, _, _⟩; rotate_left 2; (focus (first | assumption | exact SqL.of (by assumption) | exact SqT.of (by assumption) | exact Same.seq (by assumption) (by assumption))); (focus (exact rfl))) | (refine' ⟨_, _, rfl, _, _⟩; rotate_left 1; (focus (first | exact .inl (by assumption) | exact .inl (SqL.of (by assumption)) | exact .inr (by assumption) | exact .inr (SqT.of (by assumption)))))))
      refine ite2 (fun _ => ?_) (fun _ => ?_)
      · (repeat (first | refine ⟨_, rfl, ?_⟩ | refine ⟨_, _, rfl, rfl, ?_⟩ | refine ⟨rfl, ?_⟩ | refine .inl ⟨_, rfl, ?_⟩ | refine .inr ⟨_, rfl, ?_⟩ | refine ⟨.inr ⟨by decide, by decide⟩, ?_⟩ | refine ⟨⟨by decide, by decide⟩, ?_⟩ | refine ⟨⟨by decide, by decide, by decide⟩, ?_⟩ | refine ⟨.inr ⟨by omega, by omega⟩, ?_⟩ | refine ⟨(by show (0 : Int) < _; first | decide | omega), ?_⟩ | refine ⟨Nat.le_trans (Nat.le_of_ble_eq_true rfl : _ ≤ 50) (by decide), ?_⟩ | refine ⟨_, _, _, _, rfl, rfl, upd_same, rfl, ?_⟩ | refine ⟨_, _, _, _, rfl, rfl, SqL.of upd_same, rfl, ?_⟩ | refine ⟨_, _, _, _, rfl, rfl, SqT.of upd_same, rfl, ?_⟩ | refine ⟨_, _, rfl, .inl (SqL.of upd_same), ?_⟩ | refine ⟨_, _, rfl, .inr (SqT.of upd_same), ?_⟩ | (refine' ⟨_, _, _, _, rfl, rfl, _, _, _⟩; rotate_left 2; (focus (first | assumption | exact SqL.of (by assumption) | exact SqT.of (by assumption) | exact Same.seq (by assumption) (by assumption))); (focus (exact rfl))) | (refine' ⟨_, _, rfl, _, _⟩; rotate_left 1; (focus (first | exact .inl (by assumption) | exact .inl (SqL.of (by assumption)) | exact .inr (by assumption) | exact .inr (SqT.of (by assumption)))))))
        refine fun b hb => ?_
        have o1 := o.add (u := .tup [.ref r]) hb
        exact q _ (.tuple [.tuple (.str n :: js.map PyData.int)]) _ _ (sf.trans (suf [_] _)) o1 (.inr ⟨b, [.ref r], _, rfl, .cons (.inr ⟨r, .str n :: js.map V.int, .str n :: js.map PyData.int, rfl, .cons (show Atom (.str n) (.str n) from ⟨rfl, hg.2.1⟩) (ints_paired js), .inl ⟨List.mem_cons_of_mem _ hg3.1, rfl⟩⟩) .nil, .inl ⟨List.mem_cons_self .., rfl⟩⟩)
      · (repeat (first | refine ⟨_, rfl, ?_⟩ | refine ⟨_, _, rfl, rfl, ?_⟩ | refine ⟨rfl, ?_⟩ | refine .inl ⟨_, rfl, ?_⟩ | refine .inr ⟨_, rfl, ?_⟩ | refine ⟨.inr ⟨by decide, by decide⟩, ?_⟩ | refine ⟨⟨by decide, by decide⟩, ?_⟩ | refine ⟨⟨by decide, by decide, by decide⟩, ?_⟩ | refine ⟨.inr ⟨by omega, by omega⟩, ?_⟩ | refine ⟨(by show (0 : Int) < _; first | decide | omega), ?_⟩ | refine ⟨Nat.le_trans (Nat.le_of_ble_eq_true rfl : _ ≤ 50) (by decide), ?_⟩ | refine ⟨_, _, _, _, rfl, rfl, upd_same, rfl, ?_⟩ | refine ⟨_, _, _, _, rfl, rfl, SqL.of upd_same, rfl, ?_⟩ | refine ⟨_, _, _, _, rfl, rfl, SqT.of upd_same, rfl, ?_⟩ | refine ⟨_, _, rfl, .inl (SqL.of upd_same), ?_⟩ | refine ⟨_, _, rfl, .inr (SqT.of upd_same), ?_⟩ | (refine' ⟨_, _, _, _, rfl, rfl, _, _, _⟩; rotate_left 2; (focus (first | assumption | exact SqL.of (by assumption) | exact SqT.of (by assumption) | exact Same.seq (by assumption) (by assumption))); (focus (exact rfl))) | (refine' ⟨_, _, rfl, _, _⟩; rotate_left 1; (focus (first | exact .inl (by assumption) | exact .inl (SqL.of (by assumption)) | exact .inr (by assumption) | exact .inr (SqT.of (by assumption)))))))
        refine TV.slice hg3.tv o none (some at_) fun x1 N1 H1 s1 o1 t1 => ?_
        (repeat (first | refine ⟨_, rfl, ?_⟩ | refine ⟨_, _, rfl, rfl, ?_⟩ | refine ⟨rfl, ?_⟩ | refine .inl ⟨_, rfl, ?_⟩ | refine .inr ⟨_, rfl, ?_⟩ | refine ⟨.inr ⟨by decide, by decide⟩, ?_⟩ | refine ⟨⟨by decide, by decide⟩, ?_⟩ | refine ⟨⟨by decide, by decide, by decide⟩, ?_⟩ | refine ⟨.inr ⟨by omega, by omega⟩, ?_⟩ | refine ⟨(by show (0 : Int) < _; first | decide | omega), ?_⟩ | refine ⟨Nat.le_trans (Nat.le_of_ble_eq_true rfl : _ ≤ 50) (by decide), ?_⟩ | refine ⟨_, _, _, _, rfl, rfl, upd_same, rfl, ?_⟩ | refine ⟨_, _, _, _, rfl, rfl, SqL.of upd_same, rfl, ?_⟩ | refine ⟨_, _, _, _, rfl, rfl, SqT.of upd_same, rfl, ?_⟩ | refine ⟨_, _, rfl, .inl (SqL.of upd_same), ?_⟩ | refine ⟨_, _, rfl, .inr (SqT.of upd_same), ?_⟩ | (refine' ⟨_, _, _, _, rfl, rfl, _, _, _⟩; rotate_left 2; (focus (first | assumption | exact SqL.of (by assumption) | exact SqT.of (by assumption) | exact Same.seq (by assumption) (by assumption))); (focus (exact rfl))) | (refine' ⟨_, _, rfl, _, _⟩; rotate_left 1; (focus (first | exact .inl (by assumption) | exact .inl (SqL.of (by assumption)) | exact .inr (by assumption) | exact .inr (SqT.of (by assumption)))))))
        refine fun b hb => ?_
        have o2 := o1.add (u := .tup [v]) hb
        refine TV.cat (t1.mono fun q hq => List.mem_cons_of_mem _ hq) (one (PL.mono (fun q hq => s1.subset hq) 1 _ _ hv)) o2 (by decide) fun x2 N2 H2 s2 o3 t2 => ?_
        have s12 := s1.trans ((suf [_] N1).trans s2)
        (repeat (first | refine ⟨_, rfl, ?_⟩ | refine ⟨_, _, rfl, rfl, ?_⟩ | refine ⟨rfl, ?_⟩ | refine .inl ⟨_, rfl, ?_⟩ | refine .inr ⟨_, rfl, ?_⟩ | refine ⟨.inr ⟨by decide, by decide⟩, ?_⟩ | refine ⟨⟨by decide, by decide⟩, ?_⟩ | refine ⟨⟨by decide, by decide, by decide⟩, ?_⟩ | refine ⟨.inr ⟨by omega, by omega⟩, ?_⟩ | refine ⟨(by show (0 : Int) < _; first | decide | omega), ?_⟩ | refine ⟨Nat.le_trans (Nat.le_of_ble_eq_true rfl : _ ≤ 50) (by decide), ?_⟩ | refine ⟨_, _, _, _, rfl, rfl, upd_same, rfl, ?_⟩ | refine ⟨_, _, _, _, rfl, rfl, SqL.of upd_same, rfl, ?_⟩ | refine ⟨_, _, _, _, rfl, rfl, SqT.of upd_same, rfl, ?_⟩ | refine ⟨_, _, rfl, .inl (SqL.of upd_same), ?_⟩ | refine ⟨_, _, rfl, .inr (SqT.of upd_same), ?_⟩ | (refine' ⟨_, _, _, _, rfl, rfl, _, _, _⟩; rotate_left 2; (focus (first | assumption | exact SqL.of (by assumption) | exact SqT.of (by assumption) | exact Same.seq (by assumption) (by assumption))); (focus (exact rfl))) | (refine' ⟨_, _, rfl, _, _⟩; rotate_left 1; (focus (first | exact .inl (by assumption) | exact .inl (SqL.of (by assumption)) | exact .inr (by assumption) | exact .inr (SqT.of (by assumption)))))))
        dsimp only [tNoPart]
        refine TV.slice (hg3.mono fun q hq => s12.subset hq).tv o3 (some (at_ + 1)) none fun x3 N3 H3 s3 o4 t3 => ?_
        refine TV.cat (t2.mono fun q hq => s3.subset hq) t3 o4 (by decide) fun v' N4 H4 s4 o5 t5 => ?_
        exact fin (s12.trans (s3.trans s4)) o5 t5
end
end K26

set_option Elab.async false
set_option linter.all false
set_option maxRecDepth 100000
set_option maxHeartbeats 4000000
namespace K26
open PySem PySem.Spec PyProof.Rows L2 Lw GxR
/-- the tables of the two code objects, and what is new and known since H0 -/
def Wt (P1 P2 : Addr) (H0 H : Hp) (L : List (Addr × HO)) : Prop := ∃ t1 t2, TriplesOk t1.toList ∧ TriplesOk t2.toList ∧ Objs H0 H ((P1, .tbl t1) :: (P2, .tbl t2) :: L)
section
variable {P1 P2 : Addr} {H0 H H' : Hp} {p a : Addr} {L L' M : List (Addr × HO)} {u u' : HO} {x y : Int}
theorem Wd.drop (h : Wd P1 P2 H0 H p L) : Wt P1 P2 H0 H L := by
  obtain ⟨x, y, t1, t2, hx, h1, h2, o⟩ := h
  exact ⟨t1, t2, h1, h2, o.sub (List.sublist_cons_self _ _)⟩
theorem Wd.lay (h : Wd P1 P2 H0 H p L) : ∃ x y : Int, 0 ≤ x ∧ Wt P1 P2 H0 H ((p, .lst [.int x, .int y]) :: L) := by
  obtain ⟨x, y, t1, t2, hx, h1, h2, o⟩ := h
  exact ⟨x, y, hx, t1, t2, h1, h2, Objs.perm' o ((List.Perm.swap _ _ _).trans (.cons _ (.swap _ _ _)))⟩
theorem Wt.take (h : Wt P1 P2 H0 H (M ++ (p, .lst [.int x, .int y]) :: L)) (hx : 0 ≤ x) : Wd P1 P2 H0 H p (M ++ L) := by
  obtain ⟨t1, t2, h1, h2, o⟩ := h
  refine ⟨x, y, t1, t2, hx, h1, h2, Objs.perm' o ?_⟩
  exact List.perm_middle (l₁ := (P1, HO.tbl t1) :: (P2, HO.tbl t2) :: M) (a := (p, HO.lst [.int x, .int y])) (l₂ := L)
theorem Wt.src (h : Wt P1 P2 H0 H L) (n : H a = none) (hx : 0 ≤ x) : Wd P1 P2 H0 (upd H a (.lst [.int x, .int y])) a L := by
  obtain ⟨t1, t2, h1, h2, o⟩ := h
  exact ⟨x, y, t1, t2, hx, h1, h2, o.add n⟩
theorem Wt.add (h : Wt P1 P2 H0 H L) (n : H a = none) : Wt P1 P2 H0 (upd H a u) ((a, u) :: L) := by
  obtain ⟨t1, t2, h1, h2, o⟩ := h
  exact ⟨t1, t2, h1, h2, Objs.perm' (o.add n) ((List.Perm.swap _ _ _).trans (.cons _ (.swap _ _ _)))⟩
theorem Wt.mem (h : Wt P1 P2 H0 H L) {q : Addr × HO} (hm : q ∈ L) : H q.1 = some q.2 := by
  obtain ⟨t1, t2, h1, h2, o⟩ := h
  exact o.at_ q (List.mem_cons_of_mem _ (List.mem_cons_of_mem _ hm))
theorem Wt.same (h : Wt P1 P2 H0 H L) : Same H0 H := by
  obtain ⟨t1, t2, h1, h2, o⟩ := h
  exact o.same
theorem Wd.same (h : Wd P1 P2 H0 H p L) : Same H0 H := h.drop.same
theorem Wt.put (h : Wt P1 P2 H0 H L) (i : Nat) (hi : L[i]? = some (a, u)) : Wt P1 P2 H0 (upd H a u') (L.set i (a, u')) := by
  obtain ⟨t1, t2, h1, h2, o⟩ := h
  exact ⟨t1, t2, h1, h2, o.put (i + 2) hi⟩
theorem Wt.perm (h : Wt P1 P2 H0 H L) (q : List.Perm L L') : Wt P1 P2 H0 H L' := by
  obtain ⟨t1, t2, h1, h2, o⟩ := h
  exact ⟨t1, t2, h1, h2, Objs.perm' o (.cons _ (.cons _ q))⟩
end
theorem Gd.kinds {L : List (Addr × HO)} {r : Addr} {n : Str} {ls js : List Int} (h : Gd L r n ls js) : ∃ ks, kindsOf n = some ks ∧ js.length = ks.length := by
  have h1 := h.2.2.1
  unfold limsOf at h1
  cases e : kindsOf n with
  | none => rw [e] at h1; cases h1
  | some ks =>
    rw [e] at h1
    cases h1
    refine ⟨ks, rfl, ?_⟩
    rw [h.len.1, List.length_map]
    exact (kinds_len _ (forms_ok e)).2.symm
/-! ### data -/
theorem texts_lay : ∀ x ∈ texts33, (PyData.str x).canLay0 = true := by decide +kernel
theorem Atom.dp {K : PySem.W.Frag} {H : Hp} : ∀ {v : V} {d : PyData}, Atom v d → Dp K H v d ∧ d.canLay0 = true ∧ d.depth ≤ 1
  | .int i, .int j, h => by cases (show i = j from h); exact ⟨.int _, rfl, by unfold PyData.depth; decide⟩
  | .bl a, .bool b, h => by cases (show a = b from h); exact ⟨.bl _, rfl, by unfold PyData.depth; decide⟩
  | .non, .none, _ => ⟨.non, rfl, by decide⟩
  | .str x, .str y, h => by
    obtain ⟨e, m⟩ := h
    cases e
    exact ⟨.str _, texts_lay _ m, by unfold PyData.depth; decide⟩
theorem dps_of {K : PySem.W.Frag} {H : Hp} {R : V → PyData → Prop} {n : Nat} (f : ∀ v d, R v d → Dp K H v d ∧ d.canLay0 = true ∧ d.depth ≤ n) : ∀ {xs : List V} {ds : List PyData}, Paired R xs ds → DpAll K H xs ds ∧ PyData.canLayAll0 ds = true ∧ PyData.depthAll ds ≤ n
  | _, _, .nil => ⟨.nil, rfl, Nat.zero_le _⟩
  | _, _, .cons r t => by
    obtain ⟨a1, a2, a3⟩ := f _ _ r
    obtain ⟨b1, b2, b3⟩ := dps_of f t
    refine ⟨.cons a1 b1, ?_, ?_⟩
    · unfold PyData.canLayAll0
      rw [a2, b2]
      rfl
    · unfold PyData.depthAll
      omega
theorem PL.dp {K : PySem.W.Frag} {H : Hp} {L : List (Addr × HO)} (hL : ∀ q ∈ L, H q.1 = some q.2) : ∀ (n : Nat) (v : V) (d : PyData), PL n L v d → Dp K H v d ∧ d.canLay0 = true ∧ d.depth ≤ n + 1
  | 0, _, _, h => Atom.dp h
  | n + 1, v, d, h => by
    rcases h with h | ⟨a, xs, ds, rfl, p, ⟨m, rfl⟩ | ⟨m, rfl⟩⟩
    · obtain ⟨a1, a2, a3⟩ := Atom.dp (K := K) (H := H) h
      exact ⟨a1, a2, by omega⟩
    · obtain ⟨b1, b2, b3⟩ := dps_of (PL.dp hL n) p
      exact ⟨.tup (SqT.of (hL _ m)) b1, by unfold PyData.canLay0; exact b2, by unfold PyData.depth; omega⟩
    · obtain ⟨b1, b2, b3⟩ := dps_of (PL.dp hL n) p
      exact ⟨.lst (SqL.of (hL _ m)) b1, by unfold PyData.canLay0; exact b2, by unfold PyData.depth; omega⟩
/-- equal lists are told equal -/
theorem same_ne {K : PySem.W.Frag} {H : Hp} {x y : V} {d : PyData} {Q : VK} (h1 : Dp K H x d) (h2 : Dp K H y d) (l : d.canLay0 = true) (b : d.depth ≤ 60) (q : Q (.bl false) H) : rNeD K x y H Q := by
  have sh : SeqAt.shaped d = true := by
    unfold SeqAt.shaped
    rw [l, decide_eq_true (by omega)]
    rfl
  refine ⟨d, d, h1, h2, sh, sh, ?_⟩
  rw [SeqAt.eqv_refl d l]
  exact q
theorem tgt_key : (texts33.all fun n => decide (inV (.str n) [.str "jump", .str "below", .str "call"] = decide (n = "jump" ∨ n = "below" ∨ n = "call"))) = true := by decide +kernel
def spSame : Sp := fun vs H Q _ => ∃ a b : Bool, vs = [.bl a, .bl b] ∧ Q (.bl (a == b)) H
def spTgH (P1 P2 : Addr) : Sp := fun vs H Q _ => ∃ (H0 : Hp) (p r : Addr) (L : List (Addr × HO)) (n : Str) (ls js : List Int), vs = [.ref r] ∧ Wd P1 P2 H0 H p L ∧ Gd L r n ls js ∧ ∀ N H', L <:+ N → Wd P1 P2 H0 H' p N → Q (.bl true) H'
section
variable {P : Program} {w : World} {K : PySem.W.Frag} {mg : Str → Option Value} {base : Heap} {P1 P2 : Addr}
theorem ok_same (T : Tx w K mg) : FnOk P w K mg base CX0 1 T.a_law_same_answer T.d_law_same_answer ["actual", "due"] spSame := by
  refine T.F_law_same_answer.ok sc_law_same_answer (fun vs H Q E h => ?_) (fun cdv A outer s H vs Q E hr h => ?_)
  · obtain ⟨a, b, rfl, _⟩ := h
    rfl
  · obtain ⟨a, b, rfl, q⟩ := h
    refine ⟨_, (pss_one (ps_ret (pe_and (pe_callB call_isi (by rfl) T.z_isinstance (by decide +kernel) (pa_cons (pv 0) (pa_cons (pe_bltn (v := .ty "bool") (u := .type "bool") (by rfl) T.z_bool (by decide +kernel) rfl) pa_nil))) (pe_one (pe_cmpR op_eq (pv 0) (pv 1) (nomark _)))))), ?_⟩
    refine ⟨_, rfl, _, _, _, _, true, rfl, .ty "bool", .base (.bl _), kit_ty (by decide +kernel), ?_⟩
    (repeat (first | refine ⟨_, rfl, ?_⟩ | refine ⟨_, _, rfl, rfl, ?_⟩ | refine ⟨rfl, ?_⟩ | refine .inl ⟨_, rfl, ?_⟩ | refine .inr ⟨_, rfl, ?_⟩ | refine ⟨.inr ⟨by decide, by decide⟩, ?_⟩ | refine ⟨⟨by decide, by decide⟩, ?_⟩ | refine ⟨⟨by decide, by decide, by decide⟩, ?_⟩ | refine ⟨.inr ⟨by omega, by omega⟩, ?_⟩ | refine ⟨(by show (0 : Int) < _; first | decide | omega), ?_⟩ | refine ⟨Nat.le_trans (Nat.le_of_ble_eq_true rfl : _ ≤ 50) (by decide), ?_⟩ | refine ⟨_, _, _, _, rfl, rfl, upd_same, rfl, ?_⟩ | refine ⟨_, _, _, _, rfl, rfl, SqL.of upd_same, rfl, ?_⟩ | refine ⟨_, _, _, _, rfl, rfl, SqT.of upd_same, rfl, ?_⟩ | refine ⟨_, _, rfl, .inl (SqL.of upd_same), ?_⟩ | refine ⟨_, _, rfl, .inr (SqT.of upd_same), ?_⟩ | (refine' ⟨_, _, _, _, rfl, rfl, _, _, _⟩; rotate_left 2; (focus (first | assumption | exact SqL.of (by assumption) | exact SqT.of (by assumption) | exact Same.seq (by assumption) (by assumption))); (focus (exact rfl))) | (refine' ⟨_, _, rfl, _, _⟩; rotate_left 1; (focus (first | exact .inl (by assumption) | exact .inl (SqL.of (by assumption)) | exact .inr (by assumption) | exact .inr (SqT.of (by assumption)))))))
    have e : decide (V.bl a = V.bl b) = (a == b) := by cases a <;> cases b <;> rfl
    show Q (.bl (decide (V.bl a = V.bl b))) H
    rw [e]
    exact q
theorem ok_tgh (T : Tx w K mg) : FnOk P w K mg base CX0 2 T.a_law_targets_hold T.d_law_targets_hold ["instruction"] (spTgH P1 P2) := by
  have G_targets : FnOk P w K mg base CX0 1 T.a_targets T.d_targets ["instruction"] spTargets := ok_targets T
  refine T.F_law_targets_hold.ok sc_law_targets_hold (fun vs H Q E h => ?_) (fun cdv A outer s H vs Q E hr h => ?_)
  · obtain ⟨H0, p, r, L, n, ls, js, rfl, _⟩ := h
    rfl
  · obtain ⟨H0, p, r, L, n, ls, js, rfl, o, hg, q⟩ := h
    have hr_targets : Room 1 _ := hr
    refine ⟨_, (pss_cons (ps_set (i := 1) sc_law_targets_hold.nd rfl (.inl rfl) (pe_lst pa_nil))
        (C8.pss_cut (ps_if (pt_cmpR op_in_seq (pe_ix ix_tup (pv 0) pe_int (fun _ _ => rfl)) (pe_tup (pa_cons pe_str (pa_cons pe_str (pa_cons pe_str pa_nil)))) (by rfl))
        (pss_one (ps_set (i := 1) sc_law_targets_hold.nd rfl (.inl rfl) (pe_lst (pa_cons (pe_ix ix_tup (pv 0) (pe_un un_neg pe_int) (fun _ _ => rfl)) pa_nil))))
        pss_nil)
        (pss_cons (ps_for PassesOwn.never rfl (pi_range1 rfl T.z_range (pa_cons pe_int pa_nil)) (pg_name (i := 2) sc_law_targets_hold.nd rfl (.inl rfl))
        (pss_cons (ps_set (i := 3) sc_law_targets_hold.nd rfl (.inl rfl) (pe_call G_targets hr_targets (by rfl) T.g_targets T.F_targets.kp T.b_targets .nil pass0 (pa_cons (pv 0) pa_nil)))
        (pss_cons (ps_if (PW.pt (pw_or (pt_not (pt_val (pe_callB call_isi (by rfl) T.z_isinstance (by decide +kernel) (pa_cons (pv 3) (pa_cons (pe_bltn (v := .ty "list") (u := .type "list") (by rfl) T.z_list (by decide +kernel) rfl) pa_nil))))) (pw_or1 (pt_cmpR (op_neD hr.units) (pv 3) (pv 1) (nomark _)))))
        (pss_one (ps_ret pe_bl))
        pss_nil)
        (pss_cons (ps_for PassesOwn.never rfl (pi_list (pv 3)) (pg_name (i := 4) sc_law_targets_hold.nd rfl (.inl rfl))
        (pss_one (ps_if (PW.pt (pw_or (pt_val (pe_callB call_isi (by rfl) T.z_isinstance (by decide +kernel) (pa_cons (pv 4) (pa_cons (pe_bltn (v := .ty "bool") (u := .type "bool") (by rfl) T.z_bool (by decide +kernel) rfl) pa_nil)))) (pw_or1 (pt_not (pt_val (pe_callB call_isi (by rfl) T.z_isinstance (by decide +kernel) (pa_cons (pv 4) (pa_cons (pe_bltn (v := .ty "int") (u := .type "int") (by rfl) T.z_int (by decide +kernel) rfl) pa_nil))))))))
        (pss_one (ps_ret pe_bl))
        pss_nil)))
        (pss_one (ps_expr (pe_bm PySem.F.plainAttrs_list PySem.F.slot_list_append PySem.F.type_list_append mt_append (pv 3) (pa_cons (pv 2) pa_nil))))))))
        (pss_one (ps_ret pe_bl))))), ?_⟩
    obtain ⟨ks, hks, hkl⟩ := hg.kinds
    (repeat (first | refine ⟨_, rfl, ?_⟩ | refine ⟨_, _, rfl, rfl, ?_⟩ | refine ⟨rfl, ?_⟩ | refine .inl ⟨_, rfl, ?_⟩ | refine .inr ⟨_, rfl, ?_⟩ | refine ⟨.inr ⟨by decide, by decide⟩, ?_⟩ | refine ⟨⟨by decide, by decide⟩, ?_⟩ | refine ⟨⟨by decide, by decide, by decide⟩, ?_⟩ | refine ⟨.inr ⟨by omega, by omega⟩, ?_⟩ | refine ⟨(by show (0 : Int) < _; first | decide | omega), ?_⟩ | refine ⟨Nat.le_trans (Nat.le_of_ble_eq_true rfl : _ ≤ 50) (by decide), ?_⟩ | refine ⟨_, _, _, _, rfl, rfl, upd_same, rfl, ?_⟩ | refine ⟨_, _, _, _, rfl, rfl, SqL.of upd_same, rfl, ?_⟩ | refine ⟨_, _, _, _, rfl, rfl, SqT.of upd_same, rfl, ?_⟩ | refine ⟨_, _, rfl, .inl (SqL.of upd_same), ?_⟩ | refine ⟨_, _, rfl, .inr (SqT.of upd_same), ?_⟩ | (refine' ⟨_, _, _, _, rfl, rfl, _, _, _⟩; rotate_left 2; (focus (first | assumption | exact SqL.of (by assumption) | exact SqT.of (by assumption) | exact Same.seq (by assumption) (by assumption))); (focus (exact rfl))) | (refine' ⟨_, _, rfl, _, _⟩; rotate_left 1; (focus (first | exact .inl (by assumption) | exact .inl (SqL.of (by assumption)) | exact .inr (by assumption) | exact .inr (SqT.of (by assumption)))))))
    refine fun du hdu => ?_
    have o1 := o.add (u := .lst []) hdu
    refine ⟨fun σ H => ∃ du N, σ = [some (.ref r), some (.ref du), none, none, none] ∧ L <:+ N ∧ Wd P1 P2 H0 H p N ∧ (du, .lst ((tgt n js).map V.int)) ∈ N, ?_, ?_⟩
    · (repeat (first | refine ⟨_, rfl, ?_⟩ | refine ⟨_, _, rfl, rfl, ?_⟩ | refine ⟨rfl, ?_⟩ | refine .inl ⟨_, rfl, ?_⟩ | refine .inr ⟨_, rfl, ?_⟩ | refine ⟨.inr ⟨by decide, by decide⟩, ?_⟩ | refine ⟨⟨by decide, by decide⟩, ?_⟩ | refine ⟨⟨by decide, by decide, by decide⟩, ?_⟩ | refine ⟨.inr ⟨by omega, by omega⟩, ?_⟩ | refine ⟨(by show (0 : Int) < _; first | decide | omega), ?_⟩ | refine ⟨Nat.le_trans (Nat.le_of_ble_eq_true rfl : _ ≤ 50) (by decide), ?_⟩ | refine ⟨_, _, _, _, rfl, rfl, upd_same, rfl, ?_⟩ | refine ⟨_, _, _, _, rfl, rfl, SqL.of upd_same, rfl, ?_⟩ | refine ⟨_, _, _, _, rfl, rfl, SqT.of upd_same, rfl, ?_⟩ | refine ⟨_, _, rfl, .inl (SqL.of upd_same), ?_⟩ | refine ⟨_, _, rfl, .inr (SqT.of upd_same), ?_⟩ | (refine' ⟨_, _, _, _, rfl, rfl, _, _, _⟩; rotate_left 2; (focus (first | assumption | exact SqL.of (by assumption) | exact SqT.of (by assumption) | exact Same.seq (by assumption) (by assumption))); (focus (exact rfl))) | (refine' ⟨_, _, rfl, _, _⟩; rotate_left 1; (focus (first | exact .inl (by assumption) | exact .inl (SqL.of (by assumption)) | exact .inr (by assumption) | exact .inr (SqT.of (by assumption)))))))
      refine ⟨r, _, _, _, rfl, rfl, SqT.of (o1.mem (List.mem_cons_of_mem _ hg.1)), at0 _ _, ?_⟩
      (repeat (first | refine ⟨_, rfl, ?_⟩ | refine ⟨_, _, rfl, rfl, ?_⟩ | refine ⟨rfl, ?_⟩ | refine .inl ⟨_, rfl, ?_⟩ | refine .inr ⟨_, rfl, ?_⟩ | refine ⟨.inr ⟨by decide, by decide⟩, ?_⟩ | refine ⟨⟨by decide, by decide⟩, ?_⟩ | refine ⟨⟨by decide, by decide, by decide⟩, ?_⟩ | refine ⟨.inr ⟨by omega, by omega⟩, ?_⟩ | refine ⟨(by show (0 : Int) < _; first | decide | omega), ?_⟩ | refine ⟨Nat.le_trans (Nat.le_of_ble_eq_true rfl : _ ≤ 50) (by decide), ?_⟩ | refine ⟨_, _, _, _, rfl, rfl, upd_same, rfl, ?_⟩ | refine ⟨_, _, _, _, rfl, rfl, SqL.of upd_same, rfl, ?_⟩ | refine ⟨_, _, _, _, rfl, rfl, SqT.of upd_same, rfl, ?_⟩ | refine ⟨_, _, rfl, .inl (SqL.of upd_same), ?_⟩ | refine ⟨_, _, rfl, .inr (SqT.of upd_same), ?_⟩ | (refine' ⟨_, _, _, _, rfl, rfl, _, _, _⟩; rotate_left 2; (focus (first | assumption | exact SqL.of (by assumption) | exact SqT.of (by assumption) | exact Same.seq (by assumption) (by assumption))); (focus (exact rfl))) | (refine' ⟨_, _, rfl, _, _⟩; rotate_left 1; (focus (first | exact .inl (by assumption) | exact .inl (SqL.of (by assumption)) | exact .inr (by assumption) | exact .inr (SqT.of (by assumption)))))))
      refine fun p1 hp1 => ⟨p1, _, rfl, .inr (SqT.of upd_same), rfl, by decide +kernel, _, rfl, ?_⟩
      have o2 := o1.add (u := .tup [.str "jump", .str "below", .str "call"]) hp1
      have e0 : inV (.str n) [.str "jump", .str "below", .str "call"] = decide (n = "jump" ∨ n = "below" ∨ n = "call") := by
        have := List.all_eq_true.mp tgt_key n hg.2.1
        exact of_decide_eq_true this
      show (if (inV (.str n) [.str "jump", .str "below", .str "call"]) = true then _ else _)
      rw [e0]
      refine ite2 (fun e => ?_) (fun e => ?_)
      · have e' := of_decide_eq_true e
        have hf := forms_ok hks
        have g2 := (ends_ok _ hf).2 e'
        (repeat (first | refine ⟨_, rfl, ?_⟩ | refine ⟨_, _, rfl, rfl, ?_⟩ | refine ⟨rfl, ?_⟩ | refine .inl ⟨_, rfl, ?_⟩ | refine .inr ⟨_, rfl, ?_⟩ | refine ⟨.inr ⟨by decide, by decide⟩, ?_⟩ | refine ⟨⟨by decide, by decide⟩, ?_⟩ | refine ⟨⟨by decide, by decide, by decide⟩, ?_⟩ | refine ⟨.inr ⟨by omega, by omega⟩, ?_⟩ | refine ⟨(by show (0 : Int) < _; first | decide | omega), ?_⟩ | refine ⟨Nat.le_trans (Nat.le_of_ble_eq_true rfl : _ ≤ 50) (by decide), ?_⟩ | refine ⟨_, _, _, _, rfl, rfl, upd_same, rfl, ?_⟩ | refine ⟨_, _, _, _, rfl, rfl, SqL.of upd_same, rfl, ?_⟩ | refine ⟨_, _, _, _, rfl, rfl, SqT.of upd_same, rfl, ?_⟩ | refine ⟨_, _, rfl, .inl (SqL.of upd_same), ?_⟩ | refine ⟨_, _, rfl, .inr (SqT.of upd_same), ?_⟩ | (refine' ⟨_, _, _, _, rfl, rfl, _, _, _⟩; rotate_left 2; (focus (first | assumption | exact SqL.of (by assumption) | exact SqT.of (by assumption) | exact Same.seq (by assumption) (by assumption))); (focus (exact rfl))) | (refine' ⟨_, _, rfl, _, _⟩; rotate_left 1; (focus (first | exact .inl (by assumption) | exact .inl (SqL.of (by assumption)) | exact .inr (by assumption) | exact .inr (SqT.of (by assumption)))))))
        refine ⟨r, _, _, _, rfl, rfl, SqT.of (o2.mem (List.mem_cons_of_mem _ (List.mem_cons_of_mem _ hg.1))), at_last (n := n) (xs := js) (by rw [hkl]; exact g2), ?_⟩
        (repeat (first | refine ⟨_, rfl, ?_⟩ | refine ⟨_, _, rfl, rfl, ?_⟩ | refine ⟨rfl, ?_⟩ | refine .inl ⟨_, rfl, ?_⟩ | refine .inr ⟨_, rfl, ?_⟩ | refine ⟨.inr ⟨by decide, by decide⟩, ?_⟩ | refine ⟨⟨by decide, by decide⟩, ?_⟩ | refine ⟨⟨by decide, by decide, by decide⟩, ?_⟩ | refine ⟨.inr ⟨by omega, by omega⟩, ?_⟩ | refine ⟨(by show (0 : Int) < _; first | decide | omega), ?_⟩ | refine ⟨Nat.le_trans (Nat.le_of_ble_eq_true rfl : _ ≤ 50) (by decide), ?_⟩ | refine ⟨_, _, _, _, rfl, rfl, upd_same, rfl, ?_⟩ | refine ⟨_, _, _, _, rfl, rfl, SqL.of upd_same, rfl, ?_⟩ | refine ⟨_, _, _, _, rfl, rfl, SqT.of upd_same, rfl, ?_⟩ | refine ⟨_, _, rfl, .inl (SqL.of upd_same), ?_⟩ | refine ⟨_, _, rfl, .inr (SqT.of upd_same), ?_⟩ | (refine' ⟨_, _, _, _, rfl, rfl, _, _, _⟩; rotate_left 2; (focus (first | assumption | exact SqL.of (by assumption) | exact SqT.of (by assumption) | exact Same.seq (by assumption) (by assumption))); (focus (exact rfl))) | (refine' ⟨_, _, rfl, _, _⟩; rotate_left 1; (focus (first | exact .inl (by assumption) | exact .inl (SqL.of (by assumption)) | exact .inr (by assumption) | exact .inr (SqT.of (by assumption)))))))
        refine fun d2 hd2 => ?_
        have o3 := o2.add (u := .lst [.int (js.getLastD 0)]) hd2
        refine ⟨d2, _, rfl, (suf [_, _, _] L), o3, ?_⟩
        unfold tgt
        rw [if_pos e']
        exact List.mem_cons_self ..
      · have e' := fun z => e (decide_eq_true z)
        refine ⟨du, _, rfl, (suf [_, _] L), o2, ?_⟩
        unfold tgt
        rw [if_neg e']
        exact List.mem_cons_of_mem _ (List.mem_cons_self ..)
    · clear o o1 hdu
      rintro σ H ⟨du, N, rfl, sf, o, hdu⟩
      refine ⟨2, rfl, by decide, by decide, for_range (lo := 0) (n := 2) (fun i σ H' => ∃ v2 v3 v4 N', σ = [some (.ref r), some (.ref du), v2, v3, v4] ∧ N <:+ N' ∧ Wd P1 P2 H0 H' p N') ⟨none, none, none, N, rfl, suf [] N, o⟩ ?_ ?_⟩
      · rintro i σ H' hi ⟨v2, v3, v4, N', rfl, s1, o1⟩
        have hg1 : Gd N' r n ls js := hg.mono fun q hq => s1.subset (sf.subset hq)
        have hdu1 := s1.subset hdu
        have hts : (tgt n js).length ≤ 1 := by unfold tgt; split <;> simp
        (repeat (first | refine ⟨_, rfl, ?_⟩ | refine ⟨_, _, rfl, rfl, ?_⟩ | refine ⟨rfl, ?_⟩ | refine .inl ⟨_, rfl, ?_⟩ | refine .inr ⟨_, rfl, ?_⟩ | refine ⟨.inr ⟨by decide, by decide⟩, ?_⟩ | refine ⟨⟨by decide, by decide⟩, ?_⟩ | refine ⟨⟨by decide, by decide, by decide⟩, ?_⟩ | refine ⟨.inr ⟨by omega, by omega⟩, ?_⟩ | refine ⟨(by show (0 : Int) < _; first | decide | omega), ?_⟩ | refine ⟨Nat.le_trans (Nat.le_of_ble_eq_true rfl : _ ≤ 50) (by decide), ?_⟩ | refine ⟨_, _, _, _, rfl, rfl, upd_same, rfl, ?_⟩ | refine ⟨_, _, _, _, rfl, rfl, SqL.of upd_same, rfl, ?_⟩ | refine ⟨_, _, _, _, rfl, rfl, SqT.of upd_same, rfl, ?_⟩ | refine ⟨_, _, rfl, .inl (SqL.of upd_same), ?_⟩ | refine ⟨_, _, rfl, .inr (SqT.of upd_same), ?_⟩ | (refine' ⟨_, _, _, _, rfl, rfl, _, _, _⟩; rotate_left 2; (focus (first | assumption | exact SqL.of (by assumption) | exact SqT.of (by assumption) | exact Same.seq (by assumption) (by assumption))); (focus (exact rfl))) | (refine' ⟨_, _, rfl, _, _⟩; rotate_left 1; (focus (first | exact .inl (by assumption) | exact .inl (SqL.of (by assumption)) | exact .inr (by assumption) | exact .inr (SqT.of (by assumption)))))))
        refine ⟨r, n, ks, js, rfl, o1.mem hg1.1, hks, hkl, fun t ht => ?_⟩
        have o2 := o1.add (u := .lst ((tgt n js).map V.int)) ht
        (repeat (first | refine ⟨_, rfl, ?_⟩ | refine ⟨_, _, rfl, rfl, ?_⟩ | refine ⟨rfl, ?_⟩ | refine .inl ⟨_, rfl, ?_⟩ | refine .inr ⟨_, rfl, ?_⟩ | refine ⟨.inr ⟨by decide, by decide⟩, ?_⟩ | refine ⟨⟨by decide, by decide⟩, ?_⟩ | refine ⟨⟨by decide, by decide, by decide⟩, ?_⟩ | refine ⟨.inr ⟨by omega, by omega⟩, ?_⟩ | refine ⟨(by show (0 : Int) < _; first | decide | omega), ?_⟩ | refine ⟨Nat.le_trans (Nat.le_of_ble_eq_true rfl : _ ≤ 50) (by decide), ?_⟩ | refine ⟨_, _, _, _, rfl, rfl, upd_same, rfl, ?_⟩ | refine ⟨_, _, _, _, rfl, rfl, SqL.of upd_same, rfl, ?_⟩ | refine ⟨_, _, _, _, rfl, rfl, SqT.of upd_same, rfl, ?_⟩ | refine ⟨_, _, rfl, .inl (SqL.of upd_same), ?_⟩ | refine ⟨_, _, rfl, .inr (SqT.of upd_same), ?_⟩ | (refine' ⟨_, _, _, _, rfl, rfl, _, _, _⟩; rotate_left 2; (focus (first | assumption | exact SqL.of (by assumption) | exact SqT.of (by assumption) | exact Same.seq (by assumption) (by assumption))); (focus (exact rfl))) | (refine' ⟨_, _, rfl, _, _⟩; rotate_left 1; (focus (first | exact .inl (by assumption) | exact .inl (SqL.of (by assumption)) | exact .inr (by assumption) | exact .inr (SqT.of (by assumption)))))))
        refine ⟨_, _, _, _, true, rfl, .ty "list", .base (.lst upd_same), kit_ty (by decide +kernel), ?_⟩
        (repeat (first | refine ⟨_, rfl, ?_⟩ | refine ⟨_, _, rfl, rfl, ?_⟩ | refine ⟨rfl, ?_⟩ | refine .inl ⟨_, rfl, ?_⟩ | refine .inr ⟨_, rfl, ?_⟩ | refine ⟨.inr ⟨by decide, by decide⟩, ?_⟩ | refine ⟨⟨by decide, by decide⟩, ?_⟩ | refine ⟨⟨by decide, by decide, by decide⟩, ?_⟩ | refine ⟨.inr ⟨by omega, by omega⟩, ?_⟩ | refine ⟨(by show (0 : Int) < _; first | decide | omega), ?_⟩ | refine ⟨Nat.le_trans (Nat.le_of_ble_eq_true rfl : _ ≤ 50) (by decide), ?_⟩ | refine ⟨_, _, _, _, rfl, rfl, upd_same, rfl, ?_⟩ | refine ⟨_, _, _, _, rfl, rfl, SqL.of upd_same, rfl, ?_⟩ | refine ⟨_, _, _, _, rfl, rfl, SqT.of upd_same, rfl, ?_⟩ | refine ⟨_, _, rfl, .inl (SqL.of upd_same), ?_⟩ | refine ⟨_, _, rfl, .inr (SqT.of upd_same), ?_⟩ | (refine' ⟨_, _, _, _, rfl, rfl, _, _, _⟩; rotate_left 2; (focus (first | assumption | exact SqL.of (by assumption) | exact SqT.of (by assumption) | exact Same.seq (by assumption) (by assumption))); (focus (exact rfl))) | (refine' ⟨_, _, rfl, _, _⟩; rotate_left 1; (focus (first | exact .inl (by assumption) | exact .inl (SqL.of (by assumption)) | exact .inr (by assumption) | exact .inr (SqT.of (by assumption)))))))
        have dt : ∀ x, (x, HO.lst ((tgt n js).map V.int)) ∈ (t, HO.lst ((tgt n js).map V.int)) :: N' → PL 1 ((t, HO.lst ((tgt n js).map V.int)) :: N') (.ref x) (.list ((tgt n js).map PyData.int)) := fun x hx => .inr ⟨x, _, _, rfl, ints_paired _, .inr ⟨hx, rfl⟩⟩
        obtain ⟨a1, a2, a3⟩ := PL.dp (K := K) (fun q hq => o2.mem hq) 1 _ _ (dt t (List.mem_cons_self ..))
        obtain ⟨b1, b2, b3⟩ := PL.dp (K := K) (fun q hq => o2.mem hq) 1 _ _ (dt du (List.mem_cons_of_mem _ hdu1))
        refine same_ne a1 b1 a2 (by omega) ?_
        (repeat (first | refine ⟨_, rfl, ?_⟩ | refine ⟨_, _, rfl, rfl, ?_⟩ | refine ⟨rfl, ?_⟩ | refine .inl ⟨_, rfl, ?_⟩ | refine .inr ⟨_, rfl, ?_⟩ | refine ⟨.inr ⟨by decide, by decide⟩, ?_⟩ | refine ⟨⟨by decide, by decide⟩, ?_⟩ | refine ⟨⟨by decide, by decide, by decide⟩, ?_⟩ | refine ⟨.inr ⟨by omega, by omega⟩, ?_⟩ | refine ⟨(by show (0 : Int) < _; first | decide | omega), ?_⟩ | refine ⟨Nat.le_trans (Nat.le_of_ble_eq_true rfl : _ ≤ 50) (by decide), ?_⟩ | refine ⟨_, _, _, _, rfl, rfl, upd_same, rfl, ?_⟩ | refine ⟨_, _, _, _, rfl, rfl, SqL.of upd_same, rfl, ?_⟩ | refine ⟨_, _, _, _, rfl, rfl, SqT.of upd_same, rfl, ?_⟩ | refine ⟨_, _, rfl, .inl (SqL.of upd_same), ?_⟩ | refine ⟨_, _, rfl, .inr (SqT.of upd_same), ?_⟩ | (refine' ⟨_, _, _, _, rfl, rfl, _, _, _⟩; rotate_left 2; (focus (first | assumption | exact SqL.of (by assumption) | exact SqT.of (by assumption) | exact Same.seq (by assumption) (by assumption))); (focus (exact rfl))) | (refine' ⟨_, _, rfl, _, _⟩; rotate_left 1; (focus (first | exact .inl (by assumption) | exact .inl (SqL.of (by assumption)) | exact .inr (by assumption) | exact .inr (SqT.of (by assumption)))))))
        refine ⟨⟨_, SqL.of upd_same⟩, for_list (K := K) (a := t) (xs := (tgt n js).map V.int) (fun j σ H2 => ∃ v4, σ = [some (.ref r), some (.ref du), some (.int (0 + (i : Int))), some (.ref t), v4] ∧ H2 = upd H' t (.lst ((tgt n js).map V.int))) ⟨v4, rfl, rfl⟩ ?_ ?_ ?_⟩
        · rintro j σ H2 _ ⟨v4, rfl, rfl⟩
          exact SqL.of upd_same
        · rintro j x σ H2 hx ⟨v4, rfl, rfl⟩
          obtain ⟨z, rfl⟩ : ∃ z, x = .int z := by
            obtain ⟨z, _, rfl⟩ := List.mem_map.mp (List.mem_of_getElem? hx)
            exact ⟨z, rfl⟩
          (repeat (first | refine ⟨_, rfl, ?_⟩ | refine ⟨_, _, rfl, rfl, ?_⟩ | refine ⟨rfl, ?_⟩ | refine .inl ⟨_, rfl, ?_⟩ | refine .inr ⟨_, rfl, ?_⟩ | refine ⟨.inr ⟨by decide, by decide⟩, ?_⟩ | refine ⟨⟨by decide, by decide⟩, ?_⟩ | refine ⟨⟨by decide, by decide, by decide⟩, ?_⟩ | refine ⟨.inr ⟨by omega, by omega⟩, ?_⟩ | refine ⟨(by show (0 : Int) < _; first | decide | omega), ?_⟩ | refine ⟨Nat.le_trans (Nat.le_of_ble_eq_true rfl : _ ≤ 50) (by decide), ?_⟩ | refine ⟨_, _, _, _, rfl, rfl, upd_same, rfl, ?_⟩ | refine ⟨_, _, _, _, rfl, rfl, SqL.of upd_same, rfl, ?_⟩ | refine ⟨_, _, _, _, rfl, rfl, SqT.of upd_same, rfl, ?_⟩ | refine ⟨_, _, rfl, .inl (SqL.of upd_same), ?_⟩ | refine ⟨_, _, rfl, .inr (SqT.of upd_same), ?_⟩ | (refine' ⟨_, _, _, _, rfl, rfl, _, _, _⟩; rotate_left 2; (focus (first | assumption | exact SqL.of (by assumption) | exact SqT.of (by assumption) | exact Same.seq (by assumption) (by assumption))); (focus (exact rfl))) | (refine' ⟨_, _, rfl, _, _⟩; rotate_left 1; (focus (first | exact .inl (by assumption) | exact .inl (SqL.of (by assumption)) | exact .inr (by assumption) | exact .inr (SqT.of (by assumption)))))))
          refine ⟨_, _, _, _, false, rfl, .ty "bool", .base (.int _), kit_ty (by decide +kernel), ?_⟩
          (repeat (first | refine ⟨_, rfl, ?_⟩ | refine ⟨_, _, rfl, rfl, ?_⟩ | refine ⟨rfl, ?_⟩ | refine .inl ⟨_, rfl, ?_⟩ | refine .inr ⟨_, rfl, ?_⟩ | refine ⟨.inr ⟨by decide, by decide⟩, ?_⟩ | refine ⟨⟨by decide, by decide⟩, ?_⟩ | refine ⟨⟨by decide, by decide, by decide⟩, ?_⟩ | refine ⟨.inr ⟨by omega, by omega⟩, ?_⟩ | refine ⟨(by show (0 : Int) < _; first | decide | omega), ?_⟩ | refine ⟨Nat.le_trans (Nat.le_of_ble_eq_true rfl : _ ≤ 50) (by decide), ?_⟩ | refine ⟨_, _, _, _, rfl, rfl, upd_same, rfl, ?_⟩ | refine ⟨_, _, _, _, rfl, rfl, SqL.of upd_same, rfl, ?_⟩ | refine ⟨_, _, _, _, rfl, rfl, SqT.of upd_same, rfl, ?_⟩ | refine ⟨_, _, rfl, .inl (SqL.of upd_same), ?_⟩ | refine ⟨_, _, rfl, .inr (SqT.of upd_same), ?_⟩ | (refine' ⟨_, _, _, _, rfl, rfl, _, _, _⟩; rotate_left 2; (focus (first | assumption | exact SqL.of (by assumption) | exact SqT.of (by assumption) | exact Same.seq (by assumption) (by assumption))); (focus (exact rfl))) | (refine' ⟨_, _, rfl, _, _⟩; rotate_left 1; (focus (first | exact .inl (by assumption) | exact .inl (SqL.of (by assumption)) | exact .inr (by assumption) | exact .inr (SqT.of (by assumption)))))))
          refine ⟨_, _, _, _, true, rfl, .ty "int", .base (.int _), kit_ty (by decide +kernel), ?_⟩
          (repeat (first | refine ⟨_, rfl, ?_⟩ | refine ⟨_, _, rfl, rfl, ?_⟩ | refine ⟨rfl, ?_⟩ | refine .inl ⟨_, rfl, ?_⟩ | refine .inr ⟨_, rfl, ?_⟩ | refine ⟨.inr ⟨by decide, by decide⟩, ?_⟩ | refine ⟨⟨by decide, by decide⟩, ?_⟩ | refine ⟨⟨by decide, by decide, by decide⟩, ?_⟩ | refine ⟨.inr ⟨by omega, by omega⟩, ?_⟩ | refine ⟨(by show (0 : Int) < _; first | decide | omega), ?_⟩ | refine ⟨Nat.le_trans (Nat.le_of_ble_eq_true rfl : _ ≤ 50) (by decide), ?_⟩ | refine ⟨_, _, _, _, rfl, rfl, upd_same, rfl, ?_⟩ | refine ⟨_, _, _, _, rfl, rfl, SqL.of upd_same, rfl, ?_⟩ | refine ⟨_, _, _, _, rfl, rfl, SqT.of upd_same, rfl, ?_⟩ | refine ⟨_, _, rfl, .inl (SqL.of upd_same), ?_⟩ | refine ⟨_, _, rfl, .inr (SqT.of upd_same), ?_⟩ | (refine' ⟨_, _, _, _, rfl, rfl, _, _, _⟩; rotate_left 2; (focus (first | assumption | exact SqL.of (by assumption) | exact SqT.of (by assumption) | exact Same.seq (by assumption) (by assumption))); (focus (exact rfl))) | (refine' ⟨_, _, rfl, _, _⟩; rotate_left 1; (focus (first | exact .inl (by assumption) | exact .inl (SqL.of (by assumption)) | exact .inr (by assumption) | exact .inr (SqT.of (by assumption)))))))
          rfl
        · rintro σ H2 ⟨v4, rfl, rfl⟩
          (repeat (first | refine ⟨_, rfl, ?_⟩ | refine ⟨_, _, rfl, rfl, ?_⟩ | refine ⟨rfl, ?_⟩ | refine .inl ⟨_, rfl, ?_⟩ | refine .inr ⟨_, rfl, ?_⟩ | refine ⟨.inr ⟨by decide, by decide⟩, ?_⟩ | refine ⟨⟨by decide, by decide⟩, ?_⟩ | refine ⟨⟨by decide, by decide, by decide⟩, ?_⟩ | refine ⟨.inr ⟨by omega, by omega⟩, ?_⟩ | refine ⟨(by show (0 : Int) < _; first | decide | omega), ?_⟩ | refine ⟨Nat.le_trans (Nat.le_of_ble_eq_true rfl : _ ≤ 50) (by decide), ?_⟩ | refine ⟨_, _, _, _, rfl, rfl, upd_same, rfl, ?_⟩ | refine ⟨_, _, _, _, rfl, rfl, SqL.of upd_same, rfl, ?_⟩ | refine ⟨_, _, _, _, rfl, rfl, SqT.of upd_same, rfl, ?_⟩ | refine ⟨_, _, rfl, .inl (SqL.of upd_same), ?_⟩ | refine ⟨_, _, rfl, .inr (SqT.of upd_same), ?_⟩ | (refine' ⟨_, _, _, _, rfl, rfl, _, _, _⟩; rotate_left 2; (focus (first | assumption | exact SqL.of (by assumption) | exact SqT.of (by assumption) | exact Same.seq (by assumption) (by assumption))); (focus (exact rfl))) | (refine' ⟨_, _, rfl, _, _⟩; rotate_left 1; (focus (first | exact .inl (by assumption) | exact .inl (SqL.of (by assumption)) | exact .inr (by assumption) | exact .inr (SqT.of (by assumption)))))))
          refine ⟨.inl ⟨rfl, _, SqL.of upd_same⟩, ?_⟩
          (repeat (first | refine ⟨_, rfl, ?_⟩ | refine ⟨_, _, rfl, rfl, ?_⟩ | refine ⟨rfl, ?_⟩ | refine .inl ⟨_, rfl, ?_⟩ | refine .inr ⟨_, rfl, ?_⟩ | refine ⟨.inr ⟨by decide, by decide⟩, ?_⟩ | refine ⟨⟨by decide, by decide⟩, ?_⟩ | refine ⟨⟨by decide, by decide, by decide⟩, ?_⟩ | refine ⟨.inr ⟨by omega, by omega⟩, ?_⟩ | refine ⟨(by show (0 : Int) < _; first | decide | omega), ?_⟩ | refine ⟨Nat.le_trans (Nat.le_of_ble_eq_true rfl : _ ≤ 50) (by decide), ?_⟩ | refine ⟨_, _, _, _, rfl, rfl, upd_same, rfl, ?_⟩ | refine ⟨_, _, _, _, rfl, rfl, SqL.of upd_same, rfl, ?_⟩ | refine ⟨_, _, _, _, rfl, rfl, SqT.of upd_same, rfl, ?_⟩ | refine ⟨_, _, rfl, .inl (SqL.of upd_same), ?_⟩ | refine ⟨_, _, rfl, .inr (SqT.of upd_same), ?_⟩ | (refine' ⟨_, _, _, _, rfl, rfl, _, _, _⟩; rotate_left 2; (focus (first | assumption | exact SqL.of (by assumption) | exact SqT.of (by assumption) | exact Same.seq (by assumption) (by assumption))); (focus (exact rfl))) | (refine' ⟨_, _, rfl, _, _⟩; rotate_left 1; (focus (first | exact .inl (by assumption) | exact .inl (SqL.of (by assumption)) | exact .inr (by assumption) | exact .inr (SqT.of (by assumption)))))))
          refine ⟨t, _, _, rfl, rfl, upd_same, Nat.lt_of_le_of_lt (by rw [List.length_map]; exact hts) (by show 1 < sizeLine; decide), ?_⟩
          have o3 := o2.put (u' := .lst ((tgt n js).map V.int ++ [.int (0 + (i : Int))])) 0 rfl
          refine ⟨_, _, _, _, rfl, s1.trans (suf [_] N'), o3⟩
      · rintro σ H' ⟨v2, v3, v4, N', rfl, s1, o1⟩
        (repeat (first | refine ⟨_, rfl, ?_⟩ | refine ⟨_, _, rfl, rfl, ?_⟩ | refine ⟨rfl, ?_⟩ | refine .inl ⟨_, rfl, ?_⟩ | refine .inr ⟨_, rfl, ?_⟩ | refine ⟨.inr ⟨by decide, by decide⟩, ?_⟩ | refine ⟨⟨by decide, by decide⟩, ?_⟩ | refine ⟨⟨by decide, by decide, by decide⟩, ?_⟩ | refine ⟨.inr ⟨by omega, by omega⟩, ?_⟩ | refine ⟨(by show (0 : Int) < _; first | decide | omega), ?_⟩ | refine ⟨Nat.le_trans (Nat.le_of_ble_eq_true rfl : _ ≤ 50) (by decide), ?_⟩ | refine ⟨_, _, _, _, rfl, rfl, upd_same, rfl, ?_⟩ | refine ⟨_, _, _, _, rfl, rfl, SqL.of upd_same, rfl, ?_⟩ | refine ⟨_, _, _, _, rfl, rfl, SqT.of upd_same, rfl, ?_⟩ | refine ⟨_, _, rfl, .inl (SqL.of upd_same), ?_⟩ | refine ⟨_, _, rfl, .inr (SqT.of upd_same), ?_⟩ | (refine' ⟨_, _, _, _, rfl, rfl, _, _, _⟩; rotate_left 2; (focus (first | assumption | exact SqL.of (by assumption) | exact SqT.of (by assumption) | exact Same.seq (by assumption) (by assumption))); (focus (exact rfl))) | (refine' ⟨_, _, rfl, _, _⟩; rotate_left 1; (focus (first | exact .inl (by assumption) | exact .inl (SqL.of (by assumption)) | exact .inr (by assumption) | exact .inr (SqT.of (by assumption)))))))
        exact q N' H' (sf.trans s1) o1
end
end K26

set_option Elab.async false
set_option linter.all false
set_option maxRecDepth 100000
set_option maxHeartbeats 4000000
namespace K26
open PySem PySem.Spec PyProof.Rows L2 Lw GxR
theorem paired_set {α β : Type} {R : α → β → Prop} {x : α} {y : β} (r : R x y) : ∀ (n : Nat) {xs : List α} {ys : List β}, Paired R xs ys → Paired R (xs.set n x) (ys.set n y)
  | _, _, _, .nil => .nil
  | 0, _, _, .cons _ t => .cons r t
  | n + 1, _, _, .cons q t => .cons q (paired_set r n t)
theorem paired_rep {α β : Type} {R : α → β → Prop} {x : α} {y : β} (r : R x y) : ∀ n : Nat, Paired R (List.replicate n x) (List.replicate n y)
  | 0 => .nil
  | n + 1 => .cons r (paired_rep r n)
theorem flat_one {α : Type} (x : α) : ∀ n : Nat, (List.replicate n [x]).flatten = List.replicate n x
  | 0 => rfl
  | n + 1 => by rw [List.replicate_succ, List.flatten_cons, flat_one x n]; rfl
theorem last_of {R : V → PyData → Prop} {xs : List V} {ds : List PyData} (h : Paired R xs ds) (hn : xs ≠ []) : ∃ y e, atI xs (-1) = some y ∧ R y e := by
  have e1 := (List.dropLast_concat_getLast hn).symm
  have hl : 0 < xs.length := List.length_pos_iff.mpr hn
  obtain ⟨e, _, he⟩ := paired_get h (show xs[xs.length - 1]? = some (xs.getLast hn) by rw [← List.getLast?_eq_getElem?, List.getLast?_eq_getLast hn])
  refine ⟨xs.getLast hn, e, ?_, he⟩
  have := atI_last xs.dropLast (xs.getLast hn)
  rw [← e1] at this
  exact this
def spMkCode (K : PySem.W.Frag) (P1 P2 : Addr) : Sp := fun vs H Q _ => ∃ (H0 : Hp) (a p : Addr) (ns : List Int) (v : V) (d : PyData) (L : List (Addr × HO)), vs = [.ref a, .ref p, v] ∧ SqL K H0 a (ns.map V.int) ∧ ns.length ≤ 63 ∧ Wd P1 P2 H0 H p L ∧ PL 2 L v d ∧
  ∀ l xs ds N H', L <:+ N → Wd P1 P2 H0 H' p ((l, .lst xs) :: N) → Paired (PL 2 N) xs ds → xs.length ≤ 20001 → Q (.ref l) H'
def K1 (P1 P2 : Addr) (H0 : Hp) (a p : Addr) (v : V) (L : List (Addr × HO)) : L2.St → Hp → Prop := fun σ H => ∃ l xs ds N v4 v5, σ = [some (.ref a), some (.ref p), some v, some (.ref l), v4, v5, none] ∧ L <:+ N ∧ Wd P1 P2 H0 H p ((l, .lst xs) :: N) ∧ Paired (PL 2 N) xs ds ∧ xs.length ≤ 20001
section
variable {P : Program} {w : World} {K : PySem.W.Frag} {mg : Str → Option Value} {base : Heap} {P1 P2 : Addr}
theorem ok_mkcode (T : Tx w K mg) : FnOk P w K mg base CX0 4 T.a_law_code T.d_law_code ["script", "source", "changed"] (spMkCode K P1 P2) := by
  have G_law_source : FnOk P w K mg base CX0 1 T.a_law_source T.d_law_source ["script", "k"] (spSource K) := ok_source T
  have G_law_draw : FnOk P w K mg base CX0 1 T.a_law_draw T.d_law_draw ["source", "many"] spDraw := ok_draw T
  have G_law_good : FnOk P w K mg base CX0 3 T.a_law_good T.d_law_good ["source"] (spGood P1 P2) := ok_good T
  refine T.F_law_code.ok sc_law_code (fun vs H Q E h => ?_) (fun cdv A outer s H vs Q E hr h => ?_)
  · obtain ⟨H0, a, p, ns, v, d, L, rfl, _⟩ := h
    rfl
  · obtain ⟨H0, a, p, ns, v, d, L, rfl, hS, hlen, o, hv, q⟩ := h
    have hr_law_source : Room 1 _ := hr.mono (by decide)
    have hr_law_draw : Room 1 _ := hr.mono (by decide)
    have hr_law_good : Room 3 _ := hr
    refine ⟨_, (pss_cons (ps_setLc (i := 3) (own := [("k", 6)]) (g := gName 6) (by rfl) sc_law_code.nd rfl rfl (sw_true rfl rfl rfl (by decide +kernel)) (pi_range1 rfl T.z_range (pa_cons (pe_call G_law_draw hr_law_draw (by rfl) T.g_law_draw T.F_law_draw.kp T.b_law_draw .nil pass0 (pa_cons (pv 1) (pa_cons pe_int pa_nil))) pa_nil)) (blkOk_by (N := n_law_code) (sc := defScope s_law_code) (by decide +kernel)) (fun _ _ _ _ _ => pg_name (i := 6) sc_law_code.nd rfl (Or.inl rfl)) (fun _ _ _ _ _ => pts_nil) (fun _ _ _ _ _ => (pe_call G_law_good hr_law_good (by rfl) T.g_law_good T.F_law_good.kp T.b_law_good .nil pass0 (pa_cons (pe_call G_law_source hr_law_source (by rfl) T.g_law_source T.F_law_source.kp T.b_law_source .nil pass0 (pa_cons (pv 0) (pa_cons (pe_op op_add pe_int (pv 6)) pa_nil))) pa_nil))))
        (C8.pss_cut (ps_if (PW.pt (pw_and (pt_cmpR op_eq (pe_call G_law_draw hr_law_draw (by rfl) T.g_law_draw T.F_law_draw.kp T.b_law_draw .nil pass0 (pa_cons (pv 1) (pa_cons pe_int pa_nil))) pe_int (nomark _)) (pw_and1 (pt_cmpR op_gt (pe_callB call_len_seq (by rfl) T.z_len (by decide +kernel) (pa_cons (pv 3) pa_nil)) pe_int (nomark _)))))
        (pss_cons (ps_set (i := 4) sc_law_code.nd rfl (.inl rfl) (pe_call G_law_draw hr_law_draw (by rfl) T.g_law_draw T.F_law_draw.kp T.b_law_draw .nil pass0 (pa_cons (pv 1) (pa_cons (pe_callB call_len_seq (by rfl) T.z_len (by decide +kernel) (pa_cons (pv 3) pa_nil)) pa_nil))))
        (pss_one (ps_asg (pv 2) (pg_sub (pv 3) (pv 4) set_list))))
        pss_nil)
        (C8.pss_cut (ps_if (PW.pt (pw_and (pt_cmpR op_eq (pe_call G_law_draw hr_law_draw (by rfl) T.g_law_draw T.F_law_draw.kp T.b_law_draw .nil pass0 (pa_cons (pv 1) (pa_cons pe_int pa_nil))) pe_int (nomark _)) (pw_and1 (pt_cmpR op_gt (pe_callB call_len_seq (by rfl) T.z_len (by decide +kernel) (pa_cons (pv 3) pa_nil)) pe_int (nomark _)))))
        (pss_cons (ps_set (i := 5) sc_law_code.nd rfl (.inl rfl) (pe_op op_add pe_int (pe_call G_law_draw hr_law_draw (by rfl) T.g_law_draw T.F_law_draw.kp T.b_law_draw .nil pass0 (pa_cons (pv 1) (pa_cons pe_int pa_nil)))))
        (pss_one (ps_set (i := 3) sc_law_code.nd rfl (.inl rfl) (pe_op op_cat (pe_op op_rep (pe_lst (pa_cons (pe_ix ix_list (pv 3) pe_int (fun _ _ => rfl)) pa_nil)) (pe_op op_sub (pv 5) pe_int)) (pe_lst (pa_cons (pe_ix ix_list (pv 3) (pe_un un_neg pe_int) (fun _ _ => rfl)) pa_nil))))))
        pss_nil)
        (pss_one (ps_ret (pv 3)))))), ?_⟩
    refine ⟨_, rfl, ?_⟩
    dsimp only [tCons, tC, tNil]
    refine o.draw (by decide) (by decide) fun nn H1 n0 n1 o1 => ?_
    obtain ⟨x0, y0, hx0, w1⟩ := o1.lay
    refine ⟨nn, rfl, by omega, by omega, fun D hD => lc_range (lo := 0) (n := nn.toNat) (fun k H => ∃ M rs ds, Wt P1 P2 H0 H (((D, .lst rs) :: M) ++ (p, .lst [.int x0, .int y0]) :: L) ∧ Paired (PL 2 M) rs ds ∧ rs.length = k) ⟨[], [], [], w1.add hD, .nil, rfl⟩ ?_ ?_⟩
    · rintro k H6 hk ⟨M, rs, ds, w6, hp6, hl6⟩
      refine ⟨rfl, ?_⟩
      unfold tYes
      dsimp only
      rw [if_pos rfl]
      refine ⟨_, rfl, _, rfl, _, _, rfl, rfl, ?_⟩
      refine ⟨a, ns, _, rfl, w6.same.seq hS, hlen, by omega, fun p2 x2 y2 hp2 hx2 => ?_⟩
      dsimp only [tNil]
      refine ⟨H0, p2, _, rfl, w6.src hp2 hx2, fun r n ls js H7 hn hls hall o7 => ?_⟩
      have w7 := o7.drop
      have hg : Gd ((r, HO.tup (.str n :: js.map V.int)) :: M) r n ls js := ⟨List.mem_cons_self .., hn, hls, hall⟩
      refine ⟨rs, w7.mem (q := (D, .lst rs)) (List.mem_cons_of_mem _ (List.mem_cons_self ..)), Nat.lt_of_le_of_lt (show rs.length ≤ 7 by omega) (by show 7 < sizeLine; decide), (r, .tup (.str n :: js.map V.int)) :: M, rs ++ [.ref r], ds ++ [.tuple (.str n :: js.map PyData.int)], ?_, ?_, by rw [List.length_append, hl6]; rfl⟩
      · have w8 := w7.put (u' := .lst (rs ++ [.ref r])) 1 rfl
        exact w8.perm (.swap _ _ _)
      · refine paired_app (Paired.imp (PL.mono (fun q hq => List.mem_cons_of_mem _ hq) 2) hp6) (.cons (.inr ⟨r, _, _, rfl, hg.pr, .inl ⟨hg.1, rfl⟩⟩) .nil)
    · rintro H6 ⟨M, rs, ds, w6, hp6, hl6⟩
      have o6 : Wd P1 P2 H0 H6 p (((D, .lst rs) :: M) ++ L) := w6.take hx0
      have hc6 : Paired (PL 2 (M ++ L)) rs ds := Paired.imp (PL.mono (fun q hq => List.mem_append_left _ hq) 2) hp6
      have hl6 : rs.length ≤ 20001 := by omega
      have o6 : Wd P1 P2 H0 H6 p ((D, .lst rs) :: (M ++ L)) := o6
      generalize hN : M ++ L = N at o6 hc6
      have sf : L <:+ N := by rw [← hN]; exact suf _ L
      clear hN w6 w1 o1 o
      refine ⟨K1 P1 P2 H0 a p v L, ?_, ?_⟩
      · (repeat (first | refine ⟨_, rfl, ?_⟩ | refine ⟨_, _, rfl, rfl, ?_⟩ | refine ⟨rfl, ?_⟩ | refine .inl ⟨_, rfl, ?_⟩ | refine .inr ⟨_, rfl, ?_⟩ | refine ⟨.inr ⟨by decide, by decide⟩, ?_⟩ | refine ⟨⟨by decide, by decide⟩, ?_⟩ | refine ⟨⟨by decide, by decide, by decide⟩, ?_⟩ | refine ⟨.inr ⟨by omega, by omega⟩, ?_⟩ | refine ⟨(by show (0 : Int) < _; first | decide | omega), ?_⟩ | refine ⟨Nat.le_trans (Nat.le_of_ble_eq_true rfl : _ ≤ 50) (by decide), ?_⟩ | refine ⟨_, _, _, _, rfl, rfl, upd_same, rfl, ?_⟩ | refine ⟨_, _, _, _, rfl, rfl, SqL.of upd_same, rfl, ?_⟩ | refine ⟨_, _, _, _, rfl, rfl, SqT.of upd_same, rfl, ?_⟩ | refine ⟨_, _, rfl, .inl (SqL.of upd_same), ?_⟩ | refine ⟨_, _, rfl, .inr (SqT.of upd_same), ?_⟩ | (refine' ⟨_, _, _, _, rfl, rfl, _, _, _⟩; rotate_left 2; (focus (first | assumption | exact SqL.of (by assumption) | exact SqT.of (by assumption) | exact Same.seq (by assumption) (by assumption))); (focus (exact rfl))) | (refine' ⟨_, _, rfl, _, _⟩; rotate_left 1; (focus (first | exact .inl (by assumption) | exact .inl (SqL.of (by assumption)) | exact .inr (by assumption) | exact .inr (SqT.of (by assumption)))))))
        dsimp only [tCons, tC, tNil]
        refine o6.draw (by decide) (by decide) fun b H7 _ _ o7 => ?_
        (repeat (first | refine ⟨_, rfl, ?_⟩ | refine ⟨_, _, rfl, rfl, ?_⟩ | refine ⟨rfl, ?_⟩ | refine .inl ⟨_, rfl, ?_⟩ | refine .inr ⟨_, rfl, ?_⟩ | refine ⟨.inr ⟨by decide, by decide⟩, ?_⟩ | refine ⟨⟨by decide, by decide⟩, ?_⟩ | refine ⟨⟨by decide, by decide, by decide⟩, ?_⟩ | refine ⟨.inr ⟨by omega, by omega⟩, ?_⟩ | refine ⟨(by show (0 : Int) < _; first | decide | omega), ?_⟩ | refine ⟨Nat.le_trans (Nat.le_of_ble_eq_true rfl : _ ≤ 50) (by decide), ?_⟩ | refine ⟨_, _, _, _, rfl, rfl, upd_same, rfl, ?_⟩ | refine ⟨_, _, _, _, rfl, rfl, SqL.of upd_same, rfl, ?_⟩ | refine ⟨_, _, _, _, rfl, rfl, SqT.of upd_same, rfl, ?_⟩ | refine ⟨_, _, rfl, .inl (SqL.of upd_same), ?_⟩ | refine ⟨_, _, rfl, .inr (SqT.of upd_same), ?_⟩ | (refine' ⟨_, _, _, _, rfl, rfl, _, _, _⟩; rotate_left 2; (focus (first | assumption | exact SqL.of (by assumption) | exact SqT.of (by assumption) | exact Same.seq (by assumption) (by assumption))); (focus (exact rfl))) | (refine' ⟨_, _, rfl, _, _⟩; rotate_left 1; (focus (first | exact .inl (by assumption) | exact .inl (SqL.of (by assumption)) | exact .inr (by assumption) | exact .inr (SqT.of (by assumption)))))))
        refine ite2 (fun e => ?_) (fun e => ?_)
        · (repeat (first | refine ⟨_, rfl, ?_⟩ | refine ⟨_, _, rfl, rfl, ?_⟩ | refine ⟨rfl, ?_⟩ | refine .inl ⟨_, rfl, ?_⟩ | refine .inr ⟨_, rfl, ?_⟩ | refine ⟨.inr ⟨by decide, by decide⟩, ?_⟩ | refine ⟨⟨by decide, by decide⟩, ?_⟩ | refine ⟨⟨by decide, by decide, by decide⟩, ?_⟩ | refine ⟨.inr ⟨by omega, by omega⟩, ?_⟩ | refine ⟨(by show (0 : Int) < _; first | decide | omega), ?_⟩ | refine ⟨Nat.le_trans (Nat.le_of_ble_eq_true rfl : _ ≤ 50) (by decide), ?_⟩ | refine ⟨_, _, _, _, rfl, rfl, upd_same, rfl, ?_⟩ | refine ⟨_, _, _, _, rfl, rfl, SqL.of upd_same, rfl, ?_⟩ | refine ⟨_, _, _, _, rfl, rfl, SqT.of upd_same, rfl, ?_⟩ | refine ⟨_, _, rfl, .inl (SqL.of upd_same), ?_⟩ | refine ⟨_, _, rfl, .inr (SqT.of upd_same), ?_⟩ | (refine' ⟨_, _, _, _, rfl, rfl, _, _, _⟩; rotate_left 2; (focus (first | assumption | exact SqL.of (by assumption) | exact SqT.of (by assumption) | exact Same.seq (by assumption) (by assumption))); (focus (exact rfl))) | (refine' ⟨_, _, rfl, _, _⟩; rotate_left 1; (focus (first | exact .inl (by assumption) | exact .inl (SqL.of (by assumption)) | exact .inr (by assumption) | exact .inr (SqT.of (by assumption)))))))
          refine ⟨D, _, rfl, .inl (SqL.of (o7.mem (List.mem_cons_self ..))), ?_⟩
          (repeat (first | refine ⟨_, rfl, ?_⟩ | refine ⟨_, _, rfl, rfl, ?_⟩ | refine ⟨rfl, ?_⟩ | refine .inl ⟨_, rfl, ?_⟩ | refine .inr ⟨_, rfl, ?_⟩ | refine ⟨.inr ⟨by decide, by decide⟩, ?_⟩ | refine ⟨⟨by decide, by decide⟩, ?_⟩ | refine ⟨⟨by decide, by decide, by decide⟩, ?_⟩ | refine ⟨.inr ⟨by omega, by omega⟩, ?_⟩ | refine ⟨(by show (0 : Int) < _; first | decide | omega), ?_⟩ | refine ⟨Nat.le_trans (Nat.le_of_ble_eq_true rfl : _ ≤ 50) (by decide), ?_⟩ | refine ⟨_, _, _, _, rfl, rfl, upd_same, rfl, ?_⟩ | refine ⟨_, _, _, _, rfl, rfl, SqL.of upd_same, rfl, ?_⟩ | refine ⟨_, _, _, _, rfl, rfl, SqT.of upd_same, rfl, ?_⟩ | refine ⟨_, _, rfl, .inl (SqL.of upd_same), ?_⟩ | refine ⟨_, _, rfl, .inr (SqT.of upd_same), ?_⟩ | (refine' ⟨_, _, _, _, rfl, rfl, _, _, _⟩; rotate_left 2; (focus (first | assumption | exact SqL.of (by assumption) | exact SqT.of (by assumption) | exact Same.seq (by assumption) (by assumption))); (focus (exact rfl))) | (refine' ⟨_, _, rfl, _, _⟩; rotate_left 1; (focus (first | exact .inl (by assumption) | exact .inl (SqL.of (by assumption)) | exact .inr (by assumption) | exact .inr (SqT.of (by assumption)))))))
          refine ite2 (fun e2 => ?_) (fun e2 => ?_)
          · have e2 : (0 : Int) < (rs.length : Int) := of_decide_eq_true e2
            (repeat (first | refine ⟨_, rfl, ?_⟩ | refine ⟨_, _, rfl, rfl, ?_⟩ | refine ⟨rfl, ?_⟩ | refine .inl ⟨_, rfl, ?_⟩ | refine .inr ⟨_, rfl, ?_⟩ | refine ⟨.inr ⟨by decide, by decide⟩, ?_⟩ | refine ⟨⟨by decide, by decide⟩, ?_⟩ | refine ⟨⟨by decide, by decide, by decide⟩, ?_⟩ | refine ⟨.inr ⟨by omega, by omega⟩, ?_⟩ | refine ⟨(by show (0 : Int) < _; first | decide | omega), ?_⟩ | refine ⟨Nat.le_trans (Nat.le_of_ble_eq_true rfl : _ ≤ 50) (by decide), ?_⟩ | refine ⟨_, _, _, _, rfl, rfl, upd_same, rfl, ?_⟩ | refine ⟨_, _, _, _, rfl, rfl, SqL.of upd_same, rfl, ?_⟩ | refine ⟨_, _, _, _, rfl, rfl, SqT.of upd_same, rfl, ?_⟩ | refine ⟨_, _, rfl, .inl (SqL.of upd_same), ?_⟩ | refine ⟨_, _, rfl, .inr (SqT.of upd_same), ?_⟩ | (refine' ⟨_, _, _, _, rfl, rfl, _, _, _⟩; rotate_left 2; (focus (first | assumption | exact SqL.of (by assumption) | exact SqT.of (by assumption) | exact Same.seq (by assumption) (by assumption))); (focus (exact rfl))) | (refine' ⟨_, _, rfl, _, _⟩; rotate_left 1; (focus (first | exact .inl (by assumption) | exact .inl (SqL.of (by assumption)) | exact .inr (by assumption) | exact .inr (SqT.of (by assumption)))))))
            dsimp only [tCons, tC, tNil]
            refine ⟨D, _, rfl, .inl (SqL.of (o7.mem (List.mem_cons_self ..))), ?_⟩
            refine o7.draw e2 (by omega) fun at_ H9 a0 a1 o9 => ?_
            (repeat (first | refine ⟨_, rfl, ?_⟩ | refine ⟨_, _, rfl, rfl, ?_⟩ | refine ⟨rfl, ?_⟩ | refine .inl ⟨_, rfl, ?_⟩ | refine .inr ⟨_, rfl, ?_⟩ | refine ⟨.inr ⟨by decide, by decide⟩, ?_⟩ | refine ⟨⟨by decide, by decide⟩, ?_⟩ | refine ⟨⟨by decide, by decide, by decide⟩, ?_⟩ | refine ⟨.inr ⟨by omega, by omega⟩, ?_⟩ | refine ⟨(by show (0 : Int) < _; first | decide | omega), ?_⟩ | refine ⟨Nat.le_trans (Nat.le_of_ble_eq_true rfl : _ ≤ 50) (by decide), ?_⟩ | refine ⟨_, _, _, _, rfl, rfl, upd_same, rfl, ?_⟩ | refine ⟨_, _, _, _, rfl, rfl, SqL.of upd_same, rfl, ?_⟩ | refine ⟨_, _, _, _, rfl, rfl, SqT.of upd_same, rfl, ?_⟩ | refine ⟨_, _, rfl, .inl (SqL.of upd_same), ?_⟩ | refine ⟨_, _, rfl, .inr (SqT.of upd_same), ?_⟩ | (refine' ⟨_, _, _, _, rfl, rfl, _, _, _⟩; rotate_left 2; (focus (first | assumption | exact SqL.of (by assumption) | exact SqT.of (by assumption) | exact Same.seq (by assumption) (by assumption))); (focus (exact rfl))) | (refine' ⟨_, _, rfl, _, _⟩; rotate_left 1; (focus (first | exact .inl (by assumption) | exact .inl (SqL.of (by assumption)) | exact .inr (by assumption) | exact .inr (SqT.of (by assumption)))))))
            obtain ⟨j, rfl⟩ := Int.eq_ofNat_of_zero_le a0
            have hj : j < rs.length := by omega
            refine ⟨D, _, _, _, rfl, rfl, o9.mem (List.mem_cons_self ..), ixN_of (by omega) a1, ?_⟩
            have o10 := o9.put (u' := .lst (rs.set (j : Int).toNat v)) 0 rfl
            exact ⟨D, _, _, N, _, none, rfl, sf, o10, paired_set (PL.mono (fun q hq => sf.subset hq) 2 _ _ hv) _ hc6, by rw [List.length_set]; exact hl6⟩
          · exact ⟨D, rs, ds, N, none, none, rfl, sf, o7, hc6, hl6⟩
        · exact ⟨D, rs, ds, N, none, none, rfl, sf, o7, hc6, hl6⟩
      · clear o6 hc6 hl6 sf
        rintro σ H8 ⟨l, xs, ds, N, v4, v5, rfl, sf, o8, hc, hl⟩
        refine ⟨K1 P1 P2 H0 a p v L, ?_, ?_⟩
        · (repeat (first | refine ⟨_, rfl, ?_⟩ | refine ⟨_, _, rfl, rfl, ?_⟩ | refine ⟨rfl, ?_⟩ | refine .inl ⟨_, rfl, ?_⟩ | refine .inr ⟨_, rfl, ?_⟩ | refine ⟨.inr ⟨by decide, by decide⟩, ?_⟩ | refine ⟨⟨by decide, by decide⟩, ?_⟩ | refine ⟨⟨by decide, by decide, by decide⟩, ?_⟩ | refine ⟨.inr ⟨by omega, by omega⟩, ?_⟩ | refine ⟨(by show (0 : Int) < _; first | decide | omega), ?_⟩ | refine ⟨Nat.le_trans (Nat.le_of_ble_eq_true rfl : _ ≤ 50) (by decide), ?_⟩ | refine ⟨_, _, _, _, rfl, rfl, upd_same, rfl, ?_⟩ | refine ⟨_, _, _, _, rfl, rfl, SqL.of upd_same, rfl, ?_⟩ | refine ⟨_, _, _, _, rfl, rfl, SqT.of upd_same, rfl, ?_⟩ | refine ⟨_, _, rfl, .inl (SqL.of upd_same), ?_⟩ | refine ⟨_, _, rfl, .inr (SqT.of upd_same), ?_⟩ | (refine' ⟨_, _, _, _, rfl, rfl, _, _, _⟩; rotate_left 2; (focus (first | assumption | exact SqL.of (by assumption) | exact SqT.of (by assumption) | exact Same.seq (by assumption) (by assumption))); (focus (exact rfl))) | (refine' ⟨_, _, rfl, _, _⟩; rotate_left 1; (focus (first | exact .inl (by assumption) | exact .inl (SqL.of (by assumption)) | exact .inr (by assumption) | exact .inr (SqT.of (by assumption)))))))
          dsimp only [tCons, tC, tNil]
          refine o8.draw (by decide) (by decide) fun b H9 _ _ o9 => ?_
          (repeat (first | refine ⟨_, rfl, ?_⟩ | refine ⟨_, _, rfl, rfl, ?_⟩ | refine ⟨rfl, ?_⟩ | refine .inl ⟨_, rfl, ?_⟩ | refine .inr ⟨_, rfl, ?_⟩ | refine ⟨.inr ⟨by decide, by decide⟩, ?_⟩ | refine ⟨⟨by decide, by decide⟩, ?_⟩ | refine ⟨⟨by decide, by decide, by decide⟩, ?_⟩ | refine ⟨.inr ⟨by omega, by omega⟩, ?_⟩ | refine ⟨(by show (0 : Int) < _; first | decide | omega), ?_⟩ | refine ⟨Nat.le_trans (Nat.le_of_ble_eq_true rfl : _ ≤ 50) (by decide), ?_⟩ | refine ⟨_, _, _, _, rfl, rfl, upd_same, rfl, ?_⟩ | refine ⟨_, _, _, _, rfl, rfl, SqL.of upd_same, rfl, ?_⟩ | refine ⟨_, _, _, _, rfl, rfl, SqT.of upd_same, rfl, ?_⟩ | refine ⟨_, _, rfl, .inl (SqL.of upd_same), ?_⟩ | refine ⟨_, _, rfl, .inr (SqT.of upd_same), ?_⟩ | (refine' ⟨_, _, _, _, rfl, rfl, _, _, _⟩; rotate_left 2; (focus (first | assumption | exact SqL.of (by assumption) | exact SqT.of (by assumption) | exact Same.seq (by assumption) (by assumption))); (focus (exact rfl))) | (refine' ⟨_, _, rfl, _, _⟩; rotate_left 1; (focus (first | exact .inl (by assumption) | exact .inl (SqL.of (by assumption)) | exact .inr (by assumption) | exact .inr (SqT.of (by assumption)))))))
          refine ite2 (fun e => ?_) (fun e => ?_)
          · (repeat (first | refine ⟨_, rfl, ?_⟩ | refine ⟨_, _, rfl, rfl, ?_⟩ | refine ⟨rfl, ?_⟩ | refine .inl ⟨_, rfl, ?_⟩ | refine .inr ⟨_, rfl, ?_⟩ | refine ⟨.inr ⟨by decide, by decide⟩, ?_⟩ | refine ⟨⟨by decide, by decide⟩, ?_⟩ | refine ⟨⟨by decide, by decide, by decide⟩, ?_⟩ | refine ⟨.inr ⟨by omega, by omega⟩, ?_⟩ | refine ⟨(by show (0 : Int) < _; first | decide | omega), ?_⟩ | refine ⟨Nat.le_trans (Nat.le_of_ble_eq_true rfl : _ ≤ 50) (by decide), ?_⟩ | refine ⟨_, _, _, _, rfl, rfl, upd_same, rfl, ?_⟩ | refine ⟨_, _, _, _, rfl, rfl, SqL.of upd_same, rfl, ?_⟩ | refine ⟨_, _, _, _, rfl, rfl, SqT.of upd_same, rfl, ?_⟩ | refine ⟨_, _, rfl, .inl (SqL.of upd_same), ?_⟩ | refine ⟨_, _, rfl, .inr (SqT.of upd_same), ?_⟩ | (refine' ⟨_, _, _, _, rfl, rfl, _, _, _⟩; rotate_left 2; (focus (first | assumption | exact SqL.of (by assumption) | exact SqT.of (by assumption) | exact Same.seq (by assumption) (by assumption))); (focus (exact rfl))) | (refine' ⟨_, _, rfl, _, _⟩; rotate_left 1; (focus (first | exact .inl (by assumption) | exact .inl (SqL.of (by assumption)) | exact .inr (by assumption) | exact .inr (SqT.of (by assumption)))))))
            refine ⟨l, _, rfl, .inl (SqL.of (o9.mem (List.mem_cons_self ..))), ?_⟩
            (repeat (first | refine ⟨_, rfl, ?_⟩ | refine ⟨_, _, rfl, rfl, ?_⟩ | refine ⟨rfl, ?_⟩ | refine .inl ⟨_, rfl, ?_⟩ | refine .inr ⟨_, rfl, ?_⟩ | refine ⟨.inr ⟨by decide, by decide⟩, ?_⟩ | refine ⟨⟨by decide, by decide⟩, ?_⟩ | refine ⟨⟨by decide, by decide, by decide⟩, ?_⟩ | refine ⟨.inr ⟨by omega, by omega⟩, ?_⟩ | refine ⟨(by show (0 : Int) < _; first | decide | omega), ?_⟩ | refine ⟨Nat.le_trans (Nat.le_of_ble_eq_true rfl : _ ≤ 50) (by decide), ?_⟩ | refine ⟨_, _, _, _, rfl, rfl, upd_same, rfl, ?_⟩ | refine ⟨_, _, _, _, rfl, rfl, SqL.of upd_same, rfl, ?_⟩ | refine ⟨_, _, _, _, rfl, rfl, SqT.of upd_same, rfl, ?_⟩ | refine ⟨_, _, rfl, .inl (SqL.of upd_same), ?_⟩ | refine ⟨_, _, rfl, .inr (SqT.of upd_same), ?_⟩ | (refine' ⟨_, _, _, _, rfl, rfl, _, _, _⟩; rotate_left 2; (focus (first | assumption | exact SqL.of (by assumption) | exact SqT.of (by assumption) | exact Same.seq (by assumption) (by assumption))); (focus (exact rfl))) | (refine' ⟨_, _, rfl, _, _⟩; rotate_left 1; (focus (first | exact .inl (by assumption) | exact .inl (SqL.of (by assumption)) | exact .inr (by assumption) | exact .inr (SqT.of (by assumption)))))))
            refine ite2 (fun e2 => ?_) (fun e2 => ?_)
            · have e2 : (0 : Int) < (xs.length : Int) := of_decide_eq_true e2
              (repeat (first | refine ⟨_, rfl, ?_⟩ | refine ⟨_, _, rfl, rfl, ?_⟩ | refine ⟨rfl, ?_⟩ | refine .inl ⟨_, rfl, ?_⟩ | refine .inr ⟨_, rfl, ?_⟩ | refine ⟨.inr ⟨by decide, by decide⟩, ?_⟩ | refine ⟨⟨by decide, by decide⟩, ?_⟩ | refine ⟨⟨by decide, by decide, by decide⟩, ?_⟩ | refine ⟨.inr ⟨by omega, by omega⟩, ?_⟩ | refine ⟨(by show (0 : Int) < _; first | decide | omega), ?_⟩ | refine ⟨Nat.le_trans (Nat.le_of_ble_eq_true rfl : _ ≤ 50) (by decide), ?_⟩ | refine ⟨_, _, _, _, rfl, rfl, upd_same, rfl, ?_⟩ | refine ⟨_, _, _, _, rfl, rfl, SqL.of upd_same, rfl, ?_⟩ | refine ⟨_, _, _, _, rfl, rfl, SqT.of upd_same, rfl, ?_⟩ | refine ⟨_, _, rfl, .inl (SqL.of upd_same), ?_⟩ | refine ⟨_, _, rfl, .inr (SqT.of upd_same), ?_⟩ | (refine' ⟨_, _, _, _, rfl, rfl, _, _, _⟩; rotate_left 2; (focus (first | assumption | exact SqL.of (by assumption) | exact SqT.of (by assumption) | exact Same.seq (by assumption) (by assumption))); (focus (exact rfl))) | (refine' ⟨_, _, rfl, _, _⟩; rotate_left 1; (focus (first | exact .inl (by assumption) | exact .inl (SqL.of (by assumption)) | exact .inr (by assumption) | exact .inr (SqT.of (by assumption)))))))
              dsimp only [tCons, tC, tNil]
              refine o9.draw (by decide) (by decide) fun z H10 z0 z1 o10 => ?_
              cases hc with
              | nil => exact absurd e2 (by decide)
              | @cons x0 d0 xs ds h0 hp' =>
                have hall : Paired (PL 2 N) (x0 :: xs) (d0 :: ds) := .cons h0 hp'
                (repeat (first | refine ⟨_, rfl, ?_⟩ | refine ⟨_, _, rfl, rfl, ?_⟩ | refine ⟨rfl, ?_⟩ | refine .inl ⟨_, rfl, ?_⟩ | refine .inr ⟨_, rfl, ?_⟩ | refine ⟨.inr ⟨by decide, by decide⟩, ?_⟩ | refine ⟨⟨by decide, by decide⟩, ?_⟩ | refine ⟨⟨by decide, by decide, by decide⟩, ?_⟩ | refine ⟨.inr ⟨by omega, by omega⟩, ?_⟩ | refine ⟨(by show (0 : Int) < _; first | decide | omega), ?_⟩ | refine ⟨Nat.le_trans (Nat.le_of_ble_eq_true rfl : _ ≤ 50) (by decide), ?_⟩ | refine ⟨_, _, _, _, rfl, rfl, upd_same, rfl, ?_⟩ | refine ⟨_, _, _, _, rfl, rfl, SqL.of upd_same, rfl, ?_⟩ | refine ⟨_, _, _, _, rfl, rfl, SqT.of upd_same, rfl, ?_⟩ | refine ⟨_, _, rfl, .inl (SqL.of upd_same), ?_⟩ | refine ⟨_, _, rfl, .inr (SqT.of upd_same), ?_⟩ | (refine' ⟨_, _, _, _, rfl, rfl, _, _, _⟩; rotate_left 2; (focus (first | assumption | exact SqL.of (by assumption) | exact SqT.of (by assumption) | exact Same.seq (by assumption) (by assumption))); (focus (exact rfl))) | (refine' ⟨_, _, rfl, _, _⟩; rotate_left 1; (focus (first | exact .inl (by assumption) | exact .inl (SqL.of (by assumption)) | exact .inr (by assumption) | exact .inr (SqT.of (by assumption)))))))
                refine ⟨l, _, _, _, rfl, rfl, SqL.of (o10.mem (List.mem_cons_self ..)), at0 _ _, ?_⟩
                (repeat (first | refine ⟨_, rfl, ?_⟩ | refine ⟨_, _, rfl, rfl, ?_⟩ | refine ⟨rfl, ?_⟩ | refine .inl ⟨_, rfl, ?_⟩ | refine .inr ⟨_, rfl, ?_⟩ | refine ⟨.inr ⟨by decide, by decide⟩, ?_⟩ | refine ⟨⟨by decide, by decide⟩, ?_⟩ | refine ⟨⟨by decide, by decide, by decide⟩, ?_⟩ | refine ⟨.inr ⟨by omega, by omega⟩, ?_⟩ | refine ⟨(by show (0 : Int) < _; first | decide | omega), ?_⟩ | refine ⟨Nat.le_trans (Nat.le_of_ble_eq_true rfl : _ ≤ 50) (by decide), ?_⟩ | refine ⟨_, _, _, _, rfl, rfl, upd_same, rfl, ?_⟩ | refine ⟨_, _, _, _, rfl, rfl, SqL.of upd_same, rfl, ?_⟩ | refine ⟨_, _, _, _, rfl, rfl, SqT.of upd_same, rfl, ?_⟩ | refine ⟨_, _, rfl, .inl (SqL.of upd_same), ?_⟩ | refine ⟨_, _, rfl, .inr (SqT.of upd_same), ?_⟩ | (refine' ⟨_, _, _, _, rfl, rfl, _, _, _⟩; rotate_left 2; (focus (first | assumption | exact SqL.of (by assumption) | exact SqT.of (by assumption) | exact Same.seq (by assumption) (by assumption))); (focus (exact rfl))) | (refine' ⟨_, _, rfl, _, _⟩; rotate_left 1; (focus (first | exact .inl (by assumption) | exact .inl (SqL.of (by assumption)) | exact .inr (by assumption) | exact .inr (SqT.of (by assumption)))))))
                refine fun b1 hb1 => ?_
                have o11 := o10.add (u := .lst [x0]) hb1
                obtain ⟨y, e, hy, hye⟩ := last_of hall (by simp)
                (repeat (first | refine ⟨_, rfl, ?_⟩ | refine ⟨_, _, rfl, rfl, ?_⟩ | refine ⟨rfl, ?_⟩ | refine .inl ⟨_, rfl, ?_⟩ | refine .inr ⟨_, rfl, ?_⟩ | refine ⟨.inr ⟨by decide, by decide⟩, ?_⟩ | refine ⟨⟨by decide, by decide⟩, ?_⟩ | refine ⟨⟨by decide, by decide, by decide⟩, ?_⟩ | refine ⟨.inr ⟨by omega, by omega⟩, ?_⟩ | refine ⟨(by show (0 : Int) < _; first | decide | omega), ?_⟩ | refine ⟨Nat.le_trans (Nat.le_of_ble_eq_true rfl : _ ≤ 50) (by decide), ?_⟩ | refine ⟨_, _, _, _, rfl, rfl, upd_same, rfl, ?_⟩ | refine ⟨_, _, _, _, rfl, rfl, SqL.of upd_same, rfl, ?_⟩ | refine ⟨_, _, _, _, rfl, rfl, SqT.of upd_same, rfl, ?_⟩ | refine ⟨_, _, rfl, .inl (SqL.of upd_same), ?_⟩ | refine ⟨_, _, rfl, .inr (SqT.of upd_same), ?_⟩ | (refine' ⟨_, _, _, _, rfl, rfl, _, _, _⟩; rotate_left 2; (focus (first | assumption | exact SqL.of (by assumption) | exact SqT.of (by assumption) | exact Same.seq (by assumption) (by assumption))); (focus (exact rfl))) | (refine' ⟨_, _, rfl, _, _⟩; rotate_left 1; (focus (first | exact .inl (by assumption) | exact .inl (SqL.of (by assumption)) | exact .inr (by assumption) | exact .inr (SqT.of (by assumption)))))))
                refine ⟨b1, _, _, rfl, rfl, upd_same, by omega, by omega, ?_, fun b2 hb2 => ?_⟩
                · show 1 * _ ≤ _
                  rw [Nat.one_mul]
                  exact Nat.le_trans (show (19999 + z - 1).toNat ≤ 20001 by omega) (by show 20001 ≤ sizeLine; decide)
                rw [flat_one]
                have o12 := o11.add (u := .lst (List.replicate (19999 + z - 1).toNat x0)) hb2
                (repeat (first | refine ⟨_, rfl, ?_⟩ | refine ⟨_, _, rfl, rfl, ?_⟩ | refine ⟨rfl, ?_⟩ | refine .inl ⟨_, rfl, ?_⟩ | refine .inr ⟨_, rfl, ?_⟩ | refine ⟨.inr ⟨by decide, by decide⟩, ?_⟩ | refine ⟨⟨by decide, by decide⟩, ?_⟩ | refine ⟨⟨by decide, by decide, by decide⟩, ?_⟩ | refine ⟨.inr ⟨by omega, by omega⟩, ?_⟩ | refine ⟨(by show (0 : Int) < _; first | decide | omega), ?_⟩ | refine ⟨Nat.le_trans (Nat.le_of_ble_eq_true rfl : _ ≤ 50) (by decide), ?_⟩ | refine ⟨_, _, _, _, rfl, rfl, upd_same, rfl, ?_⟩ | refine ⟨_, _, _, _, rfl, rfl, SqL.of upd_same, rfl, ?_⟩ | refine ⟨_, _, _, _, rfl, rfl, SqT.of upd_same, rfl, ?_⟩ | refine ⟨_, _, rfl, .inl (SqL.of upd_same), ?_⟩ | refine ⟨_, _, rfl, .inr (SqT.of upd_same), ?_⟩ | (refine' ⟨_, _, _, _, rfl, rfl, _, _, _⟩; rotate_left 2; (focus (first | assumption | exact SqL.of (by assumption) | exact SqT.of (by assumption) | exact Same.seq (by assumption) (by assumption))); (focus (exact rfl))) | (refine' ⟨_, _, rfl, _, _⟩; rotate_left 1; (focus (first | exact .inl (by assumption) | exact .inl (SqL.of (by assumption)) | exact .inr (by assumption) | exact .inr (SqT.of (by assumption)))))))
                refine ⟨l, _, _, _, rfl, rfl, SqL.of (o12.mem (q := (l, .lst (x0 :: xs))) (by simp)), hy, ?_⟩
                (repeat (first | refine ⟨_, rfl, ?_⟩ | refine ⟨_, _, rfl, rfl, ?_⟩ | refine ⟨rfl, ?_⟩ | refine .inl ⟨_, rfl, ?_⟩ | refine .inr ⟨_, rfl, ?_⟩ | refine ⟨.inr ⟨by decide, by decide⟩, ?_⟩ | refine ⟨⟨by decide, by decide⟩, ?_⟩ | refine ⟨⟨by decide, by decide, by decide⟩, ?_⟩ | refine ⟨.inr ⟨by omega, by omega⟩, ?_⟩ | refine ⟨(by show (0 : Int) < _; first | decide | omega), ?_⟩ | refine ⟨Nat.le_trans (Nat.le_of_ble_eq_true rfl : _ ≤ 50) (by decide), ?_⟩ | refine ⟨_, _, _, _, rfl, rfl, upd_same, rfl, ?_⟩ | refine ⟨_, _, _, _, rfl, rfl, SqL.of upd_same, rfl, ?_⟩ | refine ⟨_, _, _, _, rfl, rfl, SqT.of upd_same, rfl, ?_⟩ | refine ⟨_, _, rfl, .inl (SqL.of upd_same), ?_⟩ | refine ⟨_, _, rfl, .inr (SqT.of upd_same), ?_⟩ | (refine' ⟨_, _, _, _, rfl, rfl, _, _, _⟩; rotate_left 2; (focus (first | assumption | exact SqL.of (by assumption) | exact SqT.of (by assumption) | exact Same.seq (by assumption) (by assumption))); (focus (exact rfl))) | (refine' ⟨_, _, rfl, _, _⟩; rotate_left 1; (focus (first | exact .inl (by assumption) | exact .inl (SqL.of (by assumption)) | exact .inr (by assumption) | exact .inr (SqT.of (by assumption)))))))
                refine fun b3 hb3 => ?_
                have o13 := o12.add (u := .lst [y]) hb3
                refine ⟨b2, b3, _, _, rfl, rfl, o13.mem (q := (b2, .lst (List.replicate (19999 + z - 1).toNat x0))) (List.mem_cons_of_mem _ (List.mem_cons_self ..)), upd_same, ?_, fun b4 hb4 => ?_⟩
                · rw [List.length_replicate]
                  exact Nat.le_trans (show (19999 + z - 1).toNat + 1 ≤ 20002 by omega) (by show 20002 ≤ sizeLine; decide)
                have o14 := o13.add (u := .lst (List.replicate (19999 + z - 1).toNat x0 ++ [y])) hb4
                refine ⟨b4, _, List.replicate (19999 + z - 1).toNat d0 ++ [e], _, _, _, rfl, sf.trans (suf [_, _, _, _] N), o14, paired_app (paired_rep (PL.mono (fun q hq => (suf [_, _, _, _] N).subset hq) 2 _ _ h0) _) (.cons (PL.mono (fun q hq => (suf [_, _, _, _] N).subset hq) 2 _ _ hye) .nil), ?_⟩
                rw [List.length_append, List.length_replicate]
                show _ + 1 ≤ _
                omega
            · exact ⟨l, xs, ds, N, v4, v5, rfl, sf, o9, hc, hl⟩
          · exact ⟨l, xs, ds, N, v4, v5, rfl, sf, o9, hc, hl⟩
        · clear o8 hc hl sf
          rintro σ H8 ⟨l, xs, ds, N, v4, v5, rfl, sf, o8, hc, hl⟩
          (repeat (first | refine ⟨_, rfl, ?_⟩ | refine ⟨_, _, rfl, rfl, ?_⟩ | refine ⟨rfl, ?_⟩ | refine .inl ⟨_, rfl, ?_⟩ | refine .inr ⟨_, rfl, ?_⟩ | refine ⟨.inr ⟨by decide, by decide⟩, ?_⟩ | refine ⟨⟨by decide, by decide⟩, ?_⟩ | refine ⟨⟨by decide, by decide, by decide⟩, ?_⟩ | refine ⟨.inr ⟨by omega, by omega⟩, ?_⟩ | refine ⟨(by show (0 : Int) < _; first | decide | omega), ?_⟩ | refine ⟨Nat.le_trans (Nat.le_of_ble_eq_true rfl : _ ≤ 50) (by decide), ?_⟩ | refine ⟨_, _, _, _, rfl, rfl, upd_same, rfl, ?_⟩ | refine ⟨_, _, _, _, rfl, rfl, SqL.of upd_same, rfl, ?_⟩ | refine ⟨_, _, _, _, rfl, rfl, SqT.of upd_same, rfl, ?_⟩ | refine ⟨_, _, rfl, .inl (SqL.of upd_same), ?_⟩ | refine ⟨_, _, rfl, .inr (SqT.of upd_same), ?_⟩ | (refine' ⟨_, _, _, _, rfl, rfl, _, _, _⟩; rotate_left 2; (focus (first | assumption | exact SqL.of (by assumption) | exact SqT.of (by assumption) | exact Same.seq (by assumption) (by assumption))); (focus (exact rfl))) | (refine' ⟨_, _, rfl, _, _⟩; rotate_left 1; (focus (first | exact .inl (by assumption) | exact .inl (SqL.of (by assumption)) | exact .inr (by assumption) | exact .inr (SqT.of (by assumption)))))))
          exact q l xs ds N H8 sf o8 hc hl
end
end K26

set_option Elab.async false
set_option linter.all false
set_option maxRecDepth 100000
set_option maxHeartbeats 4000000
namespace K26
open PySem PySem.Spec PyProof.Rows L2 Lw GxR
def spRow (P1 P2 : Addr) : Sp := fun vs H Q _ => ∃ (H0 : Hp) (p : Addr) (L : List (Addr × HO)), vs = [.ref p] ∧ Wd P1 P2 H0 H p L ∧ ∀ N H', L <:+ N → Wd P1 P2 H0 H' p N → Q (.bl true) H'
section
variable {P : Program} {w : World} {K : PySem.W.Frag} {mg : Str → Option Value} {base : Heap}
theorem ok_row (T : Tx w K mg) (B_is_instruction : LamX.TabB base mg T.cc_is_instruction T.P_is_instruction) {P2 : Addr} : FnOk P w K mg base CX0 5 T.a_law_row_holds T.d_law_row_holds ["source"] (spRow T.P_is_instruction P2) := by
  have G_law_draw : FnOk P w K mg base CX0 1 T.a_law_draw T.d_law_draw ["source", "many"] spDraw := ok_draw T
  have G_law_good : FnOk P w K mg base CX0 3 T.a_law_good T.d_law_good ["source"] (spGood T.P_is_instruction P2) := ok_good T
  have G_law_changed : FnOk P w K mg base CX0 4 T.a_law_changed T.d_law_changed ["source", "good"] (spChanged T.P_is_instruction P2) := ok_changed T
  have G_is_instruction : FnOk P w K mg base CX0 3 T.a_is_instruction T.d_is_instruction ["value"] (spIns T.P_is_instruction P2) := ok_ins T B_is_instruction
  have G_law_is_right : FnOk P w K mg base CX0 2 T.a_law_is_right T.d_law_is_right ["value"] (spRight K) := ok_right T
  have G_law_same_answer : FnOk P w K mg base CX0 1 T.a_law_same_answer T.d_law_same_answer ["actual", "due"] spSame := ok_same T
  have G_law_targets_hold : FnOk P w K mg base CX0 2 T.a_law_targets_hold T.d_law_targets_hold ["instruction"] (spTgH T.P_is_instruction P2) := ok_tgh T
  refine T.F_law_row_holds.ok sc_law_row_holds (fun vs H Q E h => ?_) (fun cdv A outer s H vs Q E hr h => ?_)
  · obtain ⟨H0, p, L, rfl, _⟩ := h
    rfl
  · obtain ⟨H0, p, L, rfl, o, q⟩ := h
    have hr_law_draw : Room 1 _ := hr.mono (by decide)
    have hr_law_good : Room 3 _ := hr.mono (by decide)
    have hr_law_changed : Room 4 _ := hr
    have hr_is_instruction : Room 3 _ := hr.mono (by decide)
    have hr_law_is_right : Room 2 _ := hr.mono (by decide)
    have hr_law_same_answer : Room 1 _ := hr.mono (by decide)
    have hr_law_targets_hold : Room 2 _ := hr.mono (by decide)
    refine ⟨_, (pss_cons (ps_set (i := 1) sc_law_row_holds.nd rfl (.inl rfl) (pe_call G_law_good hr_law_good (by rfl) T.g_law_good T.F_law_good.kp T.b_law_good .nil pass0 (pa_cons (pv 0) pa_nil)))
        (pss_cons (ps_set (i := 2) sc_law_row_holds.nd rfl (.inl rfl) (pe_call G_law_changed hr_law_changed (by rfl) T.g_law_changed T.F_law_changed.kp T.b_law_changed .nil pass0 (pa_cons (pv 0) (pa_cons (pv 1) pa_nil))))
        (pss_cons (ps_set (i := 3) sc_law_row_holds.nd rfl (.inl rfl) (pe_lst (pa_cons (pv 1) (pa_cons (pv 2) (pa_cons (pv 1) pa_nil)))))
        (C8.pss_cut (ps_if (pt_cmpR op_eq (pe_call G_law_draw hr_law_draw (by rfl) T.g_law_draw T.F_law_draw.kp T.b_law_draw .nil pass0 (pa_cons (pv 0) (pa_cons pe_int pa_nil))) pe_int (nomark _))
        (pss_one (ps_set (i := 3) sc_law_row_holds.nd rfl (.inl rfl) (pe_lst (pa_cons (pv 2) (pa_cons (pv 1) (pa_cons (pv 2) pa_nil))))))
        pss_nil)
        (pss_cons (ps_for PassesOwn.never rfl (pi_list (pv 3)) (pg_name (i := 4) sc_law_row_holds.nd rfl (.inl rfl))
        (pss_one (ps_if (pt_not (pt_val (pe_call G_law_same_answer hr_law_same_answer (by rfl) T.g_law_same_answer T.F_law_same_answer.kp T.b_law_same_answer .nil pass0 (pa_cons (pe_call G_is_instruction hr_is_instruction (by rfl) T.g_is_instruction T.F_is_instruction.kp T.b_is_instruction .nil pass0 (pa_cons (pv 4) pa_nil)) (pa_cons (pe_call G_law_is_right hr_law_is_right (by rfl) T.g_law_is_right T.F_law_is_right.kp T.b_law_is_right .nil pass0 (pa_cons (pv 4) pa_nil)) pa_nil)))))
        (pss_one (ps_ret pe_bl))
        pss_nil)))
        (pss_one (ps_ret (pe_call G_law_targets_hold hr_law_targets_hold (by rfl) T.g_law_targets_hold T.F_law_targets_hold.kp T.b_law_targets_hold .nil pass0 (pa_cons (pv 1) pa_nil))))))))), ?_⟩
    refine ⟨_, rfl, ?_⟩
    dsimp only [tCons, tC, tNil]
    refine ⟨H0, p, L, rfl, o, fun r n ls js H1 hn hls hall o1 => ?_⟩
    have hg : Gd ((r, HO.tup (.str n :: js.map V.int)) :: L) r n ls js := ⟨List.mem_cons_self .., hn, hls, hall⟩
    have hgd : PL 2 ((r, HO.tup (.str n :: js.map V.int)) :: L) (.ref r) (.tuple (.str n :: js.map PyData.int)) := .inr ⟨r, _, _, rfl, hg.pr, .inl ⟨hg.1, rfl⟩⟩
    refine ⟨_, rfl, _, rfl, ?_⟩
    dsimp only [tCons, tC, tNil]
    refine ⟨H0, p, r, _, n, ls, js, rfl, o1, hg, fun v d N H2 s2 o2 hv => ?_⟩
    have hgd2 := PL.mono (fun q hq => s2.subset hq) 2 _ _ hgd
    (repeat (first | refine ⟨_, rfl, ?_⟩ | refine ⟨_, _, rfl, rfl, ?_⟩ | refine ⟨rfl, ?_⟩ | refine .inl ⟨_, rfl, ?_⟩ | refine .inr ⟨_, rfl, ?_⟩ | refine ⟨.inr ⟨by decide, by decide⟩, ?_⟩ | refine ⟨⟨by decide, by decide⟩, ?_⟩ | refine ⟨⟨by decide, by decide, by decide⟩, ?_⟩ | refine ⟨.inr ⟨by omega, by omega⟩, ?_⟩ | refine ⟨(by show (0 : Int) < _; first | decide | omega), ?_⟩ | refine ⟨Nat.le_trans (Nat.le_of_ble_eq_true rfl : _ ≤ 50) (by decide), ?_⟩ | refine ⟨_, _, _, _, rfl, rfl, upd_same, rfl, ?_⟩ | refine ⟨_, _, _, _, rfl, rfl, SqL.of upd_same, rfl, ?_⟩ | refine ⟨_, _, _, _, rfl, rfl, SqT.of upd_same, rfl, ?_⟩ | refine ⟨_, _, rfl, .inl (SqL.of upd_same), ?_⟩ | refine ⟨_, _, rfl, .inr (SqT.of upd_same), ?_⟩ | (refine' ⟨_, _, _, _, rfl, rfl, _, _, _⟩; rotate_left 2; (focus (first | assumption | exact SqL.of (by assumption) | exact SqT.of (by assumption) | exact Same.seq (by assumption) (by assumption))); (focus (exact rfl))) | (refine' ⟨_, _, rfl, _, _⟩; rotate_left 1; (focus (first | exact .inl (by assumption) | exact .inl (SqL.of (by assumption)) | exact .inr (by assumption) | exact .inr (SqT.of (by assumption)))))))
    refine fun l hl => ?_
    have o3 := o2.add (u := .lst [.ref r, v, .ref r]) hl
    refine ⟨fun σ H => ∃ l x y z N', σ = [some (.ref p), some (.ref r), some v, some (.ref l), none] ∧ N <:+ N' ∧ Wd T.P_is_instruction P2 H0 H p ((l, .lst [x, y, z]) :: N') ∧ ∀ u, u = x ∨ u = y ∨ u = z → ∃ e, PL 2 N u e, ?_, ?_⟩
    · (repeat (first | refine ⟨_, rfl, ?_⟩ | refine ⟨_, _, rfl, rfl, ?_⟩ | refine ⟨rfl, ?_⟩ | refine .inl ⟨_, rfl, ?_⟩ | refine .inr ⟨_, rfl, ?_⟩ | refine ⟨.inr ⟨by decide, by decide⟩, ?_⟩ | refine ⟨⟨by decide, by decide⟩, ?_⟩ | refine ⟨⟨by decide, by decide, by decide⟩, ?_⟩ | refine ⟨.inr ⟨by omega, by omega⟩, ?_⟩ | refine ⟨(by show (0 : Int) < _; first | decide | omega), ?_⟩ | refine ⟨Nat.le_trans (Nat.le_of_ble_eq_true rfl : _ ≤ 50) (by decide), ?_⟩ | refine ⟨_, _, _, _, rfl, rfl, upd_same, rfl, ?_⟩ | refine ⟨_, _, _, _, rfl, rfl, SqL.of upd_same, rfl, ?_⟩ | refine ⟨_, _, _, _, rfl, rfl, SqT.of upd_same, rfl, ?_⟩ | refine ⟨_, _, rfl, .inl (SqL.of upd_same), ?_⟩ | refine ⟨_, _, rfl, .inr (SqT.of upd_same), ?_⟩ | (refine' ⟨_, _, _, _, rfl, rfl, _, _, _⟩; rotate_left 2; (focus (first | assumption | exact SqL.of (by assumption) | exact SqT.of (by assumption) | exact Same.seq (by assumption) (by assumption))); (focus (exact rfl))) | (refine' ⟨_, _, rfl, _, _⟩; rotate_left 1; (focus (first | exact .inl (by assumption) | exact .inl (SqL.of (by assumption)) | exact .inr (by assumption) | exact .inr (SqT.of (by assumption)))))))
      dsimp only [tCons, tC, tNil]
      refine o3.draw (by decide) (by decide) fun b H4 _ _ o4 => ?_
      (repeat (first | refine ⟨_, rfl, ?_⟩ | refine ⟨_, _, rfl, rfl, ?_⟩ | refine ⟨rfl, ?_⟩ | refine .inl ⟨_, rfl, ?_⟩ | refine .inr ⟨_, rfl, ?_⟩ | refine ⟨.inr ⟨by decide, by decide⟩, ?_⟩ | refine ⟨⟨by decide, by decide⟩, ?_⟩ | refine ⟨⟨by decide, by decide, by decide⟩, ?_⟩ | refine ⟨.inr ⟨by omega, by omega⟩, ?_⟩ | refine ⟨(by show (0 : Int) < _; first | decide | omega), ?_⟩ | refine ⟨Nat.le_trans (Nat.le_of_ble_eq_true rfl : _ ≤ 50) (by decide), ?_⟩ | refine ⟨_, _, _, _, rfl, rfl, upd_same, rfl, ?_⟩ | refine ⟨_, _, _, _, rfl, rfl, SqL.of upd_same, rfl, ?_⟩ | refine ⟨_, _, _, _, rfl, rfl, SqT.of upd_same, rfl, ?_⟩ | refine ⟨_, _, rfl, .inl (SqL.of upd_same), ?_⟩ | refine ⟨_, _, rfl, .inr (SqT.of upd_same), ?_⟩ | (refine' ⟨_, _, _, _, rfl, rfl, _, _, _⟩; rotate_left 2; (focus (first | assumption | exact SqL.of (by assumption) | exact SqT.of (by assumption) | exact Same.seq (by assumption) (by assumption))); (focus (exact rfl))) | (refine' ⟨_, _, rfl, _, _⟩; rotate_left 1; (focus (first | exact .inl (by assumption) | exact .inl (SqL.of (by assumption)) | exact .inr (by assumption) | exact .inr (SqT.of (by assumption)))))))
      refine ite2 (fun _ => ?_) (fun _ => ?_)
      · (repeat (first | refine ⟨_, rfl, ?_⟩ | refine ⟨_, _, rfl, rfl, ?_⟩ | refine ⟨rfl, ?_⟩ | refine .inl ⟨_, rfl, ?_⟩ | refine .inr ⟨_, rfl, ?_⟩ | refine ⟨.inr ⟨by decide, by decide⟩, ?_⟩ | refine ⟨⟨by decide, by decide⟩, ?_⟩ | refine ⟨⟨by decide, by decide, by decide⟩, ?_⟩ | refine ⟨.inr ⟨by omega, by omega⟩, ?_⟩ | refine ⟨(by show (0 : Int) < _; first | decide | omega), ?_⟩ | refine ⟨Nat.le_trans (Nat.le_of_ble_eq_true rfl : _ ≤ 50) (by decide), ?_⟩ | refine ⟨_, _, _, _, rfl, rfl, upd_same, rfl, ?_⟩ | refine ⟨_, _, _, _, rfl, rfl, SqL.of upd_same, rfl, ?_⟩ | refine ⟨_, _, _, _, rfl, rfl, SqT.of upd_same, rfl, ?_⟩ | refine ⟨_, _, rfl, .inl (SqL.of upd_same), ?_⟩ | refine ⟨_, _, rfl, .inr (SqT.of upd_same), ?_⟩ | (refine' ⟨_, _, _, _, rfl, rfl, _, _, _⟩; rotate_left 2; (focus (first | assumption | exact SqL.of (by assumption) | exact SqT.of (by assumption) | exact Same.seq (by assumption) (by assumption))); (focus (exact rfl))) | (refine' ⟨_, _, rfl, _, _⟩; rotate_left 1; (focus (first | exact .inl (by assumption) | exact .inl (SqL.of (by assumption)) | exact .inr (by assumption) | exact .inr (SqT.of (by assumption)))))))
        refine fun l2 hl2 => ?_
        have o5 := o4.add (u := .lst [v, .ref r, v]) hl2
        refine ⟨l2, v, .ref r, v, _, rfl, suf [_] N, o5, ?_⟩
        rintro u (rfl | rfl | rfl)
        · exact ⟨_, hv⟩
        · exact ⟨_, hgd2⟩
        · exact ⟨_, hv⟩
      · refine ⟨l, .ref r, v, .ref r, N, rfl, suf [] N, o4, ?_⟩
        rintro u (rfl | rfl | rfl)
        · exact ⟨_, hgd2⟩
        · exact ⟨_, hv⟩
        · exact ⟨_, hgd2⟩
    · clear o o1 o2 o3 hl
      rintro σ H ⟨l, x, y, z, N', rfl, s3, o, hu⟩
      refine ⟨_, rfl, l, rfl, ⟨_, SqL.of (o.mem (List.mem_cons_self ..))⟩, for_list (K := K) (a := l) (xs := [x, y, z]) (fun i σ H' => ∃ v4, σ = [some (.ref p), some (.ref r), some v, some (.ref l), v4] ∧ Wd T.P_is_instruction P2 H0 H' p ((l, .lst [x, y, z]) :: N')) ⟨none, rfl, o⟩ ?_ ?_ ?_⟩
      · rintro i σ H' _ ⟨v4, rfl, o1⟩
        exact SqL.of (o1.mem (List.mem_cons_self ..))
      · rintro i u σ H' hi ⟨v4, rfl, o1⟩
        obtain ⟨e, he⟩ : ∃ e, PL 2 N u e := hu u (by have := List.mem_of_getElem? hi; simpa using this)
        have he1 : PL 2 ((l, HO.lst [x, y, z]) :: N') u e := PL.mono (fun q hq => List.mem_cons_of_mem _ (s3.subset hq)) 2 _ _ he
        (repeat (first | refine ⟨_, rfl, ?_⟩ | refine ⟨_, _, rfl, rfl, ?_⟩ | refine ⟨rfl, ?_⟩ | refine .inl ⟨_, rfl, ?_⟩ | refine .inr ⟨_, rfl, ?_⟩ | refine ⟨.inr ⟨by decide, by decide⟩, ?_⟩ | refine ⟨⟨by decide, by decide⟩, ?_⟩ | refine ⟨⟨by decide, by decide, by decide⟩, ?_⟩ | refine ⟨.inr ⟨by omega, by omega⟩, ?_⟩ | refine ⟨(by show (0 : Int) < _; first | decide | omega), ?_⟩ | refine ⟨Nat.le_trans (Nat.le_of_ble_eq_true rfl : _ ≤ 50) (by decide), ?_⟩ | refine ⟨_, _, _, _, rfl, rfl, upd_same, rfl, ?_⟩ | refine ⟨_, _, _, _, rfl, rfl, SqL.of upd_same, rfl, ?_⟩ | refine ⟨_, _, _, _, rfl, rfl, SqT.of upd_same, rfl, ?_⟩ | refine ⟨_, _, rfl, .inl (SqL.of upd_same), ?_⟩ | refine ⟨_, _, rfl, .inr (SqT.of upd_same), ?_⟩ | (refine' ⟨_, _, _, _, rfl, rfl, _, _, _⟩; rotate_left 2; (focus (first | assumption | exact SqL.of (by assumption) | exact SqT.of (by assumption) | exact Same.seq (by assumption) (by assumption))); (focus (exact rfl))) | (refine' ⟨_, _, rfl, _, _⟩; rotate_left 1; (focus (first | exact .inl (by assumption) | exact .inl (SqL.of (by assumption)) | exact .inr (by assumption) | exact .inr (SqT.of (by assumption)))))))
        refine ⟨u, H0, p, _, e, rfl, o1, he1, fun H2 o2 => ?_⟩
        refine ⟨_, rfl, ?_⟩
        dsimp only [tCons, tC, tNil]
        have o2' := o2
        obtain ⟨x', y', t1, t2, _, _, _, ob⟩ := o2'
        refine ⟨u, H0, _, e, rfl, ob, PL.mono (fun q hq => List.mem_cons_of_mem _ (List.mem_cons_of_mem _ (List.mem_cons_of_mem _ hq))) 2 _ _ he1, fun H3 s3 => ?_⟩
        refine ⟨_, _, rfl, _, rfl, ?_⟩
        rw [beq_self_eq_true]
        exact ⟨_, rfl, o2.mono s3⟩
      · rintro σ H' ⟨v4, rfl, o1⟩
        refine ⟨_, rfl, ?_⟩
        dsimp only [tCons, tC, tNil]
        refine ⟨H0, p, r, _, n, ls, js, rfl, o1, hg.mono fun q hq => List.mem_cons_of_mem _ (s3.subset (s2.subset hq)), fun N3 H3 s4 o4 => ?_⟩
        exact q N3 H3 ((suf [_] L).trans (s2.trans (s3.trans ((suf [_] N').trans s4)))) o4
end
end K26

set_option Elab.async false
set_option linter.all false
set_option maxRecDepth 100000
set_option maxHeartbeats 4000000
namespace K26
open PySem PySem.Spec PyProof.Rows L2 Lw GxR
def spLaw (K : PySem.W.Frag) (Ps : List Addr) : Sp := fun vs H Q _ => ∃ (a : Addr) (ns : List Int), vs = [.ref a] ∧ SqL K H a (ns.map V.int) ∧ ns.length ≤ 63 ∧ Ps.Nodup ∧ (∀ r ∈ Ps, H r = some (.tbl #[])) ∧ ∀ H', Q (.bl true) H'
theorem triples0 : TriplesOk (#[] : Array Value).toList := by
  trivial
theorem all_take {ds : List PyData} {i : Nat} {d : PyData} (h : ds[i]? = some d) : (ds.take (i + 1)).all insD = ((ds.take i).all insD && insD d) := by
  rw [List.take_add_one, h, List.all_append]
  show ((ds.take i).all insD && (insD d && true)) = _
  rw [Bool.and_true]
section
variable {w : World} {K : PySem.W.Frag} {mg : Str → Option Value} {base : Heap}
theorem ok_law' {P : Program} (T : Tx w K mg) (B_is_instruction : LamX.TabB base mg T.cc_is_instruction T.P_is_instruction) (B_is_code : LamX.TabB base mg T.cc_is_code T.P_is_code) {f : Addr} {fd : FuncData} (F : Fun K "law" "law" s_law f fd) : FnOk P w K mg base CX0 6 f fd ["script"] (spLaw K [T.P_is_instruction, T.P_is_code]) := by
  have G_law_source : FnOk P w K mg base CX0 1 T.a_law_source T.d_law_source ["script", "k"] (spSource K) := ok_source T
  have G_law_good : FnOk P w K mg base CX0 3 T.a_law_good T.d_law_good ["source"] (spGood T.P_is_instruction T.P_is_code) := ok_good T
  have G_law_changed : FnOk P w K mg base CX0 4 T.a_law_changed T.d_law_changed ["source", "good"] (spChanged T.P_is_instruction T.P_is_code) := ok_changed T
  have G_law_code : FnOk P w K mg base CX0 4 T.a_law_code T.d_law_code ["script", "source", "changed"] (spMkCode K T.P_is_instruction T.P_is_code) := ok_mkcode T
  have G_law_is_right : FnOk P w K mg base CX0 2 T.a_law_is_right T.d_law_is_right ["value"] (spRight K) := ok_right T
  have G_law_same_answer : FnOk P w K mg base CX0 1 T.a_law_same_answer T.d_law_same_answer ["actual", "due"] spSame := ok_same T
  have G_is_code : FnOk P w K mg base CX0 5 T.a_is_code T.d_is_code ["value"] (spCode T.P_is_instruction T.P_is_code) := ok_code T B_is_instruction B_is_code
  have G_law_row_holds : FnOk P w K mg base CX0 5 T.a_law_row_holds T.d_law_row_holds ["source"] (spRow T.P_is_instruction T.P_is_code) := ok_row T B_is_instruction
  refine F.ok sc_law (fun vs H Q E h => ?_) (fun cdv A outer s HH vs Q E hr h => ?_)
  · obtain ⟨a, ns, rfl, _⟩ := h
    rfl
  · obtain ⟨a, ns, rfl, hS, hlen, hnd, hP, q⟩ := h
    have hr_law_source : Room 1 _ := hr.mono (by decide)
    have hr_law_good : Room 3 _ := hr.mono (by decide)
    have hr_law_changed : Room 4 _ := hr.mono (by decide)
    have hr_law_code : Room 4 _ := hr.mono (by decide)
    have hr_law_is_right : Room 2 _ := hr.mono (by decide)
    have hr_law_same_answer : Room 1 _ := hr.mono (by decide)
    have hr_is_code : Room 5 _ := hr
    have hr_law_row_holds : Room 5 _ := hr
    have hP1 := hP T.P_is_instruction (by simp)
    have hP2 := hP T.P_is_code (by simp)
    refine ⟨_, (pss_cons (ps_for PassesOwn.never rfl (pi_range1 rfl T.z_range (pa_cons pe_int pa_nil)) (pg_name (i := 1) sc_law.nd rfl (.inl rfl))
        (pss_one (ps_if (pt_not (pt_val (pe_call G_law_row_holds hr_law_row_holds (by rfl) T.g_law_row_holds T.F_law_row_holds.kp T.b_law_row_holds .nil pass0 (pa_cons (pe_call G_law_source hr_law_source (by rfl) T.g_law_source T.F_law_source.kp T.b_law_source .nil pass0 (pa_cons (pv 0) (pa_cons (pe_op op_add pe_int (pv 1)) pa_nil))) pa_nil))))
        (pss_one (ps_ret pe_bl))
        pss_nil)))
        (pss_cons (ps_set (i := 2) sc_law.nd rfl (.inl rfl) (pe_call G_law_source hr_law_source (by rfl) T.g_law_source T.F_law_source.kp T.b_law_source .nil pass0 (pa_cons (pv 0) (pa_cons pe_int pa_nil))))
        (pss_cons (ps_set (i := 3) sc_law.nd rfl (.inl rfl) (pe_call G_law_good hr_law_good (by rfl) T.g_law_good T.F_law_good.kp T.b_law_good .nil pass0 (pa_cons (pv 2) pa_nil)))
        (pss_cons (ps_set (i := 4) sc_law.nd rfl (.inl rfl) (pe_call G_law_changed hr_law_changed (by rfl) T.g_law_changed T.F_law_changed.kp T.b_law_changed .nil pass0 (pa_cons (pv 2) (pa_cons (pv 3) pa_nil))))
        (pss_cons (ps_set (i := 5) sc_law.nd rfl (.inl rfl) (pe_call G_law_code hr_law_code (by rfl) T.g_law_code T.F_law_code.kp T.b_law_code .nil pass0 (pa_cons (pv 0) (pa_cons (pe_call G_law_source hr_law_source (by rfl) T.g_law_source T.F_law_source.kp T.b_law_source .nil pass0 (pa_cons (pv 0) (pa_cons pe_int pa_nil))) (pa_cons (pv 4) pa_nil)))))
        (pss_cons (ps_setLc (i := 6) (own := [("row", 9)]) (g := gName 9) (by rfl) sc_law.nd rfl rfl (sw_true rfl rfl rfl (by decide +kernel)) (pi_list (pv 5)) (blkOk_by (N := n_law) (sc := defScope s_law) (by decide +kernel)) (fun _ _ _ _ _ => pg_name (i := 9) sc_law.nd rfl (Or.inl rfl)) (fun _ _ _ _ _ => pts_one (pt_not (pt_val (pe_call G_law_is_right hr_law_is_right (by rfl) T.g_law_is_right T.F_law_is_right.kp T.b_law_is_right .nil pass0 (pa_cons (pv 9) pa_nil))))) (fun _ _ _ _ _ => (pv 9)))
        (C8.pss_cut (ps_set (i := 7) sc_law.nd rfl (.inl rfl) (pe_and (pe_chain op_le op_le pe_int (pe_callB call_len_seq (by rfl) T.z_len (by decide +kernel) (pa_cons (pv 5) pa_nil)) pe_int) (pe_one (pe_cmpR op_eq (pe_callB call_len_seq (by rfl) T.z_len (by decide +kernel) (pa_cons (pv 6) pa_nil)) pe_int (nomark _)))))
        (pss_cons (ps_set (i := 8) sc_law.nd rfl (.inl rfl) (pe_callTy call_list_of (by rfl) T.z_list (by decide +kernel) (pa_cons (pv 5) pa_nil)))
        (pss_cons (ps_if (pt_not (pt_val (pe_call G_law_same_answer hr_law_same_answer (by rfl) T.g_law_same_answer T.F_law_same_answer.kp T.b_law_same_answer .nil pass0 (pa_cons (pe_call G_is_code hr_is_code (by rfl) T.g_is_code T.F_is_code.kp T.b_is_code .nil pass0 (pa_cons (pe_callTy call_tuple_of (by rfl) T.z_tuple (by decide +kernel) (pa_cons (pv 5) pa_nil)) pa_nil)) (pa_cons (pv 7) pa_nil)))))
        (pss_one (ps_ret pe_bl))
        pss_nil)
        (pss_cons (ps_if (PW.pt (pw_or (pt_not (pt_val (pe_call G_law_same_answer hr_law_same_answer (by rfl) T.g_law_same_answer T.F_law_same_answer.kp T.b_law_same_answer .nil pass0 (pa_cons (pe_call G_is_code hr_is_code (by rfl) T.g_is_code T.F_is_code.kp T.b_is_code .nil pass0 (pa_cons (pv 5) pa_nil)) (pa_cons pe_bl pa_nil))))) (pw_or1 (pt_cmpR (op_neD hr.units) (pv 5) (pv 8) (nomark _)))))
        (pss_one (ps_ret pe_bl))
        pss_nil)
        (pss_cons (ps_if (pt_not (pt_val (pe_call G_law_same_answer hr_law_same_answer (by rfl) T.g_law_same_answer T.F_law_same_answer.kp T.b_law_same_answer .nil pass0 (pa_cons (pe_call G_is_code hr_is_code (by rfl) T.g_is_code T.F_is_code.kp T.b_is_code .nil pass0 (pa_cons (pe_tup (pa_cons (pv 3) pa_nil)) pa_nil)) (pa_cons pe_bl pa_nil)))))
        (pss_one (ps_ret pe_bl))
        pss_nil)
        (pss_one (ps_ret (pe_or (pe_cmpR op_gt (pe_callB call_len_seq (by rfl) T.z_len (by decide +kernel) (pa_cons (pv 5) pa_nil)) pe_int (nomark _)) (pe_one (pe_call G_law_same_answer hr_law_same_answer (by rfl) T.g_law_same_answer T.F_law_same_answer.kp T.b_law_same_answer .nil pass0 (pa_cons (pe_call G_is_code hr_is_code (by rfl) T.g_is_code T.F_is_code.kp T.b_is_code .nil pass0 (pa_cons (pe_callTy call_tuple_of (by rfl) T.z_tuple (by decide +kernel) (pa_cons (pv 5) pa_nil)) pa_nil)) (pa_cons (pv 7) pa_nil)))))))))))))))))), ?_⟩
    generalize hH0 : (fun b => if b = T.P_is_instruction ∨ b = T.P_is_code then none else HH b) = H0
    have hne : T.P_is_instruction ≠ T.P_is_code := by
      intro e
      rw [e] at hnd
      simp at hnd
    have o0 : Wt T.P_is_instruction T.P_is_code H0 HH [] := by
      refine ⟨#[], #[], triples0, triples0, fun b u e => ?_, fun q hq => ?_, by simp [hne], fun q hq => ?_⟩
      · rw [← hH0] at e
        dsimp only at e
        split at e
        · cases e
        · exact e
      · simp only [List.mem_cons, List.not_mem_nil, or_false] at hq
        rcases hq with rfl | rfl
        · exact hP1
        · exact hP2
      · rw [← hH0]
        simp only [List.mem_cons, List.not_mem_nil, or_false] at hq
        rcases hq with rfl | rfl
        · exact if_pos (.inl rfl)
        · exact if_pos (.inr rfl)
    have hS0 : SqL K H0 a (ns.map V.int) := by
      have hh : ∀ o, HH a = some o → (∀ q, o ≠ .tbl q) → H0 a = some o := fun o e n => by
        have n1 : ¬ (a = T.P_is_instruction ∨ a = T.P_is_code) := fun z => by
          rcases z with z | z
          · rw [z, hP1] at e
            cases e
            exact n _ rfl
          · rw [z, hP2] at e
            cases e
            exact n _ rfl
        rw [← hH0]
        show (if a = T.P_is_instruction ∨ a = T.P_is_code then none else HH a) = some o
        rw [if_neg n1]
        exact e
      rcases hS with h | h
      · refine .inl ?_
        rcases h with h | ⟨o, h⟩
        · exact .inl (hh _ h fun q z => by cases z)
        · exact .inr ⟨o, hh _ h fun q z => by cases z⟩
      · exact .inr h
    refine ⟨20, rfl, by decide, by decide, for_range (lo := 0) (n := 20) (fun i σ H => ∃ v1, σ = [some (.ref a), v1, none, none, none, none, none, none, none, none] ∧ Wt T.P_is_instruction T.P_is_code H0 H []) ⟨none, rfl, o0⟩ ?_ ?_⟩
    · rintro i σ H hi ⟨v1, rfl, o⟩
      refine ⟨_, rfl, _, rfl, _, _, rfl, rfl, ?_⟩
      refine ⟨a, ns, _, rfl, o.same.seq hS0, hlen, by omega, fun p x y hp hx => ?_⟩
      dsimp only [tNil]
      refine ⟨H0, p, [], rfl, o.src hp hx, fun N H' _ o2 => ?_⟩
      refine ⟨_, rfl, _, rfl, ?_⟩
      obtain ⟨t1, t2, h1, h2, ob⟩ := o2.drop
      exact ⟨t1, t2, h1, h2, ob.sub (((List.nil_sublist _).cons_cons _).cons_cons _)⟩
    · rintro σ H ⟨v1, rfl, o⟩
      clear o0 hS hP1 hP2 hP
      refine ⟨_, rfl, ?_⟩
      dsimp only [tCons, tC, tNil]
      refine ⟨a, ns, _, rfl, o.same.seq hS0, hlen, by decide, fun p x y hp hx => ?_⟩
      have o1 := o.src (y := y) hp hx
      refine ⟨_, rfl, ?_⟩
      dsimp only [tCons, tC, tNil]
      refine ⟨H0, p, [], rfl, o1, fun r n ls js H1 hn hls hall o2 => ?_⟩
      have hg : Gd [(r, HO.tup (.str n :: js.map V.int))] r n ls js := ⟨List.mem_cons_self .., hn, hls, hall⟩
      refine ⟨_, rfl, _, rfl, ?_⟩
      dsimp only [tCons, tC, tNil]
      refine ⟨H0, p, r, _, n, ls, js, rfl, o2, hg, fun v dv N H2 s2 o3 hv => ?_⟩
      have hg1 : Gd N r n ls js := hg.mono fun q hq => s2.subset hq
      refine ⟨_, rfl, _, rfl, ?_⟩
      dsimp only [tCons, tC, tNil]
      refine ⟨a, ns, _, rfl, o3.same.seq hS0, hlen, by decide, fun p2 x2 y2 hp2 hx2 => ?_⟩
      obtain ⟨x3, y3, hx3, w3⟩ := o3.lay
      have o4 := w3.src (y := y2) hp2 hx2
      refine ⟨_, rfl, ?_⟩
      dsimp only [tCons, tC, tNil]
      refine ⟨H0, a, p2, ns, v, dv, _, rfl, hS0, hlen, o4, PL.mono (fun q hq => List.mem_cons_of_mem _ hq) 2 _ _ hv, fun l xs ds N2 H3 s3 o5 hpr hl => ?_⟩
      have hgN : Gd N2 r n ls js := hg1.mono fun q hq => s3.subset (List.mem_cons_of_mem _ hq)
      clear o4 w3 o3 o2 o1 hg hg1 hv
      have hxd : xs.length = ds.length := hpr.length
      refine ⟨_, rfl, l, rfl, ⟨_, SqL.of (o5.mem (List.mem_cons_self ..))⟩, fun D hD => lc_list (K := K) (a := l) (xs := xs) (fun i H' => ∃ acc, Wd T.P_is_instruction T.P_is_code H0 H' p2 ((D, .lst acc) :: (l, .lst xs) :: N2) ∧ decide ((acc.length : Int) = 0) = (ds.take i).all insD ∧ acc.length ≤ i) ⟨[], o5.add hD, by rw [List.take_zero]; rfl, Nat.le_refl _⟩ ?_ ?_ ?_⟩
      · rintro i H' _ ⟨acc, o6, _⟩
        exact SqL.of (o6.mem (q := (l, .lst xs)) (List.mem_cons_of_mem _ (List.mem_cons_self ..)))
      · rintro i u H' hu ⟨acc, o6, ha1, ha2⟩
        obtain ⟨e, he, hpu⟩ := paired_get hpr hu
        have hil : i < xs.length := (List.getElem?_eq_some_iff.mp hu).1
        refine ⟨rfl, ?_⟩
        refine ⟨_, rfl, ?_⟩
        dsimp only [tCons, tC, tNil]
        have o6' := o6
        obtain ⟨x', y', t1, t2, _, _, _, ob⟩ := o6'
        refine ⟨u, H0, _, e, rfl, ob, PL.mono (fun q hq => List.mem_cons_of_mem _ (List.mem_cons_of_mem _ (List.mem_cons_of_mem _ (List.mem_cons_of_mem _ (List.mem_cons_of_mem _ hq))))) 2 _ _ hpu, fun H4 s4 => ?_⟩
        have o7 := o6.mono s4
        refine ⟨_, rfl, ?_⟩
        cases hb : insD e with
        | true =>
          refine ⟨acc, o7, ?_, by omega⟩
          rw [all_take he, ← ha1, hb, Bool.and_true]
        | false =>
          refine ⟨_, rfl, acc, o7.mem (q := (D, .lst acc)) (List.mem_cons_self ..), Nat.lt_of_le_of_lt (show acc.length ≤ 20001 by omega) (by show 20001 < sizeLine; decide), acc ++ [u], o7.put 0 rfl, ?_, by rw [List.length_append]; exact Nat.succ_le_succ ha2⟩
          rw [all_take he, hb, Bool.and_false, List.length_append]
          exact decide_eq_false (by show ¬ (((acc.length + 1 : Nat) : Int) = 0); omega)
      · rintro H4 ⟨acc, o6, ha1, ha2⟩
        rw [List.take_of_length_le (by omega)] at ha1
        clear o5
        have o6l := o6.mem (q := (l, .lst xs)) (List.mem_cons_of_mem _ (List.mem_cons_self ..))
        have o6D := o6.mem (q := (D, .lst acc)) (List.mem_cons_self ..)
        have dueE : codeD (.tuple ds) = (decide (1 ≤ ds.length) && decide (ds.length ≤ 20000) && ds.all insD) := rfl
        refine ⟨fun σ H => ∃ v1, σ = [some (.ref a), v1, some (.ref p), some (.ref r), some v, some (.ref l), some (.ref D), some (.bl (codeD (.tuple ds))), none, none] ∧ Wd T.P_is_instruction T.P_is_code H0 H p2 ((D, .lst acc) :: (l, .lst xs) :: N2), ?_, ?_⟩
        · (repeat (first | refine ⟨_, rfl, ?_⟩ | refine ⟨_, _, rfl, rfl, ?_⟩ | refine ⟨rfl, ?_⟩ | refine .inl ⟨_, rfl, ?_⟩ | refine .inr ⟨_, rfl, ?_⟩ | refine ⟨.inr ⟨by decide, by decide⟩, ?_⟩ | refine ⟨⟨by decide, by decide⟩, ?_⟩ | refine ⟨⟨by decide, by decide, by decide⟩, ?_⟩ | refine ⟨.inr ⟨by omega, by omega⟩, ?_⟩ | refine ⟨(by show (0 : Int) < _; first | decide | omega), ?_⟩ | refine ⟨Nat.le_trans (Nat.le_of_ble_eq_true rfl : _ ≤ 50) (by decide), ?_⟩ | refine ⟨_, _, _, _, rfl, rfl, upd_same, rfl, ?_⟩ | refine ⟨_, _, _, _, rfl, rfl, SqL.of upd_same, rfl, ?_⟩ | refine ⟨_, _, _, _, rfl, rfl, SqT.of upd_same, rfl, ?_⟩ | refine ⟨_, _, rfl, .inl (SqL.of upd_same), ?_⟩ | refine ⟨_, _, rfl, .inr (SqT.of upd_same), ?_⟩ | (refine' ⟨_, _, _, _, rfl, rfl, _, _, _⟩; rotate_left 2; (focus (first | assumption | exact SqL.of (by assumption) | exact SqT.of (by assumption) | exact Same.seq (by assumption) (by assumption))); (focus (exact rfl))) | (refine' ⟨_, _, rfl, _, _⟩; rotate_left 1; (focus (first | exact .inl (by assumption) | exact .inl (SqL.of (by assumption)) | exact .inr (by assumption) | exact .inr (SqT.of (by assumption)))))))
          refine ite2 (fun e1 => ?_) (fun e1 => ?_)
          · have e1 : (1 : Int) ≤ (xs.length : Int) := of_decide_eq_true e1
            (repeat (first | refine ⟨_, rfl, ?_⟩ | refine ⟨_, _, rfl, rfl, ?_⟩ | refine ⟨rfl, ?_⟩ | refine .inl ⟨_, rfl, ?_⟩ | refine .inr ⟨_, rfl, ?_⟩ | refine ⟨.inr ⟨by decide, by decide⟩, ?_⟩ | refine ⟨⟨by decide, by decide⟩, ?_⟩ | refine ⟨⟨by decide, by decide, by decide⟩, ?_⟩ | refine ⟨.inr ⟨by omega, by omega⟩, ?_⟩ | refine ⟨(by show (0 : Int) < _; first | decide | omega), ?_⟩ | refine ⟨Nat.le_trans (Nat.le_of_ble_eq_true rfl : _ ≤ 50) (by decide), ?_⟩ | refine ⟨_, _, _, _, rfl, rfl, upd_same, rfl, ?_⟩ | refine ⟨_, _, _, _, rfl, rfl, SqL.of upd_same, rfl, ?_⟩ | refine ⟨_, _, _, _, rfl, rfl, SqT.of upd_same, rfl, ?_⟩ | refine ⟨_, _, rfl, .inl (SqL.of upd_same), ?_⟩ | refine ⟨_, _, rfl, .inr (SqT.of upd_same), ?_⟩ | (refine' ⟨_, _, _, _, rfl, rfl, _, _, _⟩; rotate_left 2; (focus (first | assumption | exact SqL.of (by assumption) | exact SqT.of (by assumption) | exact Same.seq (by assumption) (by assumption))); (focus (exact rfl))) | (refine' ⟨_, _, rfl, _, _⟩; rotate_left 1; (focus (first | exact .inl (by assumption) | exact .inl (SqL.of (by assumption)) | exact .inr (by assumption) | exact .inr (SqT.of (by assumption)))))))
            refine ite2 (fun e2 => ?_) (fun e2 => ?_)
            · have e2 : (xs.length : Int) ≤ 20000 := of_decide_eq_true e2
              have ev : codeD (.tuple ds) = decide ((acc.length : Int) = 0) := by
                rw [dueE, ← hxd, ← ha1, decide_eq_true (p := 1 ≤ xs.length) (by omega), decide_eq_true (p := xs.length ≤ 20000) (by omega), Bool.true_and, Bool.true_and]
              rw [ev]
              (repeat (first | refine ⟨_, rfl, ?_⟩ | refine ⟨_, _, rfl, rfl, ?_⟩ | refine ⟨rfl, ?_⟩ | refine .inl ⟨_, rfl, ?_⟩ | refine .inr ⟨_, rfl, ?_⟩ | refine ⟨.inr ⟨by decide, by decide⟩, ?_⟩ | refine ⟨⟨by decide, by decide⟩, ?_⟩ | refine ⟨⟨by decide, by decide, by decide⟩, ?_⟩ | refine ⟨.inr ⟨by omega, by omega⟩, ?_⟩ | refine ⟨(by show (0 : Int) < _; first | decide | omega), ?_⟩ | refine ⟨Nat.le_trans (Nat.le_of_ble_eq_true rfl : _ ≤ 50) (by decide), ?_⟩ | refine ⟨_, _, _, _, rfl, rfl, upd_same, rfl, ?_⟩ | refine ⟨_, _, _, _, rfl, rfl, SqL.of upd_same, rfl, ?_⟩ | refine ⟨_, _, _, _, rfl, rfl, SqT.of upd_same, rfl, ?_⟩ | refine ⟨_, _, rfl, .inl (SqL.of upd_same), ?_⟩ | refine ⟨_, _, rfl, .inr (SqT.of upd_same), ?_⟩ | (refine' ⟨_, _, _, _, rfl, rfl, _, _, _⟩; rotate_left 2; (focus (first | assumption | exact SqL.of (by assumption) | exact SqT.of (by assumption) | exact Same.seq (by assumption) (by assumption))); (focus (exact rfl))) | (refine' ⟨_, _, rfl, _, _⟩; rotate_left 1; (focus (first | exact .inl (by assumption) | exact .inl (SqL.of (by assumption)) | exact .inr (by assumption) | exact .inr (SqT.of (by assumption)))))))
              have ez : decide (V.int (acc.length : Int) = V.int 0) = decide ((acc.length : Int) = 0) := decide_eq_decide.mpr ⟨fun z => V.int.inj z, fun z => by rw [z]⟩
              refine ⟨v1, ?_, o6⟩
              rw [← ez]
              rfl
            · have e2 : ¬ (xs.length : Int) ≤ 20000 := fun z => e2 (decide_eq_true z)
              have ev : codeD (.tuple ds) = false := by
                rw [dueE, ← hxd, decide_eq_false (p := xs.length ≤ 20000) (by omega), Bool.and_false, Bool.false_and]
              rw [ev]
              (repeat (first | refine ⟨_, rfl, ?_⟩ | refine ⟨_, _, rfl, rfl, ?_⟩ | refine ⟨rfl, ?_⟩ | refine .inl ⟨_, rfl, ?_⟩ | refine .inr ⟨_, rfl, ?_⟩ | refine ⟨.inr ⟨by decide, by decide⟩, ?_⟩ | refine ⟨⟨by decide, by decide⟩, ?_⟩ | refine ⟨⟨by decide, by decide, by decide⟩, ?_⟩ | refine ⟨.inr ⟨by omega, by omega⟩, ?_⟩ | refine ⟨(by show (0 : Int) < _; first | decide | omega), ?_⟩ | refine ⟨Nat.le_trans (Nat.le_of_ble_eq_true rfl : _ ≤ 50) (by decide), ?_⟩ | refine ⟨_, _, _, _, rfl, rfl, upd_same, rfl, ?_⟩ | refine ⟨_, _, _, _, rfl, rfl, SqL.of upd_same, rfl, ?_⟩ | refine ⟨_, _, _, _, rfl, rfl, SqT.of upd_same, rfl, ?_⟩ | refine ⟨_, _, rfl, .inl (SqL.of upd_same), ?_⟩ | refine ⟨_, _, rfl, .inr (SqT.of upd_same), ?_⟩ | (refine' ⟨_, _, _, _, rfl, rfl, _, _, _⟩; rotate_left 2; (focus (first | assumption | exact SqL.of (by assumption) | exact SqT.of (by assumption) | exact Same.seq (by assumption) (by assumption))); (focus (exact rfl))) | (refine' ⟨_, _, rfl, _, _⟩; rotate_left 1; (focus (first | exact .inl (by assumption) | exact .inl (SqL.of (by assumption)) | exact .inr (by assumption) | exact .inr (SqT.of (by assumption)))))))
              exact o6
          · have e1 : ¬ (1 : Int) ≤ (xs.length : Int) := fun z => e1 (decide_eq_true z)
            have ev : codeD (.tuple ds) = false := by
              rw [dueE, ← hxd, decide_eq_false (p := 1 ≤ xs.length) (by omega), Bool.false_and, Bool.false_and]
            rw [ev]
            (repeat (first | refine ⟨_, rfl, ?_⟩ | refine ⟨_, _, rfl, rfl, ?_⟩ | refine ⟨rfl, ?_⟩ | refine .inl ⟨_, rfl, ?_⟩ | refine .inr ⟨_, rfl, ?_⟩ | refine ⟨.inr ⟨by decide, by decide⟩, ?_⟩ | refine ⟨⟨by decide, by decide⟩, ?_⟩ | refine ⟨⟨by decide, by decide, by decide⟩, ?_⟩ | refine ⟨.inr ⟨by omega, by omega⟩, ?_⟩ | refine ⟨(by show (0 : Int) < _; first | decide | omega), ?_⟩ | refine ⟨Nat.le_trans (Nat.le_of_ble_eq_true rfl : _ ≤ 50) (by decide), ?_⟩ | refine ⟨_, _, _, _, rfl, rfl, upd_same, rfl, ?_⟩ | refine ⟨_, _, _, _, rfl, rfl, SqL.of upd_same, rfl, ?_⟩ | refine ⟨_, _, _, _, rfl, rfl, SqT.of upd_same, rfl, ?_⟩ | refine ⟨_, _, rfl, .inl (SqL.of upd_same), ?_⟩ | refine ⟨_, _, rfl, .inr (SqT.of upd_same), ?_⟩ | (refine' ⟨_, _, _, _, rfl, rfl, _, _, _⟩; rotate_left 2; (focus (first | assumption | exact SqL.of (by assumption) | exact SqT.of (by assumption) | exact Same.seq (by assumption) (by assumption))); (focus (exact rfl))) | (refine' ⟨_, _, rfl, _, _⟩; rotate_left 1; (focus (first | exact .inl (by assumption) | exact .inl (SqL.of (by assumption)) | exact .inr (by assumption) | exact .inr (SqT.of (by assumption)))))))
            exact o6
        · clear o6 o6l o6D
          rintro σ H5 ⟨v1, rfl, o6⟩
          have hl6 := o6.mem (q := (l, .lst xs)) (List.mem_cons_of_mem _ (List.mem_cons_self ..))
          refine ⟨_, rfl, l, _, rfl, .inl (SqL.of hl6), fun kp hkp => ?_⟩
          have o7 := o6.add (u := .lst xs) hkp
          have sN : ∀ M : List (Addr × HO), N2 <:+ M ++ N2 := fun M => suf M N2
          have p3 : ∀ (M : List (Addr × HO)), Paired (PL 2 (M ++ N2)) xs ds := fun M => Paired.imp (PL.mono (fun q hq => (suf M N2).subset hq) 2) hpr
          (repeat (first | refine ⟨_, rfl, ?_⟩ | refine ⟨_, _, rfl, rfl, ?_⟩ | refine ⟨rfl, ?_⟩ | refine .inl ⟨_, rfl, ?_⟩ | refine .inr ⟨_, rfl, ?_⟩ | refine ⟨.inr ⟨by decide, by decide⟩, ?_⟩ | refine ⟨⟨by decide, by decide⟩, ?_⟩ | refine ⟨⟨by decide, by decide, by decide⟩, ?_⟩ | refine ⟨.inr ⟨by omega, by omega⟩, ?_⟩ | refine ⟨(by show (0 : Int) < _; first | decide | omega), ?_⟩ | refine ⟨Nat.le_trans (Nat.le_of_ble_eq_true rfl : _ ≤ 50) (by decide), ?_⟩ | refine ⟨_, _, _, _, rfl, rfl, upd_same, rfl, ?_⟩ | refine ⟨_, _, _, _, rfl, rfl, SqL.of upd_same, rfl, ?_⟩ | refine ⟨_, _, _, _, rfl, rfl, SqT.of upd_same, rfl, ?_⟩ | refine ⟨_, _, rfl, .inl (SqL.of upd_same), ?_⟩ | refine ⟨_, _, rfl, .inr (SqT.of upd_same), ?_⟩ | (refine' ⟨_, _, _, _, rfl, rfl, _, _, _⟩; rotate_left 2; (focus (first | assumption | exact SqL.of (by assumption) | exact SqT.of (by assumption) | exact Same.seq (by assumption) (by assumption))); (focus (exact rfl))) | (refine' ⟨_, _, rfl, _, _⟩; rotate_left 1; (focus (first | exact .inl (by assumption) | exact .inl (SqL.of (by assumption)) | exact .inr (by assumption) | exact .inr (SqT.of (by assumption)))))))
          refine ⟨l, _, rfl, .inl ⟨SqL.of (o7.mem (q := (l, .lst xs)) (by simp)), fun t ht => ?_⟩⟩
          have o8 : Wd T.P_is_instruction T.P_is_code H0 _ p2 ([(t, .tup xs), (kp, .lst xs), (D, .lst acc), (l, .lst xs)] ++ N2) := o7.add (u := .tup xs) ht
          dsimp only [tCons, tC, tNil]
          refine ⟨.ref t, H0, p2, _, .tuple ds, rfl, o8, .inr ⟨t, xs, ds, rfl, p3 _, .inl ⟨List.mem_cons_self .., rfl⟩⟩, fun H9 o9 => ?_⟩
          refine ⟨_, rfl, ?_⟩
          dsimp only [tCons, tC, tNil]
          refine ⟨_, _, rfl, ?_⟩
          rw [beq_self_eq_true]
          (repeat (first | refine ⟨_, rfl, ?_⟩ | refine ⟨_, _, rfl, rfl, ?_⟩ | refine ⟨rfl, ?_⟩ | refine .inl ⟨_, rfl, ?_⟩ | refine .inr ⟨_, rfl, ?_⟩ | refine ⟨.inr ⟨by decide, by decide⟩, ?_⟩ | refine ⟨⟨by decide, by decide⟩, ?_⟩ | refine ⟨⟨by decide, by decide, by decide⟩, ?_⟩ | refine ⟨.inr ⟨by omega, by omega⟩, ?_⟩ | refine ⟨(by show (0 : Int) < _; first | decide | omega), ?_⟩ | refine ⟨Nat.le_trans (Nat.le_of_ble_eq_true rfl : _ ≤ 50) (by decide), ?_⟩ | refine ⟨_, _, _, _, rfl, rfl, upd_same, rfl, ?_⟩ | refine ⟨_, _, _, _, rfl, rfl, SqL.of upd_same, rfl, ?_⟩ | refine ⟨_, _, _, _, rfl, rfl, SqT.of upd_same, rfl, ?_⟩ | refine ⟨_, _, rfl, .inl (SqL.of upd_same), ?_⟩ | refine ⟨_, _, rfl, .inr (SqT.of upd_same), ?_⟩ | (refine' ⟨_, _, _, _, rfl, rfl, _, _, _⟩; rotate_left 2; (focus (first | assumption | exact SqL.of (by assumption) | exact SqT.of (by assumption) | exact Same.seq (by assumption) (by assumption))); (focus (exact rfl))) | (refine' ⟨_, _, rfl, _, _⟩; rotate_left 1; (focus (first | exact .inl (by assumption) | exact .inl (SqL.of (by assumption)) | exact .inr (by assumption) | exact .inr (SqT.of (by assumption)))))))
          have lt8 : ∀ x, (x, HO.lst xs) ∈ [(t, HO.tup xs), (kp, .lst xs), (D, .lst acc), (l, .lst xs)] ++ N2 → PL 3 ([(t, HO.tup xs), (kp, .lst xs), (D, .lst acc), (l, .lst xs)] ++ N2) (.ref x) (.list ds) := fun x hx => .inr ⟨x, xs, ds, rfl, p3 _, .inr ⟨hx, rfl⟩⟩
          dsimp only [tCons, tC, tNil]
          refine ⟨.ref l, H0, p2, _, .list ds, rfl, o9, lt8 l (by simp), fun H10 o10 => ?_⟩
          refine ⟨false, false, rfl, ?_⟩
          (repeat (first | refine ⟨_, rfl, ?_⟩ | refine ⟨_, _, rfl, rfl, ?_⟩ | refine ⟨rfl, ?_⟩ | refine .inl ⟨_, rfl, ?_⟩ | refine .inr ⟨_, rfl, ?_⟩ | refine ⟨.inr ⟨by decide, by decide⟩, ?_⟩ | refine ⟨⟨by decide, by decide⟩, ?_⟩ | refine ⟨⟨by decide, by decide, by decide⟩, ?_⟩ | refine ⟨.inr ⟨by omega, by omega⟩, ?_⟩ | refine ⟨(by show (0 : Int) < _; first | decide | omega), ?_⟩ | refine ⟨Nat.le_trans (Nat.le_of_ble_eq_true rfl : _ ≤ 50) (by decide), ?_⟩ | refine ⟨_, _, _, _, rfl, rfl, upd_same, rfl, ?_⟩ | refine ⟨_, _, _, _, rfl, rfl, SqL.of upd_same, rfl, ?_⟩ | refine ⟨_, _, _, _, rfl, rfl, SqT.of upd_same, rfl, ?_⟩ | refine ⟨_, _, rfl, .inl (SqL.of upd_same), ?_⟩ | refine ⟨_, _, rfl, .inr (SqT.of upd_same), ?_⟩ | (refine' ⟨_, _, _, _, rfl, rfl, _, _, _⟩; rotate_left 2; (focus (first | assumption | exact SqL.of (by assumption) | exact SqT.of (by assumption) | exact Same.seq (by assumption) (by assumption))); (focus (exact rfl))) | (refine' ⟨_, _, rfl, _, _⟩; rotate_left 1; (focus (first | exact .inl (by assumption) | exact .inl (SqL.of (by assumption)) | exact .inr (by assumption) | exact .inr (SqT.of (by assumption)))))))
          obtain ⟨a1, a2, a3⟩ := PL.dp (K := K) (fun q hq => o10.mem hq) 3 _ _ (lt8 l (by simp))
          obtain ⟨b1, b2, b3⟩ := PL.dp (K := K) (fun q hq => o10.mem hq) 3 _ _ (lt8 kp (by simp))
          refine same_ne a1 b1 a2 (by omega) ?_
          (repeat (first | refine ⟨_, rfl, ?_⟩ | refine ⟨_, _, rfl, rfl, ?_⟩ | refine ⟨rfl, ?_⟩ | refine .inl ⟨_, rfl, ?_⟩ | refine .inr ⟨_, rfl, ?_⟩ | refine ⟨.inr ⟨by decide, by decide⟩, ?_⟩ | refine ⟨⟨by decide, by decide⟩, ?_⟩ | refine ⟨⟨by decide, by decide, by decide⟩, ?_⟩ | refine ⟨.inr ⟨by omega, by omega⟩, ?_⟩ | refine ⟨(by show (0 : Int) < _; first | decide | omega), ?_⟩ | refine ⟨Nat.le_trans (Nat.le_of_ble_eq_true rfl : _ ≤ 50) (by decide), ?_⟩ | refine ⟨_, _, _, _, rfl, rfl, upd_same, rfl, ?_⟩ | refine ⟨_, _, _, _, rfl, rfl, SqL.of upd_same, rfl, ?_⟩ | refine ⟨_, _, _, _, rfl, rfl, SqT.of upd_same, rfl, ?_⟩ | refine ⟨_, _, rfl, .inl (SqL.of upd_same), ?_⟩ | refine ⟨_, _, rfl, .inr (SqT.of upd_same), ?_⟩ | (refine' ⟨_, _, _, _, rfl, rfl, _, _, _⟩; rotate_left 2; (focus (first | assumption | exact SqL.of (by assumption) | exact SqT.of (by assumption) | exact Same.seq (by assumption) (by assumption))); (focus (exact rfl))) | (refine' ⟨_, _, rfl, _, _⟩; rotate_left 1; (focus (first | exact .inl (by assumption) | exact .inl (SqL.of (by assumption)) | exact .inr (by assumption) | exact .inr (SqT.of (by assumption)))))))
          refine fun g hgg => ?_
          have o11 : Wd T.P_is_instruction T.P_is_code H0 _ p2 ([(g, .tup [.ref r]), (t, .tup xs), (kp, .lst xs), (D, .lst acc), (l, .lst xs)] ++ N2) := o10.add (u := .tup [.ref r]) hgg
          dsimp only [tCons, tC, tNil]
          have hgr : Gd ([(g, HO.tup [.ref r]), (t, .tup xs), (kp, .lst xs), (D, .lst acc), (l, .lst xs)] ++ N2) r n ls js := hgN.mono fun q hq => (suf _ N2).subset hq
          refine ⟨.ref g, H0, p2, _, .tuple [.tuple (.str n :: js.map PyData.int)], rfl, o11, .inr ⟨g, [.ref r], _, rfl, .cons (.inr ⟨r, _, _, rfl, hgr.pr, .inl ⟨hgr.1, rfl⟩⟩) .nil, .inl ⟨List.mem_cons_self .., rfl⟩⟩, fun H12 o12 => ?_⟩
          have ev : codeD (.tuple [.tuple (.str n :: js.map PyData.int)]) = true := by
            have e1 : insD (.tuple (.str n :: js.map PyData.int)) = true := by
              show (match limsOf n with | some ls => allIn ls (js.map PyData.int) | none => false) = true
              rw [hls]
              exact hall
            show (decide (1 ≤ 1) && decide (1 ≤ 20000) && (insD (.tuple (.str n :: js.map PyData.int)) && true)) = true
            rw [e1]
            rfl
          rw [ev]
          refine ⟨true, true, rfl, ?_⟩
          (repeat (first | refine ⟨_, rfl, ?_⟩ | refine ⟨_, _, rfl, rfl, ?_⟩ | refine ⟨rfl, ?_⟩ | refine .inl ⟨_, rfl, ?_⟩ | refine .inr ⟨_, rfl, ?_⟩ | refine ⟨.inr ⟨by decide, by decide⟩, ?_⟩ | refine ⟨⟨by decide, by decide⟩, ?_⟩ | refine ⟨⟨by decide, by decide, by decide⟩, ?_⟩ | refine ⟨.inr ⟨by omega, by omega⟩, ?_⟩ | refine ⟨(by show (0 : Int) < _; first | decide | omega), ?_⟩ | refine ⟨Nat.le_trans (Nat.le_of_ble_eq_true rfl : _ ≤ 50) (by decide), ?_⟩ | refine ⟨_, _, _, _, rfl, rfl, upd_same, rfl, ?_⟩ | refine ⟨_, _, _, _, rfl, rfl, SqL.of upd_same, rfl, ?_⟩ | refine ⟨_, _, _, _, rfl, rfl, SqT.of upd_same, rfl, ?_⟩ | refine ⟨_, _, rfl, .inl (SqL.of upd_same), ?_⟩ | refine ⟨_, _, rfl, .inr (SqT.of upd_same), ?_⟩ | (refine' ⟨_, _, _, _, rfl, rfl, _, _, _⟩; rotate_left 2; (focus (first | assumption | exact SqL.of (by assumption) | exact SqT.of (by assumption) | exact Same.seq (by assumption) (by assumption))); (focus (exact rfl))) | (refine' ⟨_, _, rfl, _, _⟩; rotate_left 1; (focus (first | exact .inl (by assumption) | exact .inl (SqL.of (by assumption)) | exact .inr (by assumption) | exact .inr (SqT.of (by assumption)))))))
          refine ⟨l, _, rfl, .inl (SqL.of (o12.mem (q := (l, .lst xs)) (by simp))), ?_⟩
          (repeat (first | refine ⟨_, rfl, ?_⟩ | refine ⟨_, _, rfl, rfl, ?_⟩ | refine ⟨rfl, ?_⟩ | refine .inl ⟨_, rfl, ?_⟩ | refine .inr ⟨_, rfl, ?_⟩ | refine ⟨.inr ⟨by decide, by decide⟩, ?_⟩ | refine ⟨⟨by decide, by decide⟩, ?_⟩ | refine ⟨⟨by decide, by decide, by decide⟩, ?_⟩ | refine ⟨.inr ⟨by omega, by omega⟩, ?_⟩ | refine ⟨(by show (0 : Int) < _; first | decide | omega), ?_⟩ | refine ⟨Nat.le_trans (Nat.le_of_ble_eq_true rfl : _ ≤ 50) (by decide), ?_⟩ | refine ⟨_, _, _, _, rfl, rfl, upd_same, rfl, ?_⟩ | refine ⟨_, _, _, _, rfl, rfl, SqL.of upd_same, rfl, ?_⟩ | refine ⟨_, _, _, _, rfl, rfl, SqT.of upd_same, rfl, ?_⟩ | refine ⟨_, _, rfl, .inl (SqL.of upd_same), ?_⟩ | refine ⟨_, _, rfl, .inr (SqT.of upd_same), ?_⟩ | (refine' ⟨_, _, _, _, rfl, rfl, _, _, _⟩; rotate_left 2; (focus (first | assumption | exact SqL.of (by assumption) | exact SqT.of (by assumption) | exact Same.seq (by assumption) (by assumption))); (focus (exact rfl))) | (refine' ⟨_, _, rfl, _, _⟩; rotate_left 1; (focus (first | exact .inl (by assumption) | exact .inl (SqL.of (by assumption)) | exact .inr (by assumption) | exact .inr (SqT.of (by assumption)))))))
          refine ite2 (fun _ => q _) (fun _ => ?_)
          (repeat (first | refine ⟨_, rfl, ?_⟩ | refine ⟨_, _, rfl, rfl, ?_⟩ | refine ⟨rfl, ?_⟩ | refine .inl ⟨_, rfl, ?_⟩ | refine .inr ⟨_, rfl, ?_⟩ | refine ⟨.inr ⟨by decide, by decide⟩, ?_⟩ | refine ⟨⟨by decide, by decide⟩, ?_⟩ | refine ⟨⟨by decide, by decide, by decide⟩, ?_⟩ | refine ⟨.inr ⟨by omega, by omega⟩, ?_⟩ | refine ⟨(by show (0 : Int) < _; first | decide | omega), ?_⟩ | refine ⟨Nat.le_trans (Nat.le_of_ble_eq_true rfl : _ ≤ 50) (by decide), ?_⟩ | refine ⟨_, _, _, _, rfl, rfl, upd_same, rfl, ?_⟩ | refine ⟨_, _, _, _, rfl, rfl, SqL.of upd_same, rfl, ?_⟩ | refine ⟨_, _, _, _, rfl, rfl, SqT.of upd_same, rfl, ?_⟩ | refine ⟨_, _, rfl, .inl (SqL.of upd_same), ?_⟩ | refine ⟨_, _, rfl, .inr (SqT.of upd_same), ?_⟩ | (refine' ⟨_, _, _, _, rfl, rfl, _, _, _⟩; rotate_left 2; (focus (first | assumption | exact SqL.of (by assumption) | exact SqT.of (by assumption) | exact Same.seq (by assumption) (by assumption))); (focus (exact rfl))) | (refine' ⟨_, _, rfl, _, _⟩; rotate_left 1; (focus (first | exact .inl (by assumption) | exact .inl (SqL.of (by assumption)) | exact .inr (by assumption) | exact .inr (SqT.of (by assumption)))))))
          refine ⟨l, _, rfl, .inl ⟨SqL.of (o12.mem (q := (l, .lst xs)) (by simp)), fun t2 ht2 => ?_⟩⟩
          have o13 : Wd T.P_is_instruction T.P_is_code H0 _ p2 ([(t2, .tup xs), (g, .tup [.ref r]), (t, .tup xs), (kp, .lst xs), (D, .lst acc), (l, .lst xs)] ++ N2) := o12.add (u := .tup xs) ht2
          dsimp only [tCons, tC, tNil]
          refine ⟨.ref t2, H0, p2, _, .tuple ds, rfl, o13, .inr ⟨t2, xs, ds, rfl, p3 _, .inl ⟨List.mem_cons_self .., rfl⟩⟩, fun H14 o14 => ?_⟩
          refine ⟨_, rfl, ?_⟩
          dsimp only [tCons, tC, tNil]
          refine ⟨_, _, rfl, ?_⟩
          rw [beq_self_eq_true]
          exact q _
end
theorem all_mk {q : Program} {l : PySem.W.OpenLaw} {w : World} {K : PySem.W.Frag} {h : Heap} {mg : Str → Option Value} {fa : Addr} (X : K.In h) (G : h.Ns mainGlobals mg) (hfa : mg "law" = some (.ref fa)) (gt : GA.GTab q K h)
    {f1 : Addr} {od1 an1 : Option Addr} {sl1 : Array (Option Value)} {oc1 kV1 dc1 pm1 cd1 ct1 : Value}
    {f2 cc2 P2 : Addr} {od2 an2 : Option Addr} {sl2 : Array (Option Value)} {oc2 kV2 dc2 pm2 ct2 : Value} {oq2 : Value} {dq2 : Option Addr} {vq2 : Array Value} {sq2 : Array (Option Value)}
    {f3 cc3 P3 : Addr} {od3 an3 : Option Addr} {sl3 : Array (Option Value)} {oc3 kV3 dc3 pm3 ct3 : Value} {oq3 : Value} {dq3 : Option Addr} {vq3 : Array Value} {sq3 : Array (Option Value)}
    {f4 : Addr} {od4 an4 : Option Addr} {sl4 : Array (Option Value)} {oc4 kV4 dc4 pm4 cd4 ct4 : Value}
    {f5 : Addr} {od5 an5 : Option Addr} {sl5 : Array (Option Value)} {oc5 kV5 dc5 pm5 cd5 ct5 : Value}
    {f6 : Addr} {od6 an6 : Option Addr} {sl6 : Array (Option Value)} {oc6 kV6 dc6 pm6 cd6 ct6 : Value}
    {f7 : Addr} {od7 an7 : Option Addr} {sl7 : Array (Option Value)} {oc7 kV7 dc7 pm7 cd7 ct7 : Value}
    {f8 : Addr} {od8 an8 : Option Addr} {sl8 : Array (Option Value)} {oc8 kV8 dc8 pm8 cd8 ct8 : Value}
    {f9 : Addr} {od9 an9 : Option Addr} {sl9 : Array (Option Value)} {oc9 kV9 dc9 pm9 cd9 ct9 : Value}
    {f10 : Addr} {od10 an10 : Option Addr} {sl10 : Array (Option Value)} {oc10 kV10 dc10 pm10 cd10 ct10 : Value}
    {f11 : Addr} {od11 an11 : Option Addr} {sl11 : Array (Option Value)} {oc11 kV11 dc11 pm11 cd11 ct11 : Value}
    {f12 : Addr} {od12 an12 : Option Addr} {sl12 : Array (Option Value)} {oc12 kV12 dc12 pm12 cd12 ct12 : Value}
    {f13 : Addr} {od13 an13 : Option Addr} {sl13 : Array (Option Value)} {oc13 kV13 dc13 pm13 cd13 ct13 : Value}
    {f14 : Addr} {od14 an14 : Option Addr} {sl14 : Array (Option Value)} {oc14 kV14 dc14 pm14 cd14 ct14 : Value}
    {f15 : Addr} {od15 an15 : Option Addr} {sl15 : Array (Option Value)} {oc15 kV15 dc15 pm15 cd15 ct15 : Value}
    {f16 : Addr} {od16 an16 : Option Addr} {sl16 : Array (Option Value)} {oc16 kV16 dc16 pm16 cd16 ct16 : Value}
    {f17 : Addr} {od17 an17 : Option Addr} {sl17 : Array (Option Value)} {oc17 kV17 dc17 pm17 cd17 ct17 : Value}
    {t_MOST_INSTRUCTIONS : Tok}
    {c_NUMBERS : Addr}
    {es_NUMBERS : Array DictEntry} {n_NUMBERS : Nat}
    {c_GREATEST : Addr}
    {es_GREATEST : Array DictEntry} {n_GREATEST : Nat}
    (a1 : PySem.W.nsIn K mainGlobals "is_integer" = some (some (.ref f1))) (l1 : K.lookup f1 = some ⟨oc1, od1, .func (PySem.W.fnOf "is_integer" "is_integer" (defArgs s_is_integer) (defBody s_is_integer) (defScope s_is_integer) .none kV1 dc1 pm1 an1 cd1 ct1), sl1⟩) (c1 : PySem.W.codeIn K cd1 "is_integer" = true) (k1 : PySem.W.keepIn K (.ref f1) = true)
    (a2 : PySem.W.nsIn K mainGlobals "is_instruction" = some (some (.ref f2))) (l2 : K.lookup f2 = some ⟨oc2, od2, .func (PySem.W.fnOf "is_instruction" "is_instruction" (defArgs s_is_instruction) (defBody s_is_instruction) (defScope s_is_instruction) .none kV2 dc2 pm2 an2 (.ref cc2) ct2), sl2⟩) (c2 : PySem.W.codeIn K (.ref cc2) "is_instruction" = true) (k2 : PySem.W.keepIn K (.ref f2) = true)
    (qk2 : K.lookup cc2 = some ⟨oq2, dq2, .fields vq2, sq2⟩) (vk2 : vq2[11]? = some (.ref P2)) (np2 : K.lookup P2 = none)
    (a3 : PySem.W.nsIn K mainGlobals "is_code" = some (some (.ref f3))) (l3 : K.lookup f3 = some ⟨oc3, od3, .func (PySem.W.fnOf "is_code" "is_code" (defArgs s_is_code) (defBody s_is_code) (defScope s_is_code) .none kV3 dc3 pm3 an3 (.ref cc3) ct3), sl3⟩) (c3 : PySem.W.codeIn K (.ref cc3) "is_code" = true) (k3 : PySem.W.keepIn K (.ref f3) = true)
    (qk3 : K.lookup cc3 = some ⟨oq3, dq3, .fields vq3, sq3⟩) (vk3 : vq3[11]? = some (.ref P3)) (np3 : K.lookup P3 = none)
    (a4 : PySem.W.nsIn K mainGlobals "targets" = some (some (.ref f4))) (l4 : K.lookup f4 = some ⟨oc4, od4, .func (PySem.W.fnOf "targets" "targets" (defArgs s_targets) (defBody s_targets) (defScope s_targets) .none kV4 dc4 pm4 an4 cd4 ct4), sl4⟩) (c4 : PySem.W.codeIn K cd4 "targets" = true) (k4 : PySem.W.keepIn K (.ref f4) = true)
    (a5 : PySem.W.nsIn K mainGlobals "_law_source" = some (some (.ref f5))) (l5 : K.lookup f5 = some ⟨oc5, od5, .func (PySem.W.fnOf "_law_source" "_law_source" (defArgs s_law_source) (defBody s_law_source) (defScope s_law_source) .none kV5 dc5 pm5 an5 cd5 ct5), sl5⟩) (c5 : PySem.W.codeIn K cd5 "_law_source" = true) (k5 : PySem.W.keepIn K (.ref f5) = true)
    (a6 : PySem.W.nsIn K mainGlobals "_law_draw" = some (some (.ref f6))) (l6 : K.lookup f6 = some ⟨oc6, od6, .func (PySem.W.fnOf "_law_draw" "_law_draw" (defArgs s_law_draw) (defBody s_law_draw) (defScope s_law_draw) .none kV6 dc6 pm6 an6 cd6 ct6), sl6⟩) (c6 : PySem.W.codeIn K cd6 "_law_draw" = true) (k6 : PySem.W.keepIn K (.ref f6) = true)
    (a7 : PySem.W.nsIn K mainGlobals "_law_limits" = some (some (.ref f7))) (l7 : K.lookup f7 = some ⟨oc7, od7, .func (PySem.W.fnOf "_law_limits" "_law_limits" (defArgs s_law_limits) (defBody s_law_limits) (defScope s_law_limits) .none kV7 dc7 pm7 an7 cd7 ct7), sl7⟩) (c7 : PySem.W.codeIn K cd7 "_law_limits" = true) (k7 : PySem.W.keepIn K (.ref f7) = true)
    (a8 : PySem.W.nsIn K mainGlobals "_law_is_right" = some (some (.ref f8))) (l8 : K.lookup f8 = some ⟨oc8, od8, .func (PySem.W.fnOf "_law_is_right" "_law_is_right" (defArgs s_law_is_right) (defBody s_law_is_right) (defScope s_law_is_right) .none kV8 dc8 pm8 an8 cd8 ct8), sl8⟩) (c8 : PySem.W.codeIn K cd8 "_law_is_right" = true) (k8 : PySem.W.keepIn K (.ref f8) = true)
    (a9 : PySem.W.nsIn K mainGlobals "_law_name" = some (some (.ref f9))) (l9 : K.lookup f9 = some ⟨oc9, od9, .func (PySem.W.fnOf "_law_name" "_law_name" (defArgs s_law_name) (defBody s_law_name) (defScope s_law_name) .none kV9 dc9 pm9 an9 cd9 ct9), sl9⟩) (c9 : PySem.W.codeIn K cd9 "_law_name" = true) (k9 : PySem.W.keepIn K (.ref f9) = true)
    (a10 : PySem.W.nsIn K mainGlobals "_law_good" = some (some (.ref f10))) (l10 : K.lookup f10 = some ⟨oc10, od10, .func (PySem.W.fnOf "_law_good" "_law_good" (defArgs s_law_good) (defBody s_law_good) (defScope s_law_good) .none kV10 dc10 pm10 an10 cd10 ct10), sl10⟩) (c10 : PySem.W.codeIn K cd10 "_law_good" = true) (k10 : PySem.W.keepIn K (.ref f10) = true)
    (a11 : PySem.W.nsIn K mainGlobals "_law_other" = some (some (.ref f11))) (l11 : K.lookup f11 = some ⟨oc11, od11, .func (PySem.W.fnOf "_law_other" "_law_other" (defArgs s_law_other) (defBody s_law_other) (defScope s_law_other) .none kV11 dc11 pm11 an11 cd11 ct11), sl11⟩) (c11 : PySem.W.codeIn K cd11 "_law_other" = true) (k11 : PySem.W.keepIn K (.ref f11) = true)
    (a12 : PySem.W.nsIn K mainGlobals "_law_changed" = some (some (.ref f12))) (l12 : K.lookup f12 = some ⟨oc12, od12, .func (PySem.W.fnOf "_law_changed" "_law_changed" (defArgs s_law_changed) (defBody s_law_changed) (defScope s_law_changed) .none kV12 dc12 pm12 an12 cd12 ct12), sl12⟩) (c12 : PySem.W.codeIn K cd12 "_law_changed" = true) (k12 : PySem.W.keepIn K (.ref f12) = true)
    (a13 : PySem.W.nsIn K mainGlobals "_law_same_answer" = some (some (.ref f13))) (l13 : K.lookup f13 = some ⟨oc13, od13, .func (PySem.W.fnOf "_law_same_answer" "_law_same_answer" (defArgs s_law_same_answer) (defBody s_law_same_answer) (defScope s_law_same_answer) .none kV13 dc13 pm13 an13 cd13 ct13), sl13⟩) (c13 : PySem.W.codeIn K cd13 "_law_same_answer" = true) (k13 : PySem.W.keepIn K (.ref f13) = true)
    (a14 : PySem.W.nsIn K mainGlobals "_law_targets_hold" = some (some (.ref f14))) (l14 : K.lookup f14 = some ⟨oc14, od14, .func (PySem.W.fnOf "_law_targets_hold" "_law_targets_hold" (defArgs s_law_targets_hold) (defBody s_law_targets_hold) (defScope s_law_targets_hold) .none kV14 dc14 pm14 an14 cd14 ct14), sl14⟩) (c14 : PySem.W.codeIn K cd14 "_law_targets_hold" = true) (k14 : PySem.W.keepIn K (.ref f14) = true)
    (a15 : PySem.W.nsIn K mainGlobals "_law_code" = some (some (.ref f15))) (l15 : K.lookup f15 = some ⟨oc15, od15, .func (PySem.W.fnOf "_law_code" "_law_code" (defArgs s_law_code) (defBody s_law_code) (defScope s_law_code) .none kV15 dc15 pm15 an15 cd15 ct15), sl15⟩) (c15 : PySem.W.codeIn K cd15 "_law_code" = true) (k15 : PySem.W.keepIn K (.ref f15) = true)
    (a16 : PySem.W.nsIn K mainGlobals "_law_row_holds" = some (some (.ref f16))) (l16 : K.lookup f16 = some ⟨oc16, od16, .func (PySem.W.fnOf "_law_row_holds" "_law_row_holds" (defArgs s_law_row_holds) (defBody s_law_row_holds) (defScope s_law_row_holds) .none kV16 dc16 pm16 an16 cd16 ct16), sl16⟩) (c16 : PySem.W.codeIn K cd16 "_law_row_holds" = true) (k16 : PySem.W.keepIn K (.ref f16) = true)
    (a17 : PySem.W.nsIn K mainGlobals "law" = some (some (.ref f17))) (l17 : K.lookup f17 = some ⟨oc17, od17, .func (PySem.W.fnOf "law" "law" (defArgs s_law) (defBody s_law) (defScope s_law) .none kV17 dc17 pm17 an17 cd17 ct17), sl17⟩) (c17 : PySem.W.codeIn K cd17 "law" = true) (k17 : PySem.W.keepIn K (.ref f17) = true)
    (g_MOST_INSTRUCTIONS : PySem.W.nsIn K mainGlobals "MOST_INSTRUCTIONS" = some (some (.int (20000) t_MOST_INSTRUCTIONS)))
    (g_NUMBERS : PySem.W.nsIn K mainGlobals "NUMBERS" = some (some (.ref c_NUMBERS)))
    (lk_NUMBERS : K.lookup c_NUMBERS = some ⟨.type "dict", none, .dict es_NUMBERS n_NUMBERS, #[]⟩) (kl_NUMBERS : PySem.W.KeysLit w.params es_NUMBERS.toList) (lo_NUMBERS : (c_NUMBERS == sysModules) = false)
    (g_GREATEST : PySem.W.nsIn K mainGlobals "GREATEST" = some (some (.ref c_GREATEST)))
    (lk_GREATEST : K.lookup c_GREATEST = some ⟨.type "dict", none, .dict es_GREATEST n_GREATEST, #[]⟩) (kl_GREATEST : PySem.W.KeysLit w.params es_GREATEST.toList) (lo_GREATEST : (c_GREATEST == sysModules) = false)
    (z_abs : PySem.W.nsIn K mainGlobals "abs" = some none)
    (z_all : PySem.W.nsIn K mainGlobals "all" = some none)
    (z_bool : PySem.W.nsIn K mainGlobals "bool" = some none)
    (z_int : PySem.W.nsIn K mainGlobals "int" = some none)
    (z_isinstance : PySem.W.nsIn K mainGlobals "isinstance" = some none)
    (z_len : PySem.W.nsIn K mainGlobals "len" = some none)
    (z_list : PySem.W.nsIn K mainGlobals "list" = some none)
    (z_range : PySem.W.nsIn K mainGlobals "range" = some none)
    (z_str : PySem.W.nsIn K mainGlobals "str" = some none)
    (z_tuple : PySem.W.nsIn K mainGlobals "tuple" = some none)
    (z_zip : PySem.W.nsIn K mainGlobals "zip" = some none)
    (kitn : KDx.strB K c_NUMBERS KDx.forms25 = true)
    (kito : KDx.noneB K c_NUMBERS KDx.odd8 = true)
    (kitg : KDx.getB K c_GREATEST 0 KDx.tops5 = true)
    (rc2 : ((recsOf q).find? fun e => e.name == ("is_instruction" : Str)).isSome = true)
    (rc3 : ((recsOf q).find? fun e => e.name == ("is_code" : Str)).isSome = true)
    (ndT : [P2, P3].Nodup)
    : LamX.LawAtS l w K CX0 6 63 "script" mg fa h := by
  have e := hfa.symm.trans (PySem.W.mg_of X G a17)
  cases e
  have F1 := fun_mk (st := s_is_integer) l1 c1 k1
  have b1 := F1.binds (ps := ["value", "least", "greatest"]) fun _ _ _ _ _ _ us hl => match us, hl with | [_, _, _], _ => rfl
  have F2 := GA.func_mk (st := s_is_instruction) l2 c2 k2
  have b2 := F2.binds (ps := ["value"]) fun _ _ _ _ _ _ us hl => match us, hl with | [_], _ => rfl
  have F3 := GA.func_mk (st := s_is_code) l3 c3 k3
  have b3 := F3.binds (ps := ["value"]) fun _ _ _ _ _ _ us hl => match us, hl with | [_], _ => rfl
  have F4 := fun_mk (st := s_targets) l4 c4 k4
  have b4 := F4.binds (ps := ["instruction"]) fun _ _ _ _ _ _ us hl => match us, hl with | [_], _ => rfl
  have F5 := fun_mk (st := s_law_source) l5 c5 k5
  have b5 := F5.binds (ps := ["script", "k"]) fun _ _ _ _ _ _ us hl => match us, hl with | [_, _], _ => rfl
  have F6 := fun_mk (st := s_law_draw) l6 c6 k6
  have b6 := F6.binds (ps := ["source", "many"]) fun _ _ _ _ _ _ us hl => match us, hl with | [_, _], _ => rfl
  have F7 := fun_mk (st := s_law_limits) l7 c7 k7
  have b7 := F7.binds (ps := ["name"]) fun _ _ _ _ _ _ us hl => match us, hl with | [_], _ => rfl
  have F8 := fun_mk (st := s_law_is_right) l8 c8 k8
  have b8 := F8.binds (ps := ["value"]) fun _ _ _ _ _ _ us hl => match us, hl with | [_], _ => rfl
  have F9 := fun_mk (st := s_law_name) l9 c9 k9
  have b9 := F9.binds (ps := ["source"]) fun _ _ _ _ _ _ us hl => match us, hl with | [_], _ => rfl
  have F10 := fun_mk (st := s_law_good) l10 c10 k10
  have b10 := F10.binds (ps := ["source"]) fun _ _ _ _ _ _ us hl => match us, hl with | [_], _ => rfl
  have F11 := fun_mk (st := s_law_other) l11 c11 k11
  have b11 := F11.binds (ps := ["source"]) fun _ _ _ _ _ _ us hl => match us, hl with | [_], _ => rfl
  have F12 := fun_mk (st := s_law_changed) l12 c12 k12
  have b12 := F12.binds (ps := ["source", "good"]) fun _ _ _ _ _ _ us hl => match us, hl with | [_, _], _ => rfl
  have F13 := fun_mk (st := s_law_same_answer) l13 c13 k13
  have b13 := F13.binds (ps := ["actual", "due"]) fun _ _ _ _ _ _ us hl => match us, hl with | [_, _], _ => rfl
  have F14 := fun_mk (st := s_law_targets_hold) l14 c14 k14
  have b14 := F14.binds (ps := ["instruction"]) fun _ _ _ _ _ _ us hl => match us, hl with | [_], _ => rfl
  have F15 := fun_mk (st := s_law_code) l15 c15 k15
  have b15 := F15.binds (ps := ["script", "source", "changed"]) fun _ _ _ _ _ _ us hl => match us, hl with | [_, _, _], _ => rfl
  have F16 := fun_mk (st := s_law_row_holds) l16 c16 k16
  have b16 := F16.binds (ps := ["source"]) fun _ _ _ _ _ _ us hl => match us, hl with | [_], _ => rfl
  have F17 := fun_mk (st := s_law) l17 c17 k17
  have b17 := F17.binds (ps := ["script"]) fun _ _ _ _ _ _ us hl => match us, hl with | [_], _ => rfl
  let T : Tx w K mg := ⟨_, _, F1, b1, PySem.W.mg_of X G a1, _, _, cc2, P2, F2, b2, PySem.W.mg_of X G a2, _, _, cc3, P3, F3, b3, PySem.W.mg_of X G a3, _, _, F4, b4, PySem.W.mg_of X G a4, _, _, F5, b5, PySem.W.mg_of X G a5, _, _, F6, b6, PySem.W.mg_of X G a6, _, _, F7, b7, PySem.W.mg_of X G a7, _, _, F8, b8, PySem.W.mg_of X G a8, _, _, F9, b9, PySem.W.mg_of X G a9, _, _, F10, b10, PySem.W.mg_of X G a10, _, _, F11, b11, PySem.W.mg_of X G a11, _, _, F12, b12, PySem.W.mg_of X G a12, _, _, F13, b13, PySem.W.mg_of X G a13, _, _, F14, b14, PySem.W.mg_of X G a14, _, _, F15, b15, PySem.W.mg_of X G a15, _, _, F16, b16, PySem.W.mg_of X G a16, _, _, F17, b17, PySem.W.mg_of X G a17, _, PySem.W.mg_of X G g_MOST_INSTRUCTIONS, ⟨_, rfl⟩, _, PySem.W.mg_of X G g_NUMBERS, rfl, _, _, ⟨lk_NUMBERS, kl_NUMBERS, lo_NUMBERS⟩, _, PySem.W.mg_of X G g_GREATEST, rfl, _, _, ⟨lk_GREATEST, kl_GREATEST, lo_GREATEST⟩, PySem.W.mg_none_of X G z_abs, PySem.W.mg_none_of X G z_all, PySem.W.mg_none_of X G z_bool, PySem.W.mg_none_of X G z_int, PySem.W.mg_none_of X G z_isinstance, PySem.W.mg_none_of X G z_len, PySem.W.mg_none_of X G z_list, PySem.W.mg_none_of X G z_range, PySem.W.mg_none_of X G z_str, PySem.W.mg_none_of X G z_tuple, PySem.W.mg_none_of X G z_zip, kitn, kito, kitg⟩
  obtain ⟨hd2, ht2⟩ := gt _ _ _ rc2 (GA.tab_by a2 l2 rfl qk2 vk2)
  obtain ⟨hd3, ht3⟩ := gt _ _ _ rc3 (GA.tab_by a3 l3 rfl qk3 vk3)
  refine ⟨PySem.W.fnOf "law" "law" (defArgs s_law) (defBody s_law) (defScope s_law) .none kV17 dc17 pm17 an17 cd17 ct17, [(cc2, P2), (cc3, P3)], spLaw K [P2, P3], fun q hq => ?_, fun q hq => ?_, fun q hq => ?_, fun s v => .of_eq rfl, fun H a ns hl _ hT hS => ⟨a, ns, rfl, hS, hl, ndT, fun r hr => ?_, fun _ => rfl⟩, fun base _ _ hB => ok_law' T (hB (cc2, P2) (by simp)) (hB (cc3, P3) (by simp)) F17⟩
  · simp only [List.mem_cons, List.not_mem_nil, or_false] at hq
    rcases hq with rfl | rfl
    · exact ht2
    · exact ht3
  · simp only [List.mem_cons, List.not_mem_nil, or_false] at hq
    rcases hq with rfl | rfl
    · exact np2
    · exact np3
  · simp only [List.mem_cons, List.not_mem_nil, or_false] at hq
    rcases hq with rfl | rfl
    · exact hd2
    · exact hd3
  · simp only [List.mem_cons, List.not_mem_nil, or_false] at hr
    rcases hr with hr | hr
    · rw [hr]; exact hT (cc2, P2) (by simp)
    · rw [hr]; exact hT (cc3, P3) (by simp)
end K26
open PySem PySem.W PyProof.Rows
set_option maxHeartbeats 0 in
theorem PySem.Challenge.cw_quietsmith_k26_instruction_forms_holds : PySem.Challenge.rw_quietsmith_k26_instruction_forms.Holds := by
  w_on; o_law; k_head; (case hw => w_witness2)
  k_fill
  refine GA.walk_ofG (l := PySem.Challenge.rw_quietsmith_k26_instruction_forms) (n := 63) (k := 6) (x := "script") (CX := fun _ => L2.CX0) rfl (by decide) rfl ⟨rfl, by decide, by decide⟩ (fun w h Y => PySem.W.kIn_of Y) ?F (fun _ _ _ _ _ h => h)
  case F =>
    intro w mg fa h Y KX G hmg gt
    refine' K26.all_mk KX G hmg gt ?a1 ?l1 ?c1 ?k1 ?a2 ?l2 ?c2 ?k2 ?qk2 ?vk2 ?np2 ?a3 ?l3 ?c3 ?k3 ?qk3 ?vk3 ?np3 ?a4 ?l4 ?c4 ?k4 ?a5 ?l5 ?c5 ?k5 ?a6 ?l6 ?c6 ?k6 ?a7 ?l7 ?c7 ?k7 ?a8 ?l8 ?c8 ?k8 ?a9 ?l9 ?c9 ?k9 ?a10 ?l10 ?c10 ?k10 ?a11 ?l11 ?c11 ?k11 ?a12 ?l12 ?c12 ?k12 ?a13 ?l13 ?c13 ?k13 ?a14 ?l14 ?c14 ?k14 ?a15 ?l15 ?c15 ?k15 ?a16 ?l16 ?c16 ?k16 ?a17 ?l17 ?c17 ?k17 ?g_MOST_INSTRUCTIONS ?g_NUMBERS ?lk_NUMBERS ?kl_NUMBERS ?lo_NUMBERS ?g_GREATEST ?lk_GREATEST ?kl_GREATEST ?lo_GREATEST ?z_abs ?z_all ?z_bool ?z_int ?z_isinstance ?z_len ?z_list ?z_range ?z_str ?z_tuple ?z_zip ?kitn ?kito ?kitg ?rc2 ?rc3 ?ndT
    (case a1 => k_is)
    (case l1 => k_is)
    (case c1 => k_is)
    (case k1 => k_is)
    (case a2 => k_is)
    (case l2 => k_is)
    (case c2 => k_is)
    (case k2 => k_is)
    (case qk2 => k_is)
    (case vk2 => rfl)
    (case np2 => kernel_rfl)
    (case a3 => k_is)
    (case l3 => k_is)
    (case c3 => k_is)
    (case k3 => k_is)
    (case qk3 => k_is)
    (case vk3 => rfl)
    (case np3 => kernel_rfl)
    (case a4 => k_is)
    (case l4 => k_is)
    (case c4 => k_is)
    (case k4 => k_is)
    (case a5 => k_is)
    (case l5 => k_is)
    (case c5 => k_is)
    (case k5 => k_is)
    (case a6 => k_is)
    (case l6 => k_is)
    (case c6 => k_is)
    (case k6 => k_is)
    (case a7 => k_is)
    (case l7 => k_is)
    (case c7 => k_is)
    (case k7 => k_is)
    (case a8 => k_is)
    (case l8 => k_is)
    (case c8 => k_is)
    (case k8 => k_is)
    (case a9 => k_is)
    (case l9 => k_is)
    (case c9 => k_is)
    (case k9 => k_is)
    (case a10 => k_is)
    (case l10 => k_is)
    (case c10 => k_is)
    (case k10 => k_is)
    (case a11 => k_is)
    (case l11 => k_is)
    (case c11 => k_is)
    (case k11 => k_is)
    (case a12 => k_is)
    (case l12 => k_is)
    (case c12 => k_is)
    (case k12 => k_is)
    (case a13 => k_is)
    (case l13 => k_is)
    (case c13 => k_is)
    (case k13 => k_is)
    (case a14 => k_is)
    (case l14 => k_is)
    (case c14 => k_is)
    (case k14 => k_is)
    (case a15 => k_is)
    (case l15 => k_is)
    (case c15 => k_is)
    (case k15 => k_is)
    (case a16 => k_is)
    (case l16 => k_is)
    (case c16 => k_is)
    (case k16 => k_is)
    (case a17 => k_is)
    (case l17 => k_is)
    (case c17 => k_is)
    (case k17 => k_is)
    (case g_MOST_INSTRUCTIONS => k_is)
    (case g_NUMBERS => k_is)
    (case lk_NUMBERS => k_is)
    (case kl_NUMBERS => repeat first | exact True.intro | refine ⟨⟨_, _, rfl, rfl⟩, ?_⟩)
    (case lo_NUMBERS => first | rfl | decide)
    (case g_GREATEST => k_is)
    (case lk_GREATEST => k_is)
    (case kl_GREATEST => repeat first | exact True.intro | refine ⟨⟨_, _, rfl, rfl⟩, ?_⟩)
    (case lo_GREATEST => first | rfl | decide)
    (case z_abs => k_is)
    (case z_all => k_is)
    (case z_bool => k_is)
    (case z_int => k_is)
    (case z_isinstance => k_is)
    (case z_len => k_is)
    (case z_list => k_is)
    (case z_range => k_is)
    (case z_str => k_is)
    (case z_tuple => k_is)
    (case z_zip => k_is)
    (case kitn => kernel_rfl)
    (case kito => kernel_rfl)
    (case kitg => kernel_rfl)
    (case rc2 => first | rfl | kernel_rfl)
    (case rc3 => first | rfl | kernel_rfl)
    (case ndT => decide)

