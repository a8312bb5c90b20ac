import PyProof.Rows.All
import Wide.All
import OpenK.AllK
import Wide.FinOn
import HandS.ForMost
import HandS.Defaults
import HandS.MakeKwOnly
import HandS.ClsMeth
import KE.KSuper
import HandS.Walk
import KE.GoesMore
import PyProof.EqAt
import PyProof.EqKinds
import PyProof.TupleCall
import HandS.ForExc
import HandS.RaiseFrom
import HandS.ExcIs
import HandS.HeadHook4
import HandS.OwnEq
import HandS.HeadHook1
import HandS.HeadHook2
import PySem.Challenge.RW_keptparts_k01_texts_and_back
import HandS.HeadHook3
import HandS.IsInst
import KE.KStateDown
import Lean
import HandS.Base
import HandS.Call
import HandS.Ends
import HandS.More
import HandS.Words
import HandS.WordsExc
import HandS.Head0
import HandS.Head1
import HandS.Head2
import HandS.HeadEnd
import HandS.Evl
import HandS.Strs
import HandS.Conv
import HandS.NoneIn
import HandS.FStr
import HandS.ExcField
import HandS.ExcOwn
set_option Elab.async false
set_option linter.all false
set_option maxRecDepth 100000
set_option maxHeartbeats 4000000
/-! super().__init__(a, b, k=c) of a class of one base, in a def of the parameters self, a, b and the keyword-only k. -/
namespace SupI
open PySem PySem.Spec PyProof.Rows L2
abbrev supBody (nm na nb nk : Str) (p0 p1 p2 p3 p4 p5 p6 p7 p8 : Pos) : List Stmt :=
  [.Expr (.Call (.Attribute (.Call (.Name "super" p0) [] [] p1) nm p2) [.Name na p3, .Name nb p4] [⟨some nk, .Name nk p5, p6⟩] p7) p8]
/-- what the written part tells of such a def -/
structure SupTxt (P : Program) (K : PySem.W.Frag) (mg : Str → Option Value) (C f f2 cc cda : Addr) (fd : FuncData) (qual : Str) (params : Arguments) (body : List Stmt) (scope : Scope) : Prop where
  lk : ∃ (oc : Value) (od an : Option Addr) (Dk : Addr) (doc pm ct : Value) (osl : Array (Option Value)), fd = PySem.W.ksFn "__init__" qual params body scope .none (.ref Dk) doc pm an (.ref cda) ct cc ∧ K.lookup f = some ⟨oc, od, .func fd, osl⟩
  cd : PySem.W.codeIn K (.ref cda) qual = true
  co : ∃ (a : Value) (b : Option Addr) (vs : Array Value) (c : Array (Option Value)) (file : Str) (tf : Tok), K.lookup cda = some ⟨a, b, .fields vs, c⟩ ∧ vs[2]? = some (.str file tf) ∧ ((P.main.file : Str) == file) = true
  cell : ∃ (a : Value) (b : Option Addr) (c : Array (Option Value)), K.lookup cc = some ⟨a, b, .cell (some (.ref C)), c⟩
  sub : PySem.W.mroIn K C (.ref C) = some true
  sup : mg "super" = none
  find : PySem.W.ks_superIn K C C "__init__" = some (some (.ref f2))
  ty : PySem.W.typeIn K (.ref f2) = some (.type "function")
  fnI : PySem.W.fnIn K f2 = true
  opq : PySem.W.nsIn K cStatics "thirdparty.any" = some none
  top : (P.main.scope.names.lookup ("super" : Str)).isSome = false
theorem methodCall_at {M : Model} {A : Around} {c : Code} {E : Value → Shared → Prop} {s : Shared} {env : Env} {o : Expr} {name : Str} {apos pos : Pos} {args : List Expr} {kws : List Keyword} {pl : Sem Bool} {Q : Value → Shared → Prop}
    (h : _root_.PySem.wpAt M A c (attributeBase o name env (eval o env)) (fun ov s₁ => wpAny M A (getMethod ov name pl) (fun fx s₂ => wpAny M A (callWith pos fx.1 fx.2 (backTo pos (starEach args env)) (backToKw pos (keywordEach kws env))) Q E s₂) E s₁) E s)
    (he : eval (.Call (.Attribute o name apos) args kws pos) env = (do
      let ov ← attributeBase o name env (eval o env)
      standAt apos.atName
      let (f, first) ← holding [ov] (getMethod ov name pl)
      callWith pos f first (backTo pos (starEach args env)) (backToKw pos (keywordEach kws env))) := by rfl) :
    _root_.PySem.wpAt M A c (eval (.Call (.Attribute o name apos) args kws pos) env) Q E s := by
  rw [he]
  refine _root_.PySem.wpAt_bind (ks_wpAt_mono h (fun ov s₁ h₁ => wpAt_of_wpAny (wpAny_bind (wpAny_standAt (wpAny_bind (wpAny_holding (wpAny_mono h₁ (fun fx s₂ h₂ => ?_) fun _ _ x => x)))))) fun _ _ x => x)
  exact h₂

section
variable {P : Program} {w : World} {K : PySem.W.Frag} {mg : Str → Option Value} {base : Heap} {CX : CXT} {C f f2 cc cda : Addr} {fd fd2 : FuncData} {qual nm na nb nk ns : Str} {params : Arguments} {body : List Stmt} {scope : Scope} {k : Nat} {sp : Sp} {p0 p1 p2 p3 p4 p5 p6 p7 p8 : Pos}
/-- the context of such a body -/
def cxS (CX : CXT) (P : Program) (w : World) (K : PySem.W.Frag) (mg : Str → Option Value) (base : Heap) (N : List Str) (qual : Str) (scope : Scope) (f : Addr) (cda cc : Addr) (A : Around) (outer : List Env) (s : Shared) (H : Hp) (E : XK) : Cx where
  prog := P
  w := w
  K := K
  mg := mg
  base := base
  A := A.deeper (PySem.W.ksEnv qual scope s.heap.objs.size f (.ref cda) cc)
  N := N
  s_0 := s
  H_0 := H
  env := PySem.W.ksEnv qual scope s.heap.objs.size f (.ref cda) cc
  outer := outer
  stack := PySem.W.ksEnv qual scope s.heap.objs.size f (.ref cda) cc :: outer
  ex := []
  calm := true
  fn := fun _ => false
  pn := []
  xe := fun e s' => wpAny (model P w) (A.deeper (PySem.W.ksEnv qual scope s.heap.objs.size f (.ref cda) cc)) (leaving (PySem.W.ksEnv qual scope s.heap.objs.size f (.ref cda) cc) e) (fun _ s'' => CX outer H s E e s'') (fun e' s'' => CX outer H s E e' s'') s'
theorem one_cell {y : Str} {c cc : Addr} (h : ([("__class__", cc)] : List (Str × Addr)).lookup y = some c) : y = "__class__" ∧ c = cc := by
  unfold List.lookup at h
  cases e : (y == ("__class__" : Str)) with
  | true =>
    rw [e] at h
    exact ⟨eq_of_beq e, (Option.some.inj h).symm⟩
  | false =>
    rw [e] at h
    cases h
theorem inv_sup {A : Around} {outer : List Env} {s : Shared} {H : Hp} {E : XK} {us : List Value} {vs : List V} {h1 : Heap} {tk : Nat} {N : List Str}
    (T : SupTxt P K mg C f f2 cc cda fd qual params body scope) (hk : scope.kind = .function) (hfr : ∀ y, (scope.names.lookup y = some .cell ∨ scope.names.lookup y = some .free) → y = "__class__") (hl : ∀ y ∈ N, scope.names.lookup y = some .local)
    (hd : A.handled = none) (e0 : Env0 P w K mg base A outer s H) (r : Vals vs us) (hlen : vs.length = N.length)
    (hns : h1.Ns s.heap.objs.size (fun x => (N.zip us).reverse.lookup x)) (hlook : ∀ (i : Nat) (y : Str) (u : Value), N[i]? = some y → us[i]? = some u → (N.zip us).reverse.lookup y = some u) (keep : ∀ b o, s.heap.get? b = some o → h1.get? b = some o) :
    Inv (cxS CX P w K mg base N qual scope f cda cc A outer s H E) [] (vs.map some) H { s with heap := h1, toks := tk } := by
  obtain ⟨ca, cb, ccs, hcell⟩ := T.cell
  have hb : base.get? cc = some ⟨ca, cb, .cell (some (.ref C)), ccs⟩ := e0.mod.kin _ _ hcell
  have noA : ∀ b : Addr, b ∉ (cxS CX P w K mg base N qual scope f cda cc A outer s H E).ex := fun b z => absurd (show b ∈ ([] : List Addr) from z) (by simp)
  refine ⟨⟨e0.mod, hk, rfl, rfl, Nat.le_refl _, fun y z c h1 h2 => ?_, fun y hy => ?_, fun y c h _ => ?_, fun _ => hd, Around.frames_deeper e0.frames, .inr ⟨rfl, rfl⟩, fun b z => absurd z (noA b), e0.bs, e0.bsz, fun b _ _ => noA b, fun b z => absurd z (noA b), e0.funs, e0.frf⟩,
    rfl, e0.bare, Un.kept keep, ⟨_, hns, fun i y v h1 h2 h3 => ?_⟩, fun y c h => ?_, e0.hok.fresh (Nat.le_refl _), fun y c h => ?_, fun p hp => absurd (show p ∈ ([] : List (Addr × Obj)) from hp) (by simp), e0.hok.kept keep, ?_⟩
  · exact (one_cell h1).1.trans (one_cell h2).1.symm
  · have e : y = "__class__" := hfr y hy
    subst e
    exact ⟨cc, rfl⟩
  · cases h
  · have h2' : (vs.map some)[i]? = some (some v) := h2
    rw [List.getElem?_map] at h2'
    have ha : vs[i]? = some v := by
      cases e : vs[i]? with
      | none => rw [e] at h2'; cases h2'
      | some a => rw [e] at h2'; cases h2'; rfl
    obtain ⟨u, hu, rv⟩ := r.get ha
    exact ⟨u, rv, .inl ⟨hl y (List.mem_of_getElem? h1), hlook i y u h1 hu⟩⟩
  · obtain ⟨_, rfl⟩ := one_cell h
    exact ⟨_, _, keep _ _ (e0.bs _ _ hb).1, rfl⟩
  · obtain ⟨_, rfl⟩ := one_cell h
    exact (e0.bs _ _ hb).2
  · show (vs.map some).length = N.length
    rw [List.length_map, hlen]
/-- the promise: the instance is of the class itself; then what the base's __init__ wants -/
def spSup (C : Addr) (sp : Sp) : Sp := fun vs H Q E => (∃ x dx fs a b c, vs = [.ref x, a, b, c] ∧ H x = some (.ins C dx fs)) ∧ sp vs H (fun _ H' => Q .non H') E
theorem fn_super {c1 : Str}
    (T : SupTxt P K mg C f f2 cc cda fd qual params (supBody "__init__" na nb nk p0 p1 p2 p3 p4 p5 p6 p7 p8) scope)
    (hcls : ∃ cd, PySem.W.clsIn K C = some cd)
    (hk : scope.kind = .function) (hco : scope.isCoroutine = false) (hgen : scope.isGenerator = false)
    (hfr : ∀ y, (scope.names.lookup y = some .cell ∨ scope.names.lookup y = some .free) → y = "__class__") (hcell : ∀ x ∈ scope.names, x.2 ≠ .cell)
    (hl : ∀ y ∈ [ns, na, nb, nk], scope.names.lookup y = some .local) (hks : scope.names.lookup ("super" : Str) = some .globalImplicit) (hkc : scope.names.lookup ("__class__" : Str) = some .free)
    (hdb : ∀ y ∈ [ns, na, nb, nk], (y == ("__debug__" : Str)) = false ∧ (y == ("__classdict__" : Str)) = false)
    {ar : Arg} (hpar : (params.posonlyargs ++ params.args).head? = some ar) (har : ar.arg = ns)
    (hlook : ∀ (u1 u2 u3 u4 : Value) (i : Nat) (y : Str) (u : Value), [ns, na, nb, nk][i]? = some y → [u1, u2, u3, u4][i]? = some u → ([ns, na, nb, nk].zip [u1, u2, u3, u4]).reverse.lookup y = some u)
    {pl : Env → Sem Bool} (he : ∀ env : Env, eval (.Call (.Attribute (.Call (.Name "super" p0) [] [] p1) "__init__" p2) [.Name na p3, .Name nb p4] [⟨some nk, .Name nk p5, p6⟩] p7) env = (do
      let ov ← attributeBase (.Call (.Name "super" p0) [] [] p1) "__init__" env (eval (.Call (.Name "super" p0) [] [] p1) env)
      standAt p2.atName
      let (f, first) ← holding [ov] (getMethod ov "__init__" (pl env))
      callWith p7 f first (backTo p7 (starEach [.Name na p3, .Name nb p4] env)) (backToKw p7 (keywordEach [⟨some nk, .Name nk p5, p6⟩] env))))
    (F2 : FnOk P w K mg base CX0 k f2 fd2 [ns, na, nb, nk] sp) (hb : KBn K fd2 [ns, na, nb, nk] 3 [nk] (fun us ws => us ++ ws) (fun vs zs => vs ++ zs)) :
    FnOk P w K mg base CX0 (k + 1) f fd [ns, na, nb, nk] (spSup C sp) := by
  obtain ⟨oc, od, an, Dk, doc, pm, ct, osl, rfl, lk⟩ := T.lk
  obtain ⟨coa, cob, cvs, coc, file, tf, hcode, hvs, hfile⟩ := T.co
  obtain ⟨cla, clb, clc, hcel⟩ := T.cell
  obtain ⟨cd, hcd⟩ := hcls
  refine ⟨fun vs H Q E ⟨⟨x, dx, fs, a, b, c, e, _⟩, _⟩ => by rw [e]; rfl, fun A outer s H args us vs Q E hr e0 hbd r hsp => ?_⟩
  obtain ⟨⟨x, dx, fs, a, b, c, rfl, hxi⟩, hsp⟩ := hsp
  have r0 := r
  obtain ⟨u1, u2, u3, u4, rfl, ru1, ru2, ru3, ru4⟩ : ∃ u1 u2 u3 u4, us = [u1, u2, u3, u4] ∧ RelV (.ref x) u1 ∧ RelV a u2 ∧ RelV b u3 ∧ RelV c u4 := by
    cases r with
    | cons r1 r => cases r with
      | cons r2 r => cases r with
        | cons r3 r => cases r with
          | cons r4 r => cases r with
            | nil => exact ⟨_, _, _, _, rfl, r1, r2, r3, r4⟩
  obtain rfl : u1 = Value.ref x := ru1
  have KX : K.In s.heap := e0.mod.kin.keeps fun b o e => (e0.bs b o e).1
  have lim : s.heap.NoLimit := e0.mod.nolimit.keeps fun b o e => (e0.bs b o e).1
  have hroom : A.depth < recursionLimit := by have := hr.dp; omega
  refine PySem.ks_codeAny_call_defAt (fd := PySem.W.ksFn "__init__" qual params (supBody "__init__" na nb nk p0 p1 p2 p3 p4 p5 p6 p7 p8) scope .none (.ref Dk) doc pm an (.ref cda) ct cc) (body := supBody "__init__" na nb nk p0 p1 p2 p3 p4 p5 p6 p7 p8) hroom (KX _ _ lk) rfl lim (PySem.W.codeRec_of KX T.cd) rfl hbd hcell (fun y hy => hl _ (List.of_mem_zip (show (y.1, y.2) ∈ _ from hy)).1) (fun h1 hns keep => ?_) hco hgen hk
  have I : Inv (cxS CX0 P w K mg base [ns, na, nb, nk] qual scope f cda cc A outer s H E) [] [some (.ref x), some a, some b, some c] H { s with heap := h1, toks := s.toks + ([ns, na, nb, nk].zip [Value.ref x, u2, u3, u4]).length } :=
    inv_sup (vs := [.ref x, a, b, c]) T hk hfr hl hr.hd e0 r0 rfl hns (hlook _ _ _ _) keep
  let X := cxS CX0 P w K mg base [ns, na, nb, nk] qual scope f cda cc A outer s H E
  show _root_.PySem.wpAt (model P w) X.A (.func _ X.env) (execs _ X.env) _ X.xe _
  refine ks_wpAt_execs_cons (ks_wpAt_Expr_any (methodCall_at (pl := pl X.env) ?_ (he X.env)) I.quiet)
  obtain ⟨oC, hC1, hC2⟩ : ∃ oC, h1.get? C = some oC ∧ oC.data = .cls cd := by
    unfold PySem.W.clsIn at hcd
    split at hcd
    · rename_i c' d' cd' sl ho
      cases hcd
      exact ⟨_, I.kIn _ _ ho, rfl⟩
    · cases hcd
  obtain ⟨mA, O, _⟩ := ins_get I.hok hxi
  obtain ⟨od', J, _⟩ := O.look
  have hks' : X.env.kindOf "super" = some .globalImplicit := hks
  have hkc' : X.env.kindOf "__class__" = some .free := hkc
  refine PySem.ks_wpAt_super_base (env := X.env) hks' hkc' (by decide +kernel) rfl (I.kIn _ _ lk) rfl hpar rfl (I.kIn _ _ hcode) rfl hvs hfile T.top ?_
  obtain ⟨mb, hb1, hb2⟩ := I.mod.blt
  refine PySem.W.ks_loadName_global hk hks' (Calls.loadGlobal_builtin (env := X.env) (I.mod.glob.keeps I.bk) T.sup (hb1.keeps I.bk) ((hb2 _ (by decide +kernel)).trans (by decide +kernel)) ⟨rfl, ?_⟩)
  refine wpAny_loadName_free (env := X.env) hk hkc' rfl ⟨_, I.kIn _ _ hcel, rfl⟩ ?_
  rw [har]
  refine wpAny_loadName_local (env := X.env) hk (hl _ (by simp)) hns (hlook _ _ _ _ 0 ns (.ref x) rfl rfl) ?_
  refine PySem.ks_wpAny_isType_cls hC1 hC2 ⟨rfl, ?_⟩
  refine PySem.ks_wpAny_call_super hC1 hC2 J.at_ J.cls (fun c' e' => ?_) (PySem.W.looks_mroIn I.kIn T.sub) (fun h2 e2 k2 => ?_)
  · have := J.no
    unfold PySem.W.notCls at this
    rw [e'] at this
    exact Bool.noConfusion this
  have I2 := ClX.pin_new (t' := s.toks + ([ns, na, nb, nk].zip [Value.ref x, u2, u3, u4]).length) I k2 (Nat.le_refl _) e2 (fun v z => nomatch z)
  have hfind := T.find
  unfold PySem.W.ks_superIn at hfind
  rw [hcd] at hfind
  obtain ⟨of, hof, hofc⟩ : ∃ of, h2.get? f2 = some of ∧ of.cls = .type "function" := by
    have ht' : (K.lookup f2).map (·.cls) = some (.type "function") := T.ty
    cases z : K.lookup f2 with
    | none => rw [z] at ht'; cases ht'
    | some of => rw [z] at ht'; exact ⟨of, I2.kIn _ _ z, Option.some.inj ht'⟩
  refine PySem.ks_wpAny_getMethod_super e2 (PySem.W.looks_opaque I2.kIn T.opq) (l₀ := cd.mro) (fun A Q E s k q => wpAny_bind ((PySem.W.looks_clsIn I2.kIn hcd) A _ E s k (wpAny_pure q))) rfl I2.kIn hfind hof hofc (PySem.W.ks_ne I.kIn J hcd) (by decide +kernel) ?_
  have I3 := ClX.pin_new (t' := s.toks + ([ns, na, nb, nk].zip [Value.ref x, u2, u3, u4]).length + 1) (h' := h2.push (PySem.W.methodObj (.ref f2) (.ref x))) I2 (fun _ _ z => Heap.get?_push_of_some _ z) (Nat.le_refl _) (Heap.get?_push_size h2 rfl) (fun v z => nomatch z)
  have d1 := hdb na (by simp)
  have d2 := hdb nb (by simp)
  have d3 := hdb nk (by simp)
  have pa : PA X [.Name na p3, .Name nb p4] (tCons (tVar 1) (tCons (tVar 2) tNil)) := pa_cons (pv 1 rfl (.inl (hl na (by simp))) d1.1 d1.2) (pa_cons (pv 2 rfl (.inl (hl nb (by simp))) d2.1 d2.2) pa_nil)
  have pk : PK X [⟨some nk, .Name nk p5, p6⟩] (tCons (tVar 3) tNil) := pk_cons (pv 3 rfl (.inl (hl nk (by simp))) d3.1 d3.2) pk_nil
  refine PySem.W.callWith_of (P := PySem.W.MethP K h2.objs.size f2 (.ref x)) rfl (PySem.W.keeps_M T.fnI) (evalArgs_kw2 (env := X.env) rfl (thn (pa.run p7 _ _ _ H (fun vs H' => vs = [a, b] ∧ H' = H) I3 ⟨a, rfl, b, rfl, rfl, rfl⟩) fun us s5 ⟨vs, H5, I5, r5, e5, e5'⟩ => ?_))
  subst e5 e5'
  refine thn (pk.run p7 _ s5 _ H5 (fun vs H' => vs = [c] ∧ H' = H5) I5 ⟨c, rfl, rfl, rfl⟩) fun ws s6 ⟨zs, H6, I6, r6, e6, e6'⟩ => ?_
  subst e6 e6'
  have hq6 := ClX.pin_at I6
  refine ⟨⟨hq6, I6.kIn⟩, ?_⟩
  have lu : us.length = 2 := r5.length.symm
  have lw : ws.length = 1 := r6.length.symm
  have r7 : Vals [V.ref x, a, b] (Value.ref x :: us) := .cons rfl r5
  refine wpAny_call (PySem.W.method_call hq6 (codeAny_mono (F2.run X.A X.stack s6 _ ⟨Value.ref x :: us, [nk].zip ws⟩ (Value.ref x :: us ++ ws) [.ref x, a, b, c] (fun _ H' => Q .non H') E (hr.deeper _) I6.env0 (hb.to s6 (Value.ref x :: us) ws I6.kIn (by simp [lu]) lw) (hb.rel r7 r6) hsp) fun r s' hq' => ?_))
  cases r with
  | error e => exact hq'.elim
  | ok fl =>
    cases fl with
    | ret u =>
      obtain ⟨v, H', I7, rv, q3⟩ := I6.after hq'
      refine _root_.PySem.wpAt_of_wpAny (wpAny_execs_nil ?_)
      exact ⟨.non, H', I7.os, I7.bare, I7.base, I7.hok, rfl, q3⟩
    | next => exact False.elim hq'
    | brk => exact False.elim hq'
    | cont => exact False.elim hq'
end
end SupI


set_option Elab.async false
set_option linter.all false
set_option maxRecDepth 100000
set_option maxHeartbeats 4000000
/-! for a, b in enumerate(t), t a tuple. -/
namespace PySem
set_option maxHeartbeats 4000000 in
theorem meets_enumerate_newT (l : Addr) (items : Array Value) (n : Nat) (dct : Option Addr) (sl : Array (Option Value)) :
    Meets (Builtin.«enumerate.__new__» ⟨[.type "enumerate", .ref l], []⟩) (fun _ R s => s.heap.get? l = some { cls := .type "tuple", dict := dct, data := .seq items n, slots := sl } ∧
      R (.ok (.ret (.ref (s.heap.push { cls := .type "tuple_iterator", data := .fields #[.ref l, .int 0 0] }).objs.size)))
        { s with heap := (s.heap.push { cls := .type "tuple_iterator", data := .fields #[.ref l, .int 0 0] }).push { cls := .type "enumerate", data := .fields #[.none, .bool false, .ref s.heap.objs.size, rawInt 0, .none, .none] } }) :=
  .of_wp fun prog w A R s h => by
    obtain ⟨hp, g, d, tk, os⟩ := s; obtain ⟨hl, h⟩ := h
    have hsub := sub_enumerate
    have hL : Heap.IsTuple (Shared.heap ⟨hp, g, d, tk, os⟩) l items := ⟨_, hl, rfl, n, rfl⟩
    wp_walk using wpAny_loadPart' hl
    refine wpAny_stack_any fun st => wpAny_pure ?_
    split
    · rename_i c _ _ _ _ _
      cases (c == Value.type "enumerate")
      · wp_walk using wpAny_loadPart' hl, wpAny_pyIter_tuple hL
        exact ⟨_, rfl, h⟩
      · wp_walk using wpAny_loadPart' hl, wpAny_pyIter_tuple hL
        exact ⟨_, rfl, h⟩
    · wp_walk using wpAny_loadPart' hl, wpAny_pyIter_tuple hL
      exact ⟨_, rfl, h⟩
section
variable {prog : Program} {w : World} {A : Around} {E : Value → Shared → Prop} {s : Shared}
theorem call_enumerate_tuple {l : Addr} {items : Array Value} {Q : Value → Shared → Prop} (hL : s.heap.IsTuple l items)
    (h : ∀ h', IsEnum h' (s.heap.objs.size + 1) s.heap.objs.size 0 .none → h'.IsTupleIter s.heap.objs.size l 0 → h'.objs.size = s.heap.objs.size + 2 →
      (∀ b o, s.heap.get? b = some o → h'.get? b = some o) → Q (.ref (s.heap.objs.size + 1)) { s with heap := h' }) :
    wpAny (model prog w) A (call (.type "enumerate") [.ref l]) Q E s := by
  obtain ⟨⟨c, dct, dt, sl⟩, hl, hc, n, hd⟩ := hL
  replace hc : c = .type "tuple" := hc
  replace hd : dt = .seq items n := hd
  subst hc hd
  refine callType_new F.called_enumerate (by decide) (F.typeCall_enumerate_1 _) (F.newCall_enumerate_1 _) (fun obj => F.args_object_init_2 obj _) F.entry_enumerate_new
    (meets_enumerate_newT l items n dct sl) ⟨hl, ?_⟩
  have hz : (s.heap.push { cls := .type "tuple_iterator", data := .fields #[.ref l, .int 0 0] }).objs.size = s.heap.objs.size + 1 := Heap.size_push ..
  show _ ∧ _
  rw [hz]
  have he : IsEnum ((s.heap.push { cls := .type "tuple_iterator", data := .fields #[.ref l, .int 0 0] }).push
      { cls := .type "enumerate", data := .fields #[.none, .bool false, .ref s.heap.objs.size, rawInt 0, .none, .none] }) (s.heap.objs.size + 1) s.heap.objs.size 0 .none := by
    have := Heap.get?_push_size (s.heap.push { cls := .type "tuple_iterator", data := .fields #[.ref l, .int 0 0] })
      (o := { cls := .type "enumerate", data := .fields #[.none, .bool false, .ref s.heap.objs.size, rawInt 0, .none, .none] }) rfl
    rw [hz] at this; exact this
  refine ⟨⟨_, he, rfl⟩, h _ he ⟨_, Heap.get?_push_of_some _ (Heap.get?_push_size _ rfl), rfl, rfl⟩ (by rw [Heap.size_push, hz]) fun b o x => Heap.get?_push_of_some _ (Heap.get?_push_of_some _ x)⟩
theorem wpAny_pyNext_enum_endT {e it l : Addr} {i : Nat} {items : Array Value} {old : Value} {Q : Option Value → Shared → Prop} (hh : A.handled = none)
    (he : IsEnum s.heap e it i old) (hit : s.heap.IsTupleIter it l i) (hl : s.heap.IsTuple l items) (hx : items[i]? = none)
    (hQ : ∀ h', Heap.ExtBut it s.heap h' → Q none { s with heap := h' }) : wpAny (model prog w) A (pyNext (.ref e)) Q E s := by
  have hT : s.TypeIs (.ref e) "enumerate" := ⟨_, he, rfl⟩
  unfold pyNext
  refine wpAny_bind (wpAny_attempt (wpAny_callSpecial?_slot (name := Str.ofString "__next__") hT F.slot_enumerate_next
    (wpAny_call_entry F.slot_enumerate_next hT F.entry_enumerate_next ?_ (F.args_enumerate_next_1 _))))
  show wpAny _ _ (field (.ref e) 2 >>= _) _ _ _
  refine wpAny_bind (wpAny_field he rfl (x := .ref it) rfl ?_)
  refine wpAny_bind (wpAny_nextOf_tuple_end hh hit hl hx fun h' x he' hx' => ?_)
  obtain ⟨o, ho, hc⟩ := hx'
  refine wpAny_bind (wpAny_isInstance (T := "StopIteration") (b := true) ⟨o, ho, hc⟩ isSubtype_stop ?_)
  exact wpAny_pure (hQ _ he')
end
end PySem
namespace L2
open PySem PySem.Spec PyProof.Rows
/-- the tuple at a as it stands at each turn, each item in a new pair -/
def ItE (K : PySem.W.Frag) (a : Addr) : It :=
  ⟨fun i H => ∃ (xs : List V) (x : V), SqT K H a xs ∧ xs[i]? = some x, fun i H v H' => ∃ T x, v = .ref T ∧ H T = none ∧ H' = upd H T (.tup [.int (i : Nat), x]) ∧ ∀ xs, SqT K H a xs → xs[i]? = some x, fun i H => ∃ xs : List V, SqT K H a xs ∧ xs.length ≤ i⟩
theorem turn_enumT {P : Program} {w : World} {K : PySem.W.Frag} {elts : List Expr} {kk : Nat} {tpos : Pos} (a e it : Addr) :
    Turn P w K (.Tuple elts kk tpos) (ItE K a) [e, it] e (fun i h => (∃ old, IsEnum h e it ((i : Nat) : Int) old) ∧ h.IsTupleIter it a i ∧ e ≠ it) where
  mem := by simp
  obj := fun i h st b hb => by
    obtain ⟨⟨old, he⟩, ⟨o, ho, hc, hd⟩, _⟩ := st
    have e' : b = e ∨ b = it := by simpa using hb
    rcases e' with z | z
    · rw [z]; exact ⟨_, he, fun v q => nomatch q⟩
    · rw [z]; exact ⟨o, ho, fun v q => by rw [hd] at q; cases q⟩
  keep := fun i h h' st k => let ⟨⟨old, he⟩, hi, hne⟩ := st; ⟨⟨old, k e (by simp) _ he⟩, hi.at fun o q => k it (by simp) o q, hne⟩
  item := by
    intro X hP hw hK hc i pins s σ H E I hf st hg
    subst hP hw hK
    obtain ⟨⟨old, he⟩, hit, hne⟩ := st
    obtain ⟨xs, x, hq, hx⟩ := hg
    obtain ⟨its, rv, p, hz⟩ := I.tuple hq
    obtain ⟨u, hu, ru⟩ := rv.get hx
    have hel : e < s.heap.objs.size := Heap.lt_size he
    have hil : it < s.heap.objs.size := by obtain ⟨_, q, _⟩ := hit; exact Heap.lt_size q
    have hit0 := hit
    have hae : a ≠ it := fun z => by
      obtain ⟨o1, q1, c1, _⟩ := hit
      obtain ⟨o2, q2, c2, _⟩ := (show s.heap.IsTuple a its.toArray from p)
      rw [z, q1] at q2
      cases q2
      rw [c1] at c2
      exact absurd c2 (by simp)
    have hea : e ≠ a := fun z => by
      obtain ⟨o2, q2, c2, _⟩ := (show s.heap.IsTuple a its.toArray from p)
      rw [← z, he] at q2
      cases q2
      exact absurd c2 (by simp)
    refine wpAny_pyNext_enum_itemD (Draws.tuple (A := X.A.in1) (I.ok.hd hc) it a hae its.toArray) he ⟨hit, (show s.heap.IsTuple a its.toArray from p)⟩ (i := i) (by
      have := (List.getElem?_eq_some_iff.mp hu).1
      simpa using this) hne (by simp [hne, hea]) fun x' h' tk hx' ho hst' hT hsz hk => ?_
    have hux : x' = u := by
      have z : its.toArray[i]? = some x' := hx'
      rw [List.getElem?_toArray, hu] at z
      exact (Option.some.inj z).symm
    subst hux
    obtain ⟨hit', _⟩ := hst'
    refine ⟨_, rfl, wpAny_letOwnedTupleGo_enum (s := { s with heap := h', toks := tk + 1 }) ho fun h'' he' sb => ?_⟩
    have hT2 : h''.get? s.heap.objs.size = some { cls := .type "tuple", data := .seq #[.int i tk, x'] } := (sb.2 _ (Nat.ne_of_gt hel)).trans hT
    have new : ObjOk X.prog X.w (upd H s.heap.objs.size (.tup [.int (i : Nat), x])) h'' s.heap.objs.size (.tup [.int (i : Nat), x]) :=
      ⟨by show 2 ≤ sizeLine; decide, [.int i tk, x'], .cons ⟨_, rfl⟩ (.cons ru .nil), ⟨_, hT2, rfl, _, rfl⟩⟩
    have I1 : Inv X pins σ (upd H s.heap.objs.size (.tup [.int (i : Nat), x])) { s with heap := h'', toks := tk + 1 } :=
      I.turnedNew (ch := [e, it]) (fun b ob hb q => (sb.2 b (fun z => hb (by simp [z]))).trans (hk b ob (fun z => hb (by simp [z])) (fun z => hb (by simp [z])) q)) hf (Nat.le_refl _) new
    refine ⟨.ref s.heap.objs.size, _, I1, rfl, ⟨_, x, rfl, I.hok.fresh (Nat.le_refl _), rfl, fun ys hy => by rw [I.tuple_inj hy hq]; exact hx⟩, ⟨⟨x', ?_⟩, hit'.at fun o q => (sb.2 it (Ne.symm hne)).trans q, hne⟩, fun b hb => ?_⟩
    · have e1 : ((i + 1 : Nat) : Int) = (i : Int) + 1 := by omega
      rw [e1]; exact he'
    · have hb' : b < s.heap.objs.size := by
        have e' : b = e ∨ b = it := by simpa using hb
        rcases e' with z | z
        · rw [z]; exact hel
        · rw [z]; exact hil
      rw [upd_ne (Nat.ne_of_lt hb')]
      exact (hf b hb).1
  done := by
    intro X hP hw hK hc i pins s σ H E I hf st hg
    subst hP hw hK
    obtain ⟨⟨old, he⟩, hit, hne⟩ := st
    obtain ⟨xs, hq, hx⟩ := hg
    obtain ⟨its, rv, p, hz⟩ := I.tuple hq
    obtain ⟨f0, f1, f2, f3, f4, f5⟩ := hf it (by simp)
    have hl := rv.length
    exact wpAny_pyNext_enum_endT (I.ok.hd hc) he hit (show s.heap.IsTuple a its.toArray from p) (by simp; omega) fun h' eb => ⟨rfl, I.turned (t' := s.toks) (fun b o hb q => eb b o hb q) f0 f1 f3 f4 f5⟩
  self := fun A i s Q E st h => let ⟨⟨_, he⟩, _⟩ := st; wpAny_pyIter_enum he h
def iEnumT (K : PySem.W.Frag) (ta : TA) : TI := fun σ H R => ta σ H fun vs H1 => ∃ a xs, vs = [.ref a] ∧ SqT K H1 a xs ∧ R (ItE K a) H1
theorem pi_enumT {X : Cx} {e : Expr} {ta : TA} {p pos tpos : Pos} {elts : List Expr} {kk : Nat} (hg : Gl X "enumerate") (hm : X.mg "enumerate" = none) (ha : PA X [e] ta) (hs : starEach [e] X.env = [(false, eval e X.env)] := by rfl) :
    PI X (.Tuple elts kk tpos) (.Call (.Name "enumerate" p) [e] [] pos) (iEnumT X.K ta) := by
  refine ⟨fun pins s σ H R I h => ?_⟩
  refine Call_ (ld_blt I hg hm boot_enumerate (PyProof.Rows.callWith_type1 (thn (ha.run pos pins s σ H _ I h) fun us s1 ⟨vs, H1, I1, r1, q1⟩ => ?_) hs rfl))
  obtain ⟨a, xs, ex, hq, q⟩ := q1
  subst ex
  cases r1 with
  | cons r rr =>
    cases rr
    cases r
    obtain ⟨its, rv, p', hz⟩ := I1.tuple hq
    refine call_enumerate_tuple (show s1.heap.IsTuple a its.toArray from p') fun h' he hit hsz hk => wpAny_pyIter_enum he ?_
    have I2 : Inv X pins σ H1 { s1 with heap := h' } := I1.kept (t' := s1.toks) hk
    refine ⟨s1.heap.objs.size + 1, [s1.heap.objs.size + 1, s1.heap.objs.size], _, _, H1, rfl, I2, turn_enumT a (s1.heap.objs.size + 1) s1.heap.objs.size, ⟨⟨.none, he⟩, hit, Nat.succ_ne_self _⟩, fun b hb => ?_, q⟩
    have e' : b = s1.heap.objs.size + 1 ∨ b = s1.heap.objs.size := by simpa using hb
    have hle : s1.heap.objs.size ≤ b := by
      rcases e' with z | z
      · rw [z]; exact Nat.le_add_right _ _
      · rw [z]; exact Nat.le_refl _
    exact I1.fpOk hle (I1.hok.fresh hle)
theorem walk_enumT {K : PySem.W.Frag} {a : Addr} {xs : List V} : Walk (ItE K a) xs.length (fun H => SqT K H a xs) (YPair (fun i => some (.int (i : Nat))) (fun i => xs[i]?)) := by
  refine ⟨fun i _ hi q => ⟨xs, xs[i], q, by simp [hi]⟩, fun _ q => ⟨xs, q, Nat.le_refl _⟩, fun i H v H' _ q y => ?_⟩
  obtain ⟨T, x, h1, h2, h3, h4⟩ := y
  exact ⟨T, .int (i : Nat), x, h1, h2, h3, rfl, h4 xs q⟩
end L2


set_option Elab.async false
set_option linter.all false
set_option maxRecDepth 100000
set_option maxHeartbeats 4000000
/-! The program's own errors (each one keeps its field), and raise .. from. -/
namespace L2
open PySem PySem.Spec PyProof.Rows
def PMk6 (X : Cx) (e : Expr) (t : St → Hp → XK → Prop) : Prop :=
  ∀ (pins : List (Addr × Obj)) (s : Shared) (σ : St) (H : Hp) (Q : XK), Inv X pins σ H s → t σ H Q → wpAny (model X.prog X.w) X.A (eval e X.env) (fun u s' => MkP X pins σ Q u s' ∧ L2H.Six u s') X.xe s
end L2
namespace PySem
namespace BadTextX
open PySem.W PySem.Calls PyProof.Rows PySem.HandSPX
/-! ### the text of __init__ -/
def iA (p1 p2 : Pos) : Arguments := { posonlyargs := [], args := [{ arg := "self", annotation := none, pos := p1 }, { arg := "line", annotation := none, pos := p2 }], vararg := none, kwonlyargs := [], kw_defaults := [], kwarg := none, defaults := [] }
def iB (q1 q2 q3 q4 : Pos) : List Stmt := [.Assign [.Attribute (.Name "self" q1) "line" q2] (.Name "line" q3) q4]
def iS : Scope := { kind := .function, names := [(PySem.Str.ofString "self", .local), (PySem.Str.ofString "line", .local)], isGenerator := false, isCoroutine := false, more := [] }
/-- what the written part says of Low, at C, and of its __init__, at fI -/
structure BadTextTxt (K : Frag) (mg : Str → Option Value) (C fI : Addr) : Prop where
  gC : mg "BadText" = some (.ref C)
  cls : ∃ nm q N bs bm sn sub ab col dd k0 k1 k2 k3 k5, K.lookup C = some (excClassObj nm q C N bs bm true sn sub ab col dd k0 k1 k2 k3 k5 "ValueError.__new__") ∧ refsVE bm = true
  sa : findIn K (.ref C) "__setattr__" = some (some (.builtin "object.__setattr__"))
  ga : findIn K (.ref C) "__getattribute__" = some (some (.builtin "BaseException.__getattribute__"))
  gg : findIn K (.ref C) "__getattr__" = some none
  noN : findIn K (.ref C) "line" = some none
  iC : findIn K (.ref C) "__init__" = some (some (.ref fI))
  tC : typeIn K (.ref fI) = some (.type "function")
  kC : keepIn K (.ref C) = true
  exC : subIn K (.ref C) (.type "BaseException") = some true
  tyC : typeIn K (.ref C) = some (.type "type")
  hdC : hasDictIn K C = true
  te : exmOne K (.ref C) (.ref C) = some true
  fn : ∃ (oc : Value) (od : Option Addr) (kV doc pm : Value) (an : Option Addr) (cdv ct : Value) (osl : Array (Option Value)) (p1 p2 q1 q2 q3 q4 : Pos),
    K.lookup fI = some ⟨oc, od, .func (fnOf "__init__" "BadText.__init__" (iA p1 p2) (iB q1 q2 q3 q4) iS .none kV doc pm an cdv ct), osl⟩ ∧ codeIn K cdv "BadText.__init__" = true
theorem one_size (v : Value) : [v].length ≤ sizeLine := by
  rw [sizeLine_eq]
  exact (by decide : 1 ≤ 16777216)
theorem kept_but {K : Frag} {h h' : Heap} {x : Addr} (X : K.In h) (hx : K.lookup x = none) (k : ∀ b o, b ≠ x → h.get? b = some o → h'.get? b = some o) : K.In h' := fun a o e =>
  k a o (fun z => by rw [z, hx] at e; cases e) (X a o e)
theorem ldC {M : Model} {s : Shared} {name : Str} {scope : Scope} {L a : Addr} {cd : Value} {m : Str → Option Value} {x : Str} {pos : Pos} {v : Value} {Q : Value → Shared → Prop} {A : Around} {E : Value → Shared → Prop} (hn : s.heap.Ns L m) (hv : m x = some v) (h : Q v s)
    (hk : scope.kind = .function := by rfl) (hl : (envOfC name scope L a cd).kindOf x = some .local := by rfl) (hd : (x == ("__debug__" : Str)) = false := by decide) :
    wpAny M A (eval (.Name x pos) (envOfC name scope L a cd)) Q E s := wpAny_Name (wpAny_loadName_local hk hl hn hv h) hd
/-- what __init__ leaves of a fresh exception at x -/
structure InitEnd (h h' : Heap) (x C dx t1 : Addr) (v : Value) : Prop where
  keep : ∀ b o, b ≠ x → h.get? b = some o → h'.get? b = some o
  obj : h'.get? x = some { cls := .ref C, dict := some dx, data := .fields #[.ref t1, .none, .none, .none, .bool false, .none] }
  dbig : h.objs.size ≤ dx
  dne : dx ≠ x
  ns : h'.Ns1 dx (fun y => if y = "line" then some v else none)
/-- a made Low -/
structure OwnMade (h h' : Heap) (e C d : Addr) (v : Value) : Prop where
  keep : ∀ b o, h.get? b = some o → h'.get? b = some o
  new : h.objs.size ≤ e
  obj : ∃ oe vs, h'.get? e = some oe ∧ oe.cls = .ref C ∧ oe.dict = some d ∧ oe.data = .fields vs ∧ vs[1]? = some .none ∧ 4 < vs.size
  dbig : h.objs.size ≤ d
  dne : d ≠ e
  ns : h'.Ns1 d (fun y => if y = "line" then some v else none)
section
variable {prog : Program} {w : World} {A : Around} {E : Value → Shared → Prop} {R : Result → Shared → Prop} {s : Shared} {K : Frag} {mg : Str → Option Value} {C fI : Addr}
theorem init_BadText (T : BadTextTxt K mg C fI) {x t0 : Addr} {v : Value} (X : K.In s.heap) (hlim : s.heap.NoLimit) (hx : s.heap.get? x = some (excO C t0)) (hnx : K.lookup x = none) (hroom : A.depth < recursionLimit)
    (hq : ∀ h' tk dx, InitEnd s.heap h' x C dx t0 v → R (.ok (.ret .none)) { s with heap := h', toks := tk }) :
    codeAny (model prog w) A (.call (.ref fI) ⟨[.ref x, v], []⟩) R s := by
  obtain ⟨oc, od, kV, doc, pm, an, cdv, ct, osl, p1, p2, q1, q2, q3, q4, ho, hcd⟩ := T.fn
  obtain ⟨nm, q, N, bs, bm, sn, sub, ab, col, dd, k0, k1, k2, k3, k5, hC, hbm⟩ := T.cls
  have hcl : clsIn K C = some { name := nm, bases := bs, mro := .ref C :: bm, ns := N, qualname := q, hasDict := true, slotNames := sn, subclasses := sub, abstract := ab, collection := col, hasDel := false } := by unfold clsIn; rw [hC] <;> rfl
  refine Att.call_fn (binds := [("self", .ref x), ("line", v)]) X hlim ho hcd hroom (BindsTo.of_eq (by first | rfl | with_unfolding_all rfl)) (by first | rfl | decide | with_unfolding_all rfl) (fun s₁ IC => ?_) rfl rfl rfl
  obtain ⟨h₁, tk₁, rfl⟩ := IC.toInCall.same
  have k : ∀ b o, s.heap.get? b = some o → h₁.get? b = some o := IC.toInCall.keep
  have hn := IC.toInCall.ns
  have hxL : s.heap.objs.size ≠ x := Nat.ne_of_gt (Heap.lt_size hx)
  have X₁ : K.In h₁ := X.keeps k
  have hx₁ := k _ _ hx
  -- self.by = by
  show wpAny _ _ (execs _ _) _ _ _
  refine wpAny_execs_cons (plainObj_wpAny_Assign_Attribute ?_)
  refine ldC (v := v) hn (by first | rfl | with_unfolding_all rfl | kernel_rfl) (ldC (v := .ref x) hn (by first | rfl | with_unfolding_all rfl | kernel_rfl) ?_)
  refine set_plain X₁ (ox := excO C t0) (od := none) ⟨hx₁, rfl, rfl, trivial⟩ T.sa ?_
  refine exc_osa X₁ hx₁ hcl (show refsVE (.ref C :: bm) = true from hbm) rfl T.noN (fun h₃ tk₃ dx k₃ dn dne hx₃ hn₃ => ?_)
  show wpAny _ _ (execs _ _) _ _ _
  have z : s.heap.objs.size < h₁.objs.size := hn.lt
  exact wpAny_execs_nil (hq h₃ tk₃ dx ⟨fun b o hb e => k₃ b o hb (k b o e), hx₃, Nat.le_of_lt (Nat.lt_of_lt_of_le z dn), dne, hn₃⟩)
theorem made_BadText (T : BadTextTxt K mg C fI) {v : Value} (X : K.In s.heap) (hlim : s.heap.NoLimit) (hroom : A.depth + 1 < recursionLimit)
    (hq : ∀ h' tk e d, OwnMade s.heap h' e C d v → R (.ok (.ret (.ref e))) { s with heap := h', toks := tk }) :
    codeAny (model prog w) A (.call (.ref C) ⟨[v], []⟩) R s := by
  obtain ⟨nm, q, N, bs, bm, sn, sub, ab, col, dd, k0, k1, k2, k3, k5, hC, hbm⟩ := T.cls
  obtain ⟨hp, g, dr, tk, os⟩ := s
  have k : ∀ b o, hp.get? b = some o → ((hp.push (kdv_tup [v])).push (excO C hp.objs.size)).get? b = some o := fun b o e => Heap.get?_push_of_some _ (Heap.get?_push_of_some _ e)
  have hget : ((hp.push (kdv_tup [v])).push (excO C hp.objs.size)).get? (hp.objs.size + 1) = some (excO C hp.objs.size) := by heap_get
  have hnx : K.lookup (hp.objs.size + 1) = none := by
    cases e : K.lookup (hp.objs.size + 1) with
    | none => rfl
    | some o =>
      have z : hp.get? (hp.objs.size + 1) = some o := X _ _ e
      exact absurd (Nat.lt_of_succ_lt (Heap.lt_size z)) (Nat.lt_irrefl _)
  refine call_own F.excBase_ValueError (fun X => refsVE_contains X bm hbm) (X _ _ hC) (looks_findIn X T.iC) (fun self => bind_fn X self T.tC) (one_size v) ?_
  refine init_BadText (s := ⟨(hp.push (kdv_tup [v])).push (excO C hp.objs.size), g, dr, tk, os⟩) T (X.keeps k) (hlim.keeps k) hget hnx ?_ fun h' tk' dx ⟨k', hx, dn, dne, hns⟩ => ?_
  · show A.depth + 1 < recursionLimit
    exact hroom
  · have old : ∀ b o, hp.get? b = some o → h'.get? b = some o := fun b o e => k' b o (Nat.ne_of_lt (Nat.lt_succ_of_lt (Heap.lt_size e))) (k b o e)
    have z : hp.objs.size + 1 + 1 ≤ dx := by
      first
        | (simpa only [Heap.size_push] using dn)
        | exact dn
        | (have q := dn; rw [Heap.size_push, Heap.size_push] at q; exact q)
    exact ⟨rfl, hq h' tk' (hp.objs.size + 1) dx ⟨old, Nat.le_succ _, ⟨_, _, hx, rfl, rfl, rfl, rfl, (by show (4 : Nat) < 6; decide)⟩, Nat.le_trans (Nat.le_trans (Nat.le_succ _) (Nat.le_succ _)) z, dne, hns⟩⟩
end
end BadTextX
end PySem
namespace L2
open PySem PySem.Spec PyProof.Rows
theorem relO_BadText {v : V} {v' : Value} (r : RelV v v') (f : Str) : RelO (List.lookup f [(("line" : Str), v)]) (if f = "line" then some v' else none) := by
  by_cases hw : f = "line"
  · subst hw
    rw [if_pos rfl]
    have q : List.lookup ("line" : Str) [(("line" : Str), v)] = some v := by simp [List.lookup]
    rw [q]
    exact r
  · rw [if_neg hw]
    have qw : (f == ("line" : Str)) = false := by simpa using hw
    have q2 : List.lookup f [(("line" : Str), v)] = none := by simp [List.lookup, qw]
    rw [q2]
    trivial
section
variable {X : Cx} {C fI : Addr}
/-- Low(e) -/
def tMkBadText (C : Addr) (ta : TA) : St → Hp → XK → Prop := fun σ H Q => ta σ H fun vs H1 => ∃ v, vs = [v] ∧ ∀ d, H1 d = none → Q (.ref C) (some d) (upd H1 d (.xd [(("line" : Str), v)]))
theorem pmk_BadText {a : Expr} {ta : TA} {p pos : Pos} {k : Nat} (T : PySem.BadTextX.BadTextTxt X.K X.mg C fI) (hr : Room k X.A) (ha : PA X [a] ta) (hg : Gl X "BadText" := by rfl)
    (he : starEach (a :: []) X.env = (false, eval a X.env) :: starEach [] X.env := by rfl) (hpl : (backTo pos (starEach [] X.env)).any (·.1) = false := by rfl) :
    PMk X (.Call (.Name "BadText" p) [a] [] pos) (tMkBadText C ta) := by
  intro pins s σ H Q I h
  refine wpAny_Call_Name_kw (ld_glob I hg T.gC ?_)
  refine PySem.W.callWith_K (h₀ := X.base) I.ok.mod.kin T.kC (thn (ha.run pos pins s σ H _ I h) fun us s1 hh => ?_) he hpl
  obtain ⟨vs, H1, I1, r1, v, ev, q1⟩ := hh
  subst ev
  refine ⟨I1.kIn, ?_⟩
  cases r1 with
  | cons rv rn =>
    rename_i v' us'
    cases rn
    show wpAny _ _ (call (.ref C) [v']) _ _ _
    have hlim := I1.nolimit
    obtain ⟨hp, g, dr, tk, os⟩ := s1
    refine wpAny_call (PySem.BadTextX.made_BadText T I1.kIn hlim (by have := hr.dp; omega) fun h' tk' e d M => ?_)
    show MkP X pins σ Q (.ref e) ⟨h', g, dr, tk', os⟩
    obtain ⟨oe, fv, hoe, hc, hd, hdat, h1, _⟩ := M.obj
    have hns := M.ns
    obtain ⟨G', g1, g2⟩ := restrict h' fun b => decide (b ≠ e)
    have gk : ∀ b, b ≠ e → G'.get? b = h'.get? b := fun b hb => g1 b (decide_eq_true hb)
    have ge : G'.get? e = none := g2 e (by simp)
    have old : ∀ b o, hp.get? b = some o → G'.get? b = some o := fun b o q => (gk b (Nat.ne_of_lt (Nat.lt_of_lt_of_le (Heap.lt_size q) M.new))).trans (M.keep b o q)
    have ob : ObjOk X.prog X.w (upd H1 d (.xd [(("line" : Str), v)])) G' d (.xd [(("line" : Str), v)]) :=
      ⟨_, hns.at (fun o q => (gk d M.dne).trans q), fun f => relO_BadText rv f⟩
    have J : Inv X pins σ (upd H1 d (.xd [(("line" : Str), v)])) ⟨G', g, dr, tk', os⟩ := I1.laid (t' := tk') old M.dbig ob
    refine ⟨e, oe, fv, ⟨G', g, dr, tk', os⟩, _, .ref C, some d, rfl, J, fun b o q => ?_, ge, hoe, ⟨hc, hd⟩, hdat, h1, ?_, rfl, I1.bare, raises_own T.exC T.tyC, q1 d (I1.hok.fresh M.dbig)⟩
    · by_cases hb : b = e
      · have q' : G'.get? b = some o := q
        rw [hb, ge] at q'; cases q'
      · exact (gk b hb).symm.trans q
    · rw [upd_ne (Ne.symm M.dne)]
      exact I1.hok.fresh M.new
theorem pmk5_BadText {a : Expr} {ta : TA} {p pos : Pos} {k : Nat} (T : PySem.BadTextX.BadTextTxt X.K X.mg C fI) (hr : Room k X.A) (ha : PA X [a] ta) (hg : Gl X "BadText" := by rfl)
    (he : starEach (a :: []) X.env = (false, eval a X.env) :: starEach [] X.env := by rfl) (hpl : (backTo pos (starEach [] X.env)).any (·.1) = false := by rfl) :
    PMk6 X (.Call (.Name "BadText" p) [a] [] pos) (tMkBadText C ta) := by
  intro pins s σ H Q I h
  refine wpAny_Call_Name_kw (ld_glob I hg T.gC ?_)
  refine PySem.W.callWith_K (h₀ := X.base) I.ok.mod.kin T.kC (thn (ha.run pos pins s σ H _ I h) fun us s1 hh => ?_) he hpl
  obtain ⟨vs, H1, I1, r1, v, ev, q1⟩ := hh
  subst ev
  refine ⟨I1.kIn, ?_⟩
  cases r1 with
  | cons rv rn =>
    rename_i v' us'
    cases rn
    show wpAny _ _ (call (.ref C) [v']) _ _ _
    have hlim := I1.nolimit
    obtain ⟨hp, g, dr, tk, os⟩ := s1
    refine wpAny_call (PySem.BadTextX.made_BadText T I1.kIn hlim (by have := hr.dp; omega) fun h' tk' e d M => ?_)
    show MkP X pins σ Q (.ref e) ⟨h', g, dr, tk', os⟩ ∧ L2H.Six (.ref e) ⟨h', g, dr, tk', os⟩
    obtain ⟨oe, fv, hoe, hc, hd, hdat, h1, h6⟩ := M.obj
    have hns := M.ns
    obtain ⟨G', g1, g2⟩ := restrict h' fun b => decide (b ≠ e)
    have gk : ∀ b, b ≠ e → G'.get? b = h'.get? b := fun b hb => g1 b (decide_eq_true hb)
    have ge : G'.get? e = none := g2 e (by simp)
    have old : ∀ b o, hp.get? b = some o → G'.get? b = some o := fun b o q => (gk b (Nat.ne_of_lt (Nat.lt_of_lt_of_le (Heap.lt_size q) M.new))).trans (M.keep b o q)
    have ob : ObjOk X.prog X.w (upd H1 d (.xd [(("line" : Str), v)])) G' d (.xd [(("line" : Str), v)]) :=
      ⟨_, hns.at (fun o q => (gk d M.dne).trans q), fun f => relO_BadText rv f⟩
    have J : Inv X pins σ (upd H1 d (.xd [(("line" : Str), v)])) ⟨G', g, dr, tk', os⟩ := I1.laid (t' := tk') old M.dbig ob
    refine ⟨?_, fun a oe' vs' ea hg hdd => ?_⟩
    rotate_left
    · cases ea
      have hg' : h'.get? e = some oe' := hg
      rw [hoe] at hg'
      cases hg'
      rw [hdat] at hdd
      cases hdd
      exact h6
    refine ⟨e, oe, fv, ⟨G', g, dr, tk', os⟩, _, .ref C, some d, rfl, J, fun b o q => ?_, ge, hoe, ⟨hc, hd⟩, hdat, h1, ?_, rfl, I1.bare, raises_own T.exC T.tyC, q1 d (I1.hok.fresh M.dbig)⟩
    · by_cases hb : b = e
      · have q' : G'.get? b = some o := q
        rw [hb, ge] at q'; cases q'
      · exact (gk b hb).symm.trans q
    · rw [upd_ne (Ne.symm M.dne)]
      exact I1.hok.fresh M.new
/-- raise Low(e) -/
def tRaiseBadText (C : Addr) (W : WX) (ta : TA) : TS := fun _ σ H => tMkBadText C ta σ H fun cls d H' => W cls d σ H'
theorem ps_raiseBadText {a : Expr} {ta : TA} {W : WX} {p pos pos2 : Pos} {k : Nat} (hc : X.calm = true) (T : PySem.BadTextX.BadTextTxt X.K X.mg C fI) (hr : Room k X.A) (tk : Takes X W) (ha : PA X [a] ta) (hg : Gl X "BadText" := by rfl)
    (he : starEach (a :: []) X.env = (false, eval a X.env) :: starEach [] X.env := by rfl) (hpl : (backTo pos (starEach [] X.env)).any (·.1) = false := by rfl) :
    PS X (.Raise (some (.Call (.Name "BadText" p) [a] [] pos)) none pos2) (tRaiseBadText C W ta) := ps_raise hc tk (pmk_BadText T hr ha hg he hpl)
/-- low.by, low the exception that the suite holds (at a; its class cls, its dict d) -/
def tByBadText (C : Addr) (a : Addr) (cls : Value) (d : Option Addr) (te : TE) : TE := fun σ H Q => te σ H fun x H1 => x = .ref a ∧ cls = .ref C ∧ ∃ (dd : Addr) (v : V), d = some dd ∧ H1 dd = some (.xd [(("line" : Str), v)]) ∧ Q v H1
theorem pe_byBadText {a : Addr} {oe : Obj} {cls : Value} {d : Option Addr} {pn : List (Addr × Obj)} {e : Expr} {te : TE} {pos : Pos} (T : PySem.BadTextX.BadTextTxt X.K X.mg C fI) (hz : Zc cls d oe) (hf : ∃ vs, oe.data = .fields vs) (he : PE (X.suite a ((a, oe) :: pn)) e te)
    (hb : attributeBase e "line" X.env (eval e X.env) = eval e X.env := by rfl) :
    PE (X.suite a ((a, oe) :: pn)) (.Attribute e "line" pos) (tByBadText C a cls d te) := by
  refine ⟨fun pins s σ H Q I h => ?_⟩
  refine attr_of hb (thn (he.run pins s σ H _ I h) fun u s1 hh => ?_)
  obtain ⟨x, H1, I1, rx, ex, ec, dd, v, ed, ea, q⟩ := hh
  subst ex
  obtain rfl : u = Value.ref a := rx
  subst ec
  subst ed
  obtain ⟨ha, _⟩ := I1.pin (a, oe) (List.mem_append_left _ List.mem_cons_self)
  obtain ⟨vs, hd⟩ := hf
  have hx : ObjOk X.prog X.w H1 s1.heap dd (.xd [(("line" : Str), v)]) := I1.hok dd _ ea
  obtain ⟨mA, hns, hr⟩ := hx
  obtain ⟨od, ho, hl⟩ := lookIn_ns hns
  have l : List.lookup ("line" : Str) [(("line" : Str), v)] = some v := by simp [List.lookup]
  obtain ⟨u, hu, ru⟩ := RelO.some_of (v := v) (o := mA "line") (by rw [← l]; exact hr "line")
  have J : PySem.W.InstAt s1.heap a oe C (some od) := ⟨ha, hz.1, by unfold PySem.W.notCls; rw [hd] <;> rfl, by rw [hz.2]; exact ho⟩
  exact HandSPX.exc_get I1.kIn J T.ga T.gg T.exC (PySem.W.findObj_own T.hdC T.noN rfl (by rw [hl, hu])) (handed_of ru) ⟨v, H1, I1.tok _, ru, q⟩
end
end L2


namespace PySem
namespace BadNumberX
open PySem.W PySem.Calls PyProof.Rows PySem.HandSPX
/-! ### the text of __init__ -/
def iA (p1 p2 : Pos) : Arguments := { posonlyargs := [], args := [{ arg := "self", annotation := none, pos := p1 }, { arg := "name", annotation := none, pos := p2 }], vararg := none, kwonlyargs := [], kw_defaults := [], kwarg := none, defaults := [] }
def iB (q1 q2 q3 q4 : Pos) : List Stmt := [.Assign [.Attribute (.Name "self" q1) "name" q2] (.Name "name" q3) q4]
def iS : Scope := { kind := .function, names := [(PySem.Str.ofString "self", .local), (PySem.Str.ofString "name", .local)], isGenerator := false, isCoroutine := false, more := [] }
/-- what the written part says of Low, at C, and of its __init__, at fI -/
structure BadNumberTxt (K : Frag) (mg : Str → Option Value) (C fI : Addr) : Prop where
  gC : mg "BadNumber" = some (.ref C)
  cls : ∃ nm q N bs bm sn sub ab col dd k0 k1 k2 k3 k5, K.lookup C = some (excClassObj nm q C N bs bm true sn sub ab col dd k0 k1 k2 k3 k5 "ValueError.__new__") ∧ refsVE bm = true
  sa : findIn K (.ref C) "__setattr__" = some (some (.builtin "object.__setattr__"))
  ga : findIn K (.ref C) "__getattribute__" = some (some (.builtin "BaseException.__getattribute__"))
  gg : findIn K (.ref C) "__getattr__" = some none
  noN : findIn K (.ref C) "name" = some none
  iC : findIn K (.ref C) "__init__" = some (some (.ref fI))
  tC : typeIn K (.ref fI) = some (.type "function")
  kC : keepIn K (.ref C) = true
  exC : subIn K (.ref C) (.type "BaseException") = some true
  tyC : typeIn K (.ref C) = some (.type "type")
  hdC : hasDictIn K C = true
  te : exmOne K (.ref C) (.ref C) = some true
  fn : ∃ (oc : Value) (od : Option Addr) (kV doc pm : Value) (an : Option Addr) (cdv ct : Value) (osl : Array (Option Value)) (p1 p2 q1 q2 q3 q4 : Pos),
    K.lookup fI = some ⟨oc, od, .func (fnOf "__init__" "BadNumber.__init__" (iA p1 p2) (iB q1 q2 q3 q4) iS .none kV doc pm an cdv ct), osl⟩ ∧ codeIn K cdv "BadNumber.__init__" = true
theorem one_size (v : Value) : [v].length ≤ sizeLine := by
  rw [sizeLine_eq]
  exact (by decide : 1 ≤ 16777216)
theorem kept_but {K : Frag} {h h' : Heap} {x : Addr} (X : K.In h) (hx : K.lookup x = none) (k : ∀ b o, b ≠ x → h.get? b = some o → h'.get? b = some o) : K.In h' := fun a o e =>
  k a o (fun z => by rw [z, hx] at e; cases e) (X a o e)
theorem ldC {M : Model} {s : Shared} {name : Str} {scope : Scope} {L a : Addr} {cd : Value} {m : Str → Option Value} {x : Str} {pos : Pos} {v : Value} {Q : Value → Shared → Prop} {A : Around} {E : Value → Shared → Prop} (hn : s.heap.Ns L m) (hv : m x = some v) (h : Q v s)
    (hk : scope.kind = .function := by rfl) (hl : (envOfC name scope L a cd).kindOf x = some .local := by rfl) (hd : (x == ("__debug__" : Str)) = false := by decide) :
    wpAny M A (eval (.Name x pos) (envOfC name scope L a cd)) Q E s := wpAny_Name (wpAny_loadName_local hk hl hn hv h) hd
/-- what __init__ leaves of a fresh exception at x -/
structure InitEnd (h h' : Heap) (x C dx t1 : Addr) (v : Value) : Prop where
  keep : ∀ b o, b ≠ x → h.get? b = some o → h'.get? b = some o
  obj : h'.get? x = some { cls := .ref C, dict := some dx, data := .fields #[.ref t1, .none, .none, .none, .bool false, .none] }
  dbig : h.objs.size ≤ dx
  dne : dx ≠ x
  ns : h'.Ns1 dx (fun y => if y = "name" then some v else none)
/-- a made Low -/
structure OwnMade (h h' : Heap) (e C d : Addr) (v : Value) : Prop where
  keep : ∀ b o, h.get? b = some o → h'.get? b = some o
  new : h.objs.size ≤ e
  obj : ∃ oe vs, h'.get? e = some oe ∧ oe.cls = .ref C ∧ oe.dict = some d ∧ oe.data = .fields vs ∧ vs[1]? = some .none ∧ 4 < vs.size
  dbig : h.objs.size ≤ d
  dne : d ≠ e
  ns : h'.Ns1 d (fun y => if y = "name" then some v else none)
section
variable {prog : Program} {w : World} {A : Around} {E : Value → Shared → Prop} {R : Result → Shared → Prop} {s : Shared} {K : Frag} {mg : Str → Option Value} {C fI : Addr}
theorem init_BadNumber (T : BadNumberTxt K mg C fI) {x t0 : Addr} {v : Value} (X : K.In s.heap) (hlim : s.heap.NoLimit) (hx : s.heap.get? x = some (excO C t0)) (hnx : K.lookup x = none) (hroom : A.depth < recursionLimit)
    (hq : ∀ h' tk dx, InitEnd s.heap h' x C dx t0 v → R (.ok (.ret .none)) { s with heap := h', toks := tk }) :
    codeAny (model prog w) A (.call (.ref fI) ⟨[.ref x, v], []⟩) R s := by
  obtain ⟨oc, od, kV, doc, pm, an, cdv, ct, osl, p1, p2, q1, q2, q3, q4, ho, hcd⟩ := T.fn
  obtain ⟨nm, q, N, bs, bm, sn, sub, ab, col, dd, k0, k1, k2, k3, k5, hC, hbm⟩ := T.cls
  have hcl : clsIn K C = some { name := nm, bases := bs, mro := .ref C :: bm, ns := N, qualname := q, hasDict := true, slotNames := sn, subclasses := sub, abstract := ab, collection := col, hasDel := false } := by unfold clsIn; rw [hC] <;> rfl
  refine Att.call_fn (binds := [("self", .ref x), ("name", v)]) X hlim ho hcd hroom (BindsTo.of_eq (by first | rfl | with_unfolding_all rfl)) (by first | rfl | decide | with_unfolding_all rfl) (fun s₁ IC => ?_) rfl rfl rfl
  obtain ⟨h₁, tk₁, rfl⟩ := IC.toInCall.same
  have k : ∀ b o, s.heap.get? b = some o → h₁.get? b = some o := IC.toInCall.keep
  have hn := IC.toInCall.ns
  have hxL : s.heap.objs.size ≠ x := Nat.ne_of_gt (Heap.lt_size hx)
  have X₁ : K.In h₁ := X.keeps k
  have hx₁ := k _ _ hx
  -- self.by = by
  show wpAny _ _ (execs _ _) _ _ _
  refine wpAny_execs_cons (plainObj_wpAny_Assign_Attribute ?_)
  refine ldC (v := v) hn (by first | rfl | with_unfolding_all rfl | kernel_rfl) (ldC (v := .ref x) hn (by first | rfl | with_unfolding_all rfl | kernel_rfl) ?_)
  refine set_plain X₁ (ox := excO C t0) (od := none) ⟨hx₁, rfl, rfl, trivial⟩ T.sa ?_
  refine exc_osa X₁ hx₁ hcl (show refsVE (.ref C :: bm) = true from hbm) rfl T.noN (fun h₃ tk₃ dx k₃ dn dne hx₃ hn₃ => ?_)
  show wpAny _ _ (execs _ _) _ _ _
  have z : s.heap.objs.size < h₁.objs.size := hn.lt
  exact wpAny_execs_nil (hq h₃ tk₃ dx ⟨fun b o hb e => k₃ b o hb (k b o e), hx₃, Nat.le_of_lt (Nat.lt_of_lt_of_le z dn), dne, hn₃⟩)
theorem made_BadNumber (T : BadNumberTxt K mg C fI) {v : Value} (X : K.In s.heap) (hlim : s.heap.NoLimit) (hroom : A.depth + 1 < recursionLimit)
    (hq : ∀ h' tk e d, OwnMade s.heap h' e C d v → R (.ok (.ret (.ref e))) { s with heap := h', toks := tk }) :
    codeAny (model prog w) A (.call (.ref C) ⟨[v], []⟩) R s := by
  obtain ⟨nm, q, N, bs, bm, sn, sub, ab, col, dd, k0, k1, k2, k3, k5, hC, hbm⟩ := T.cls
  obtain ⟨hp, g, dr, tk, os⟩ := s
  have k : ∀ b o, hp.get? b = some o → ((hp.push (kdv_tup [v])).push (excO C hp.objs.size)).get? b = some o := fun b o e => Heap.get?_push_of_some _ (Heap.get?_push_of_some _ e)
  have hget : ((hp.push (kdv_tup [v])).push (excO C hp.objs.size)).get? (hp.objs.size + 1) = some (excO C hp.objs.size) := by heap_get
  have hnx : K.lookup (hp.objs.size + 1) = none := by
    cases e : K.lookup (hp.objs.size + 1) with
    | none => rfl
    | some o =>
      have z : hp.get? (hp.objs.size + 1) = some o := X _ _ e
      exact absurd (Nat.lt_of_succ_lt (Heap.lt_size z)) (Nat.lt_irrefl _)
  refine call_own F.excBase_ValueError (fun X => refsVE_contains X bm hbm) (X _ _ hC) (looks_findIn X T.iC) (fun self => bind_fn X self T.tC) (one_size v) ?_
  refine init_BadNumber (s := ⟨(hp.push (kdv_tup [v])).push (excO C hp.objs.size), g, dr, tk, os⟩) T (X.keeps k) (hlim.keeps k) hget hnx ?_ fun h' tk' dx ⟨k', hx, dn, dne, hns⟩ => ?_
  · show A.depth + 1 < recursionLimit
    exact hroom
  · have old : ∀ b o, hp.get? b = some o → h'.get? b = some o := fun b o e => k' b o (Nat.ne_of_lt (Nat.lt_succ_of_lt (Heap.lt_size e))) (k b o e)
    have z : hp.objs.size + 1 + 1 ≤ dx := by
      first
        | (simpa only [Heap.size_push] using dn)
        | exact dn
        | (have q := dn; rw [Heap.size_push, Heap.size_push] at q; exact q)
    exact ⟨rfl, hq h' tk' (hp.objs.size + 1) dx ⟨old, Nat.le_succ _, ⟨_, _, hx, rfl, rfl, rfl, rfl, (by show (4 : Nat) < 6; decide)⟩, Nat.le_trans (Nat.le_trans (Nat.le_succ _) (Nat.le_succ _)) z, dne, hns⟩⟩
end
end BadNumberX
end PySem
namespace L2
open PySem PySem.Spec PyProof.Rows
theorem relO_BadNumber {v : V} {v' : Value} (r : RelV v v') (f : Str) : RelO (List.lookup f [(("name" : Str), v)]) (if f = "name" then some v' else none) := by
  by_cases hw : f = "name"
  · subst hw
    rw [if_pos rfl]
    have q : List.lookup ("name" : Str) [(("name" : Str), v)] = some v := by simp [List.lookup]
    rw [q]
    exact r
  · rw [if_neg hw]
    have qw : (f == ("name" : Str)) = false := by simpa using hw
    have q2 : List.lookup f [(("name" : Str), v)] = none := by simp [List.lookup, qw]
    rw [q2]
    trivial
section
variable {X : Cx} {C fI : Addr}
/-- Low(e) -/
def tMkBadNumber (C : Addr) (ta : TA) : St → Hp → XK → Prop := fun σ H Q => ta σ H fun vs H1 => ∃ v, vs = [v] ∧ ∀ d, H1 d = none → Q (.ref C) (some d) (upd H1 d (.xd [(("name" : Str), v)]))
theorem pmk_BadNumber {a : Expr} {ta : TA} {p pos : Pos} {k : Nat} (T : PySem.BadNumberX.BadNumberTxt X.K X.mg C fI) (hr : Room k X.A) (ha : PA X [a] ta) (hg : Gl X "BadNumber" := by rfl)
    (he : starEach (a :: []) X.env = (false, eval a X.env) :: starEach [] X.env := by rfl) (hpl : (backTo pos (starEach [] X.env)).any (·.1) = false := by rfl) :
    PMk X (.Call (.Name "BadNumber" p) [a] [] pos) (tMkBadNumber C ta) := by
  intro pins s σ H Q I h
  refine wpAny_Call_Name_kw (ld_glob I hg T.gC ?_)
  refine PySem.W.callWith_K (h₀ := X.base) I.ok.mod.kin T.kC (thn (ha.run pos pins s σ H _ I h) fun us s1 hh => ?_) he hpl
  obtain ⟨vs, H1, I1, r1, v, ev, q1⟩ := hh
  subst ev
  refine ⟨I1.kIn, ?_⟩
  cases r1 with
  | cons rv rn =>
    rename_i v' us'
    cases rn
    show wpAny _ _ (call (.ref C) [v']) _ _ _
    have hlim := I1.nolimit
    obtain ⟨hp, g, dr, tk, os⟩ := s1
    refine wpAny_call (PySem.BadNumberX.made_BadNumber T I1.kIn hlim (by have := hr.dp; omega) fun h' tk' e d M => ?_)
    show MkP X pins σ Q (.ref e) ⟨h', g, dr, tk', os⟩
    obtain ⟨oe, fv, hoe, hc, hd, hdat, h1, _⟩ := M.obj
    have hns := M.ns
    obtain ⟨G', g1, g2⟩ := restrict h' fun b => decide (b ≠ e)
    have gk : ∀ b, b ≠ e → G'.get? b = h'.get? b := fun b hb => g1 b (decide_eq_true hb)
    have ge : G'.get? e = none := g2 e (by simp)
    have old : ∀ b o, hp.get? b = some o → G'.get? b = some o := fun b o q => (gk b (Nat.ne_of_lt (Nat.lt_of_lt_of_le (Heap.lt_size q) M.new))).trans (M.keep b o q)
    have ob : ObjOk X.prog X.w (upd H1 d (.xd [(("name" : Str), v)])) G' d (.xd [(("name" : Str), v)]) :=
      ⟨_, hns.at (fun o q => (gk d M.dne).trans q), fun f => relO_BadNumber rv f⟩
    have J : Inv X pins σ (upd H1 d (.xd [(("name" : Str), v)])) ⟨G', g, dr, tk', os⟩ := I1.laid (t' := tk') old M.dbig ob
    refine ⟨e, oe, fv, ⟨G', g, dr, tk', os⟩, _, .ref C, some d, rfl, J, fun b o q => ?_, ge, hoe, ⟨hc, hd⟩, hdat, h1, ?_, rfl, I1.bare, raises_own T.exC T.tyC, q1 d (I1.hok.fresh M.dbig)⟩
    · by_cases hb : b = e
      · have q' : G'.get? b = some o := q
        rw [hb, ge] at q'; cases q'
      · exact (gk b hb).symm.trans q
    · rw [upd_ne (Ne.symm M.dne)]
      exact I1.hok.fresh M.new
/-- raise Low(e) -/
def tRaiseBadNumber (C : Addr) (W : WX) (ta : TA) : TS := fun _ σ H => tMkBadNumber C ta σ H fun cls d H' => W cls d σ H'
theorem ps_raiseBadNumber {a : Expr} {ta : TA} {W : WX} {p pos pos2 : Pos} {k : Nat} (hc : X.calm = true) (T : PySem.BadNumberX.BadNumberTxt X.K X.mg C fI) (hr : Room k X.A) (tk : Takes X W) (ha : PA X [a] ta) (hg : Gl X "BadNumber" := by rfl)
    (he : starEach (a :: []) X.env = (false, eval a X.env) :: starEach [] X.env := by rfl) (hpl : (backTo pos (starEach [] X.env)).any (·.1) = false := by rfl) :
    PS X (.Raise (some (.Call (.Name "BadNumber" p) [a] [] pos)) none pos2) (tRaiseBadNumber C W ta) := ps_raise hc tk (pmk_BadNumber T hr ha hg he hpl)
/-- low.by, low the exception that the suite holds (at a; its class cls, its dict d) -/
def tByBadNumber (C : Addr) (a : Addr) (cls : Value) (d : Option Addr) (te : TE) : TE := fun σ H Q => te σ H fun x H1 => x = .ref a ∧ cls = .ref C ∧ ∃ (dd : Addr) (v : V), d = some dd ∧ H1 dd = some (.xd [(("name" : Str), v)]) ∧ Q v H1
theorem pe_byBadNumber {a : Addr} {oe : Obj} {cls : Value} {d : Option Addr} {pn : List (Addr × Obj)} {e : Expr} {te : TE} {pos : Pos} (T : PySem.BadNumberX.BadNumberTxt X.K X.mg C fI) (hz : Zc cls d oe) (hf : ∃ vs, oe.data = .fields vs) (he : PE (X.suite a ((a, oe) :: pn)) e te)
    (hb : attributeBase e "name" X.env (eval e X.env) = eval e X.env := by rfl) :
    PE (X.suite a ((a, oe) :: pn)) (.Attribute e "name" pos) (tByBadNumber C a cls d te) := by
  refine ⟨fun pins s σ H Q I h => ?_⟩
  refine attr_of hb (thn (he.run pins s σ H _ I h) fun u s1 hh => ?_)
  obtain ⟨x, H1, I1, rx, ex, ec, dd, v, ed, ea, q⟩ := hh
  subst ex
  obtain rfl : u = Value.ref a := rx
  subst ec
  subst ed
  obtain ⟨ha, _⟩ := I1.pin (a, oe) (List.mem_append_left _ List.mem_cons_self)
  obtain ⟨vs, hd⟩ := hf
  have hx : ObjOk X.prog X.w H1 s1.heap dd (.xd [(("name" : Str), v)]) := I1.hok dd _ ea
  obtain ⟨mA, hns, hr⟩ := hx
  obtain ⟨od, ho, hl⟩ := lookIn_ns hns
  have l : List.lookup ("name" : Str) [(("name" : Str), v)] = some v := by simp [List.lookup]
  obtain ⟨u, hu, ru⟩ := RelO.some_of (v := v) (o := mA "name") (by rw [← l]; exact hr "name")
  have J : PySem.W.InstAt s1.heap a oe C (some od) := ⟨ha, hz.1, by unfold PySem.W.notCls; rw [hd] <;> rfl, by rw [hz.2]; exact ho⟩
  exact HandSPX.exc_get I1.kIn J T.ga T.gg T.exC (PySem.W.findObj_own T.hdC T.noN rfl (by rw [hl, hu])) (handed_of ru) ⟨v, H1, I1.tok _, ru, q⟩
end
end L2


namespace PySem
namespace BadRunX
open PySem.W PySem.Calls PyProof.Rows PySem.HandSPX
/-! ### the text of __init__ -/
def iA (p1 p2 : Pos) : Arguments := { posonlyargs := [], args := [{ arg := "self", annotation := none, pos := p1 }, { arg := "place", annotation := none, pos := p2 }], vararg := none, kwonlyargs := [], kw_defaults := [], kwarg := none, defaults := [] }
def iB (q1 q2 q3 q4 : Pos) : List Stmt := [.Assign [.Attribute (.Name "self" q1) "place" q2] (.Name "place" q3) q4]
def iS : Scope := { kind := .function, names := [(PySem.Str.ofString "self", .local), (PySem.Str.ofString "place", .local)], isGenerator := false, isCoroutine := false, more := [] }
/-- what the written part says of Low, at C, and of its __init__, at fI -/
structure BadRunTxt (K : Frag) (mg : Str → Option Value) (C fI : Addr) : Prop where
  gC : mg "BadRun" = some (.ref C)
  cls : ∃ nm q N bs bm sn sub ab col dd k0 k1 k2 k3 k5, K.lookup C = some (excClassObj nm q C N bs bm true sn sub ab col dd k0 k1 k2 k3 k5 "ValueError.__new__") ∧ refsVE bm = true
  sa : findIn K (.ref C) "__setattr__" = some (some (.builtin "object.__setattr__"))
  ga : findIn K (.ref C) "__getattribute__" = some (some (.builtin "BaseException.__getattribute__"))
  gg : findIn K (.ref C) "__getattr__" = some none
  noN : findIn K (.ref C) "place" = some none
  iC : findIn K (.ref C) "__init__" = some (some (.ref fI))
  tC : typeIn K (.ref fI) = some (.type "function")
  kC : keepIn K (.ref C) = true
  exC : subIn K (.ref C) (.type "BaseException") = some true
  tyC : typeIn K (.ref C) = some (.type "type")
  hdC : hasDictIn K C = true
  te : exmOne K (.ref C) (.ref C) = some true
  fn : ∃ (oc : Value) (od : Option Addr) (kV doc pm : Value) (an : Option Addr) (cdv ct : Value) (osl : Array (Option Value)) (p1 p2 q1 q2 q3 q4 : Pos),
    K.lookup fI = some ⟨oc, od, .func (fnOf "__init__" "BadRun.__init__" (iA p1 p2) (iB q1 q2 q3 q4) iS .none kV doc pm an cdv ct), osl⟩ ∧ codeIn K cdv "BadRun.__init__" = true
theorem one_size (v : Value) : [v].length ≤ sizeLine := by
  rw [sizeLine_eq]
  exact (by decide : 1 ≤ 16777216)
theorem kept_but {K : Frag} {h h' : Heap} {x : Addr} (X : K.In h) (hx : K.lookup x = none) (k : ∀ b o, b ≠ x → h.get? b = some o → h'.get? b = some o) : K.In h' := fun a o e =>
  k a o (fun z => by rw [z, hx] at e; cases e) (X a o e)
theorem ldC {M : Model} {s : Shared} {name : Str} {scope : Scope} {L a : Addr} {cd : Value} {m : Str → Option Value} {x : Str} {pos : Pos} {v : Value} {Q : Value → Shared → Prop} {A : Around} {E : Value → Shared → Prop} (hn : s.heap.Ns L m) (hv : m x = some v) (h : Q v s)
    (hk : scope.kind = .function := by rfl) (hl : (envOfC name scope L a cd).kindOf x = some .local := by rfl) (hd : (x == ("__debug__" : Str)) = false := by decide) :
    wpAny M A (eval (.Name x pos) (envOfC name scope L a cd)) Q E s := wpAny_Name (wpAny_loadName_local hk hl hn hv h) hd
/-- what __init__ leaves of a fresh exception at x -/
structure InitEnd (h h' : Heap) (x C dx t1 : Addr) (v : Value) : Prop where
  keep : ∀ b o, b ≠ x → h.get? b = some o → h'.get? b = some o
  obj : h'.get? x = some { cls := .ref C, dict := some dx, data := .fields #[.ref t1, .none, .none, .none, .bool false, .none] }
  dbig : h.objs.size ≤ dx
  dne : dx ≠ x
  ns : h'.Ns1 dx (fun y => if y = "place" then some v else none)
/-- a made Low -/
structure OwnMade (h h' : Heap) (e C d : Addr) (v : Value) : Prop where
  keep : ∀ b o, h.get? b = some o → h'.get? b = some o
  new : h.objs.size ≤ e
  obj : ∃ oe vs, h'.get? e = some oe ∧ oe.cls = .ref C ∧ oe.dict = some d ∧ oe.data = .fields vs ∧ vs[1]? = some .none ∧ 4 < vs.size
  dbig : h.objs.size ≤ d
  dne : d ≠ e
  ns : h'.Ns1 d (fun y => if y = "place" then some v else none)
section
variable {prog : Program} {w : World} {A : Around} {E : Value → Shared → Prop} {R : Result → Shared → Prop} {s : Shared} {K : Frag} {mg : Str → Option Value} {C fI : Addr}
theorem init_BadRun (T : BadRunTxt K mg C fI) {x t0 : Addr} {v : Value} (X : K.In s.heap) (hlim : s.heap.NoLimit) (hx : s.heap.get? x = some (excO C t0)) (hnx : K.lookup x = none) (hroom : A.depth < recursionLimit)
    (hq : ∀ h' tk dx, InitEnd s.heap h' x C dx t0 v → R (.ok (.ret .none)) { s with heap := h', toks := tk }) :
    codeAny (model prog w) A (.call (.ref fI) ⟨[.ref x, v], []⟩) R s := by
  obtain ⟨oc, od, kV, doc, pm, an, cdv, ct, osl, p1, p2, q1, q2, q3, q4, ho, hcd⟩ := T.fn
  obtain ⟨nm, q, N, bs, bm, sn, sub, ab, col, dd, k0, k1, k2, k3, k5, hC, hbm⟩ := T.cls
  have hcl : clsIn K C = some { name := nm, bases := bs, mro := .ref C :: bm, ns := N, qualname := q, hasDict := true, slotNames := sn, subclasses := sub, abstract := ab, collection := col, hasDel := false } := by unfold clsIn; rw [hC] <;> rfl
  refine Att.call_fn (binds := [("self", .ref x), ("place", v)]) X hlim ho hcd hroom (BindsTo.of_eq (by first | rfl | with_unfolding_all rfl)) (by first | rfl | decide | with_unfolding_all rfl) (fun s₁ IC => ?_) rfl rfl rfl
  obtain ⟨h₁, tk₁, rfl⟩ := IC.toInCall.same
  have k : ∀ b o, s.heap.get? b = some o → h₁.get? b = some o := IC.toInCall.keep
  have hn := IC.toInCall.ns
  have hxL : s.heap.objs.size ≠ x := Nat.ne_of_gt (Heap.lt_size hx)
  have X₁ : K.In h₁ := X.keeps k
  have hx₁ := k _ _ hx
  -- self.by = by
  show wpAny _ _ (execs _ _) _ _ _
  refine wpAny_execs_cons (plainObj_wpAny_Assign_Attribute ?_)
  refine ldC (v := v) hn (by first | rfl | with_unfolding_all rfl | kernel_rfl) (ldC (v := .ref x) hn (by first | rfl | with_unfolding_all rfl | kernel_rfl) ?_)
  refine set_plain X₁ (ox := excO C t0) (od := none) ⟨hx₁, rfl, rfl, trivial⟩ T.sa ?_
  refine exc_osa X₁ hx₁ hcl (show refsVE (.ref C :: bm) = true from hbm) rfl T.noN (fun h₃ tk₃ dx k₃ dn dne hx₃ hn₃ => ?_)
  show wpAny _ _ (execs _ _) _ _ _
  have z : s.heap.objs.size < h₁.objs.size := hn.lt
  exact wpAny_execs_nil (hq h₃ tk₃ dx ⟨fun b o hb e => k₃ b o hb (k b o e), hx₃, Nat.le_of_lt (Nat.lt_of_lt_of_le z dn), dne, hn₃⟩)
theorem made_BadRun (T : BadRunTxt K mg C fI) {v : Value} (X : K.In s.heap) (hlim : s.heap.NoLimit) (hroom : A.depth + 1 < recursionLimit)
    (hq : ∀ h' tk e d, OwnMade s.heap h' e C d v → R (.ok (.ret (.ref e))) { s with heap := h', toks := tk }) :
    codeAny (model prog w) A (.call (.ref C) ⟨[v], []⟩) R s := by
  obtain ⟨nm, q, N, bs, bm, sn, sub, ab, col, dd, k0, k1, k2, k3, k5, hC, hbm⟩ := T.cls
  obtain ⟨hp, g, dr, tk, os⟩ := s
  have k : ∀ b o, hp.get? b = some o → ((hp.push (kdv_tup [v])).push (excO C hp.objs.size)).get? b = some o := fun b o e => Heap.get?_push_of_some _ (Heap.get?_push_of_some _ e)
  have hget : ((hp.push (kdv_tup [v])).push (excO C hp.objs.size)).get? (hp.objs.size + 1) = some (excO C hp.objs.size) := by heap_get
  have hnx : K.lookup (hp.objs.size + 1) = none := by
    cases e : K.lookup (hp.objs.size + 1) with
    | none => rfl
    | some o =>
      have z : hp.get? (hp.objs.size + 1) = some o := X _ _ e
      exact absurd (Nat.lt_of_succ_lt (Heap.lt_size z)) (Nat.lt_irrefl _)
  refine call_own F.excBase_ValueError (fun X => refsVE_contains X bm hbm) (X _ _ hC) (looks_findIn X T.iC) (fun self => bind_fn X self T.tC) (one_size v) ?_
  refine init_BadRun (s := ⟨(hp.push (kdv_tup [v])).push (excO C hp.objs.size), g, dr, tk, os⟩) T (X.keeps k) (hlim.keeps k) hget hnx ?_ fun h' tk' dx ⟨k', hx, dn, dne, hns⟩ => ?_
  · show A.depth + 1 < recursionLimit
    exact hroom
  · have old : ∀ b o, hp.get? b = some o → h'.get? b = some o := fun b o e => k' b o (Nat.ne_of_lt (Nat.lt_succ_of_lt (Heap.lt_size e))) (k b o e)
    have z : hp.objs.size + 1 + 1 ≤ dx := by
      first
        | (simpa only [Heap.size_push] using dn)
        | exact dn
        | (have q := dn; rw [Heap.size_push, Heap.size_push] at q; exact q)
    exact ⟨rfl, hq h' tk' (hp.objs.size + 1) dx ⟨old, Nat.le_succ _, ⟨_, _, hx, rfl, rfl, rfl, rfl, (by show (4 : Nat) < 6; decide)⟩, Nat.le_trans (Nat.le_trans (Nat.le_succ _) (Nat.le_succ _)) z, dne, hns⟩⟩
end
end BadRunX
end PySem
namespace L2
open PySem PySem.Spec PyProof.Rows
theorem relO_BadRun {v : V} {v' : Value} (r : RelV v v') (f : Str) : RelO (List.lookup f [(("place" : Str), v)]) (if f = "place" then some v' else none) := by
  by_cases hw : f = "place"
  · subst hw
    rw [if_pos rfl]
    have q : List.lookup ("place" : Str) [(("place" : Str), v)] = some v := by simp [List.lookup]
    rw [q]
    exact r
  · rw [if_neg hw]
    have qw : (f == ("place" : Str)) = false := by simpa using hw
    have q2 : List.lookup f [(("place" : Str), v)] = none := by simp [List.lookup, qw]
    rw [q2]
    trivial
section
variable {X : Cx} {C fI : Addr}
/-- Low(e) -/
def tMkBadRun (C : Addr) (ta : TA) : St → Hp → XK → Prop := fun σ H Q => ta σ H fun vs H1 => ∃ v, vs = [v] ∧ ∀ d, H1 d = none → Q (.ref C) (some d) (upd H1 d (.xd [(("place" : Str), v)]))
theorem pmk_BadRun {a : Expr} {ta : TA} {p pos : Pos} {k : Nat} (T : PySem.BadRunX.BadRunTxt X.K X.mg C fI) (hr : Room k X.A) (ha : PA X [a] ta) (hg : Gl X "BadRun" := by rfl)
    (he : starEach (a :: []) X.env = (false, eval a X.env) :: starEach [] X.env := by rfl) (hpl : (backTo pos (starEach [] X.env)).any (·.1) = false := by rfl) :
    PMk X (.Call (.Name "BadRun" p) [a] [] pos) (tMkBadRun C ta) := by
  intro pins s σ H Q I h
  refine wpAny_Call_Name_kw (ld_glob I hg T.gC ?_)
  refine PySem.W.callWith_K (h₀ := X.base) I.ok.mod.kin T.kC (thn (ha.run pos pins s σ H _ I h) fun us s1 hh => ?_) he hpl
  obtain ⟨vs, H1, I1, r1, v, ev, q1⟩ := hh
  subst ev
  refine ⟨I1.kIn, ?_⟩
  cases r1 with
  | cons rv rn =>
    rename_i v' us'
    cases rn
    show wpAny _ _ (call (.ref C) [v']) _ _ _
    have hlim := I1.nolimit
    obtain ⟨hp, g, dr, tk, os⟩ := s1
    refine wpAny_call (PySem.BadRunX.made_BadRun T I1.kIn hlim (by have := hr.dp; omega) fun h' tk' e d M => ?_)
    show MkP X pins σ Q (.ref e) ⟨h', g, dr, tk', os⟩
    obtain ⟨oe, fv, hoe, hc, hd, hdat, h1, _⟩ := M.obj
    have hns := M.ns
    obtain ⟨G', g1, g2⟩ := restrict h' fun b => decide (b ≠ e)
    have gk : ∀ b, b ≠ e → G'.get? b = h'.get? b := fun b hb => g1 b (decide_eq_true hb)
    have ge : G'.get? e = none := g2 e (by simp)
    have old : ∀ b o, hp.get? b = some o → G'.get? b = some o := fun b o q => (gk b (Nat.ne_of_lt (Nat.lt_of_lt_of_le (Heap.lt_size q) M.new))).trans (M.keep b o q)
    have ob : ObjOk X.prog X.w (upd H1 d (.xd [(("place" : Str), v)])) G' d (.xd [(("place" : Str), v)]) :=
      ⟨_, hns.at (fun o q => (gk d M.dne).trans q), fun f => relO_BadRun rv f⟩
    have J : Inv X pins σ (upd H1 d (.xd [(("place" : Str), v)])) ⟨G', g, dr, tk', os⟩ := I1.laid (t' := tk') old M.dbig ob
    refine ⟨e, oe, fv, ⟨G', g, dr, tk', os⟩, _, .ref C, some d, rfl, J, fun b o q => ?_, ge, hoe, ⟨hc, hd⟩, hdat, h1, ?_, rfl, I1.bare, raises_own T.exC T.tyC, q1 d (I1.hok.fresh M.dbig)⟩
    · by_cases hb : b = e
      · have q' : G'.get? b = some o := q
        rw [hb, ge] at q'; cases q'
      · exact (gk b hb).symm.trans q
    · rw [upd_ne (Ne.symm M.dne)]
      exact I1.hok.fresh M.new
/-- raise Low(e) -/
def tRaiseBadRun (C : Addr) (W : WX) (ta : TA) : TS := fun _ σ H => tMkBadRun C ta σ H fun cls d H' => W cls d σ H'
theorem ps_raiseBadRun {a : Expr} {ta : TA} {W : WX} {p pos pos2 : Pos} {k : Nat} (hc : X.calm = true) (T : PySem.BadRunX.BadRunTxt X.K X.mg C fI) (hr : Room k X.A) (tk : Takes X W) (ha : PA X [a] ta) (hg : Gl X "BadRun" := by rfl)
    (he : starEach (a :: []) X.env = (false, eval a X.env) :: starEach [] X.env := by rfl) (hpl : (backTo pos (starEach [] X.env)).any (·.1) = false := by rfl) :
    PS X (.Raise (some (.Call (.Name "BadRun" p) [a] [] pos)) none pos2) (tRaiseBadRun C W ta) := ps_raise hc tk (pmk_BadRun T hr ha hg he hpl)
/-- low.by, low the exception that the suite holds (at a; its class cls, its dict d) -/
def tByBadRun (C : Addr) (a : Addr) (cls : Value) (d : Option Addr) (te : TE) : TE := fun σ H Q => te σ H fun x H1 => x = .ref a ∧ cls = .ref C ∧ ∃ (dd : Addr) (v : V), d = some dd ∧ H1 dd = some (.xd [(("place" : Str), v)]) ∧ Q v H1
theorem pe_byBadRun {a : Addr} {oe : Obj} {cls : Value} {d : Option Addr} {pn : List (Addr × Obj)} {e : Expr} {te : TE} {pos : Pos} (T : PySem.BadRunX.BadRunTxt X.K X.mg C fI) (hz : Zc cls d oe) (hf : ∃ vs, oe.data = .fields vs) (he : PE (X.suite a ((a, oe) :: pn)) e te)
    (hb : attributeBase e "place" X.env (eval e X.env) = eval e X.env := by rfl) :
    PE (X.suite a ((a, oe) :: pn)) (.Attribute e "place" pos) (tByBadRun C a cls d te) := by
  refine ⟨fun pins s σ H Q I h => ?_⟩
  refine attr_of hb (thn (he.run pins s σ H _ I h) fun u s1 hh => ?_)
  obtain ⟨x, H1, I1, rx, ex, ec, dd, v, ed, ea, q⟩ := hh
  subst ex
  obtain rfl : u = Value.ref a := rx
  subst ec
  subst ed
  obtain ⟨ha, _⟩ := I1.pin (a, oe) (List.mem_append_left _ List.mem_cons_self)
  obtain ⟨vs, hd⟩ := hf
  have hx : ObjOk X.prog X.w H1 s1.heap dd (.xd [(("place" : Str), v)]) := I1.hok dd _ ea
  obtain ⟨mA, hns, hr⟩ := hx
  obtain ⟨od, ho, hl⟩ := lookIn_ns hns
  have l : List.lookup ("place" : Str) [(("place" : Str), v)] = some v := by simp [List.lookup]
  obtain ⟨u, hu, ru⟩ := RelO.some_of (v := v) (o := mA "place") (by rw [← l]; exact hr "place")
  have J : PySem.W.InstAt s1.heap a oe C (some od) := ⟨ha, hz.1, by unfold PySem.W.notCls; rw [hd] <;> rfl, by rw [hz.2]; exact ho⟩
  exact HandSPX.exc_get I1.kIn J T.ga T.gg T.exC (PySem.W.findObj_own T.hdC T.noN rfl (by rw [hl, hu])) (handed_of ru) ⟨v, H1, I1.tok _, ru, q⟩
end
end L2



namespace L2
open PySem PySem.Spec PyProof.Rows HotX
/-- an argument that makes nothing -/
def Plain1 (X : Cx) (a : Expr) (t : St → Prop) : Prop := ∀ (pins : List (Addr × Obj)) (s : Shared) (σ : St) (H : Hp) (Q : Value → Shared → Prop), Inv X pins σ H s → t σ → (∀ u tk, Q u { s with toks := tk }) → wpAny (model X.prog X.w) X.A (eval a X.env) Q X.xe s
theorem plain_str {X : Cx} {x : Str} {j pos} : Plain1 X (.Constant (.str x) j pos) (fun _ => True) := fun _ _ _ _ _ _ _ h => Calls.Constant_str (h _ _)
theorem plain_var {X : Cx} {i : Nat} {x : Str} {pos : Pos} (hN : X.N[i]? = some x) (hv : Vis X.env.scope x) (hd : (x == ("__debug__" : Str)) = false := by decide) (hcd : (x == ("__classdict__" : Str)) = false := by decide) :
    Plain1 X (.Name x pos) (fun σ => ∃ v, σ[i]? = some (some v)) := by
  intro pins s σ H Q I ⟨v, e⟩ h
  obtain ⟨m, hn, hl⟩ := I.loc
  obtain ⟨u, r, l⟩ := hl i x v hN e hv
  rcases l with ⟨hk, hm⟩ | ⟨hk, c, hc, hcell⟩
  · exact wpAny_Name (wpAny_loadName_local I.ok.kind hk hn hm (h u s.toks)) hd
  · rcases hk with hk | hk
    · exact wpAny_Name (wpAny_loadName_cell I.ok.kind hk hc hcell (h u s.toks)) hd
    · exact wpAny_Name (wpAny_loadName_free I.ok.kind hk hc hcell (h u s.toks) hcd) hd
/-- an expression that makes an exception; all that stood stands -/
def Caus (X : Cx) (c : Expr) (t : St → Prop) : Prop := ∀ (pins : List (Addr × Obj)) (s : Shared) (σ : St) (H : Hp) (Q : Value → Shared → Prop), Inv X pins σ H s → t σ →
  (∀ (h' : Heap) (tk : Nat) (b : Addr) (ob : Obj) (cls : Value) (vs : Array Value), (∀ a o, s.heap.get? a = some o → h'.get? a = some o) → h'.get? b = some ob → ob.cls = cls → ob.data = .fields vs → Raises X cls → Q (.ref b) { s with heap := h', toks := tk }) →
  wpAny (model X.prog X.w) X.A (eval c X.env) Q X.xe s

theorem caus_BadNumber {X : Cx} {C fI : Addr} {a : Expr} {ta : St → Prop} {p pos : Pos} {k : Nat} (T : PySem.BadNumberX.BadNumberTxt X.K X.mg C fI) (hr : Room k X.A) (ha : Plain1 X a ta) (hg : Gl X "BadNumber" := by rfl)
    (he : starEach (a :: []) X.env = (false, eval a X.env) :: starEach [] X.env := by rfl) (hpl : (backTo pos (starEach [] X.env)).any (·.1) = false := by rfl) :
    Caus X (.Call (.Name "BadNumber" p) [a] [] pos) ta := by
  intro pins s σ H Q I h hq
  refine wpAny_Call_Name_kw (ld_glob I hg T.gC ?_)
  refine PySem.W.callWith_K (h₀ := X.base) I.ok.mod.kin T.kC ?_ he hpl
  rw [he]
  show wpAny _ _ (spliced ((false, eval a X.env) :: backTo pos (starEach [] X.env))) _ _ s
  refine Calls.spliced_cons (ha pins s σ H _ I h fun u tk => ?_)
  refine PySem.Calls.spliced_nil ?_
  have I2 : Inv X pins σ H { s with toks := tk } := I.tok tk
  refine ⟨I2.kIn, wpAny_call (PySem.BadNumberX.made_BadNumber (s := { s with toks := tk }) T I2.kIn I2.nolimit (by have := hr.dp; omega) fun h' tk' e d M => ?_)⟩
  obtain ⟨oe, fv, hoe, hc, hd, hdat, h1, _⟩ := M.obj
  exact hq h' tk' e oe (.ref C) fv M.keep hoe hc hdat (raises_own T.exC T.tyC)

theorem caus_BadRun {X : Cx} {C fI : Addr} {a : Expr} {ta : St → Prop} {p pos : Pos} {k : Nat} (T : PySem.BadRunX.BadRunTxt X.K X.mg C fI) (hr : Room k X.A) (ha : Plain1 X a ta) (hg : Gl X "BadRun" := by rfl)
    (he : starEach (a :: []) X.env = (false, eval a X.env) :: starEach [] X.env := by rfl) (hpl : (backTo pos (starEach [] X.env)).any (·.1) = false := by rfl) :
    Caus X (.Call (.Name "BadRun" p) [a] [] pos) ta := by
  intro pins s σ H Q I h hq
  refine wpAny_Call_Name_kw (ld_glob I hg T.gC ?_)
  refine PySem.W.callWith_K (h₀ := X.base) I.ok.mod.kin T.kC ?_ he hpl
  rw [he]
  show wpAny _ _ (spliced ((false, eval a X.env) :: backTo pos (starEach [] X.env))) _ _ s
  refine Calls.spliced_cons (ha pins s σ H _ I h fun u tk => ?_)
  refine PySem.Calls.spliced_nil ?_
  have I2 : Inv X pins σ H { s with toks := tk } := I.tok tk
  refine ⟨I2.kIn, wpAny_call (PySem.BadRunX.made_BadRun (s := { s with toks := tk }) T I2.kIn I2.nolimit (by have := hr.dp; omega) fun h' tk' e d M => ?_)⟩
  obtain ⟨oe, fv, hoe, hc, hd, hdat, h1, _⟩ := M.obj
  exact hq h' tk' e oe (.ref C) fv M.keep hoe hc hdat (raises_own T.exC T.tyC)

/-- the heap behind «from c» -/
def causeIn (h : Heap) (a : Addr) (c : Value) : Heap := (h.update a (Obj.mapFields (·.setIfInBounds 3 c))).update a (Obj.mapFields (·.setIfInBounds 4 (.bool true)))
theorem causeIn_at {h : Heap} {a : Addr} {c : Value} {oe : Obj} {vs : Array Value} (ha : h.get? a = some oe) (hd : oe.data = .fields vs) :
    (causeIn h a c).get? a = some ((oe.mapFields (·.setIfInBounds 3 c)).mapFields (·.setIfInBounds 4 (.bool true))) ∧ ((oe.mapFields (·.setIfInBounds 3 c)).mapFields (·.setIfInBounds 4 (.bool true))).data = .fields ((vs.setIfInBounds 3 c).setIfInBounds 4 (.bool true)) := by
  have hd3 := Obj.data_mapFields hd (·.setIfInBounds 3 c)
  have ha3 := Heap.get?_update_self (Obj.mapFields (·.setIfInBounds 3 c)) ha (Obj.isFreed_of_fields hd3)
  have hd4 := Obj.data_mapFields hd3 (·.setIfInBounds 4 (.bool true))
  exact ⟨Heap.get?_update_self (Obj.mapFields (·.setIfInBounds 4 (.bool true))) ha3 (Obj.isFreed_of_fields hd4), hd4⟩
theorem causeIn_other {h : Heap} {a b : Addr} {c : Value} (hne : a ≠ b) : (causeIn h a c).get? b = h.get? b := by
  unfold causeIn
  rw [Heap.get?_update_other _ _ hne, Heap.get?_update_other _ _ hne]
theorem raise_made_from {M : Model} {A : Around} {E : Value → Shared → Prop} {env : Env} {s : Shared} {x c : Sem Value} {Q : Flow → Shared → Prop} (hh : A.handled = none)
    (h : wpAny M A x (fun v s₁ => wpAny M A c (fun cv s₂ => ∃ a oe vs cls b ob cls2 ws, v = .ref a ∧ cv = .ref b ∧ s₂.heap.get? a = some oe ∧ oe.cls = cls ∧ oe.data = .fields vs ∧ vs[1]? = some .none ∧ 4 < vs.size ∧
      s₂.heap.get? b = some ob ∧ ob.cls = cls2 ∧ ob.data = .fields ws ∧
      PySem.W.Looks M s₂.heap (isSubtype cls (.type "BaseException")) true ∧ PySem.W.Looks M (causeIn s₂.heap a cv) (typeOf cls) (.type "type") ∧ PySem.W.Looks M s₂.heap (isSubtype cls2 (.type "BaseException")) true ∧ E (.ref a) { s₂ with heap := causeIn s₂.heap a cv }) E s₁) E s) :
    wpAny M A (raiseStmt env (some x) (some c)) Q E s := by
  unfold raiseStmt
  dsimp only
  refine wpAny_bind (wpAny_mono h (fun v s₁ h₁ => ?_) fun _ _ x => x)
  refine wpAny_bind (wpAny_holding (wpAny_mono h₁ (fun cv s₂ h₂ => ?_) fun _ _ x => x))
  obtain ⟨a, oe, vs, cls, b, ob, cls2, ws, rfl, rfl, ha, hcls, hd, h1, hi, hb, hcls2, hd2, L1, L3, L2', hE⟩ := h₂
  have LT : PySem.W.Looks M s₂.heap (typeOf (.ref a)) cls := fun A Q E s k q => wpAny_typeOf_ref (k _ _ ha) (by rw [hcls]; exact q)
  have LI : PySem.W.Looks M s₂.heap (isInstance (.ref a) (.type "BaseException")) true := LT.andThen L1
  have LTb : PySem.W.Looks M s₂.heap (typeOf (.ref b)) cls2 := fun A Q E s k q => wpAny_typeOf_ref (k _ _ hb) (by rw [hcls2]; exact q)
  have LIb : PySem.W.Looks M s₂.heap (isInstance (.ref b) (.type "BaseException")) true := LTb.andThen L2'
  have hnt : ∀ {Q' : Bool → Shared → Prop}, Q' false s₂ → wpAny M A (isType (.ref a)) Q' E s₂ := by
    intro Q' hq
    simp only [isType, loadHead]
    refine wpAny_bind (wpAny_loadPart ha ?_)
    rw [hd]; exact wpAny_pure hq
  have hntb : ∀ {Q' : Bool → Shared → Prop}, Q' false s₂ → wpAny M A (isType (.ref b)) Q' E s₂ := by
    intro Q' hq
    simp only [isType, loadHead]
    refine wpAny_bind (wpAny_loadPart hb ?_)
    rw [hd2]; exact wpAny_pure hq
  have hd3 := Obj.data_mapFields hd (·.setIfInBounds 3 (.ref b))
  have ha3 := Heap.get?_update_self (Obj.mapFields (·.setIfInBounds 3 (.ref b))) ha (Obj.isFreed_of_fields hd3)
  obtain ⟨ha4, hd4⟩ := causeIn_at (c := .ref b) ha hd
  have s3 : 3 < vs.size := by omega
  have s4 : 4 < (vs.setIfInBounds 3 (Value.ref b)).size := by rw [set_size]; exact hi
  have h14 : ((vs.setIfInBounds 3 (Value.ref b)).setIfInBounds 4 (Value.bool true))[1]? = some Value.none := set_other (by decide) (set_other (by decide) h1)
  have hcls4 : ((oe.mapFields (·.setIfInBounds 3 (.ref b))).mapFields (·.setIfInBounds 4 (.bool true))).cls = cls := by rw [Obj.cls_mapFields, Obj.cls_mapFields]; exact hcls
  have LT4 : PySem.W.Looks M (causeIn s₂.heap a (.ref b)) (typeOf (.ref a)) cls := fun A Q E s k q => wpAny_typeOf_ref (k _ _ ha4) (by rw [hcls4]; exact q)
  have hnt4 : ∀ {Q' : Bool → Shared → Prop}, Q' false { s₂ with heap := causeIn s₂.heap a (.ref b) } → wpAny M A (isType (.ref a)) Q' E { s₂ with heap := causeIn s₂.heap a (.ref b) } := by
    intro Q' hq
    simp only [isType, loadHead]
    refine wpAny_bind (wpAny_loadPart ha4 ?_)
    rw [hd4]; exact wpAny_pure hq
  have rest : wpAny M A (do
      let b ← isType (.ref a)
      if b = true then do
        let e ← holding [.ref a] (raisedFor (.ref a) (.ref a))
        setFlight e none
        raiseNew e
      else do
        let e ← raisedInstance (.ref a)
        setFlight e none
        raiseNew e : Sem Flow) Q E { s₂ with heap := causeIn s₂.heap a (.ref b) } := by
    refine wpAny_bind (hnt4 ?_)
    simp only [Bool.false_eq_true, if_false]
    unfold raisedInstance
    refine wpAny_bind (wpAny_bind (LT4.here (wpAny_bind (L3.here ?_))))
    rw [if_pos (beq_self_eq_true _)]
    refine wpAny_pure ?_
    unfold setFlight raiseNew
    refine wpAny_bind (wpAny_bind (wpAny_field ha4 hd4 h14 ?_))
    rw [if_neg (by decide)]
    refine wpAny_pure (wpAny_bind (wpAny_handled ?_))
    rw [hh]
    first
      | exact wpAny_throw hE
      | exact wpAny_bind (wpAny_pure (wpAny_throw hE))
  refine wpAny_bind (wpAny_pure ?_)
  dsimp only
  refine wpAny_bind (wpAny_holding ?_)
  unfold excFromValue isExcClass
  refine wpAny_bind (wpAny_bind (hnt ?_))
  simp only [Bool.false_eq_true, if_false]
  refine wpAny_pure ?_
  simp only [Bool.false_eq_true, if_false]
  refine wpAny_bind (LI.here ?_)
  simp only [if_true]
  refine wpAny_pure ?_
  rw [if_neg (show ¬ ((Value.ref b == Value.none) = true) from Bool.false_ne_true)]
  refine wpAny_bind (wpAny_holding ?_)
  refine wpAny_bind (wpAny_bind (hntb ?_))
  simp only [Bool.false_eq_true, if_false]
  refine wpAny_pure ?_
  simp only [Bool.false_eq_true, if_false]
  refine wpAny_bind (LIb.here ?_)
  simp only [if_true]
  refine wpAny_pure ?_
  refine wpAny_bind (wpAny_setField ha hd s3 (wpAny_bind (wpAny_setField ha3 hd3 s4 ?_)))
  exact rest
/-- raise X(..) from Y(..) -/
theorem ps_raiseFrom {X : Cx} {W : WX} {e c : Expr} {t : St → Hp → XK → Prop} {tc : St → Prop} {pos : Pos} (hc : X.calm = true) (tk : Takes X W) (he : PMk6 X e t) (hcs : Caus X c tc) :
    PS X (.Raise (some e) (some c) pos) (fun _ σ H => tc σ ∧ t σ H fun cls d H' => W cls d σ H') := by
  refine ⟨fun pins s σ H D I h => ?_⟩
  obtain ⟨h0, h⟩ := h
  show wpAny _ _ (do standAt pos; raiseStmt X.env (some (do let v ← eval e X.env; standAt pos; pure v)) (some (do let v ← eval c X.env; standAt pos; pure v))) _ _ _
  refine wpAny_bind (wpAny_standAt (raise_made_from (I.ok.hd hc) (wpAny_bind (wpAny_mono (he pins s σ H _ I h) (fun u s1 hu => wpAny_bind (wpAny_standAt (wpAny_pure ?_))) fun _ _ x => x))))
  obtain ⟨⟨a, oe, vs, sI, H', cls, d, rfl, J, k, hne, ha, hz, hd, h1, na, os, ag, r, q⟩, h5⟩ := hu
  have hi : 4 < vs.size := h5 a oe vs rfl ha hd
  have J1 : Inv X pins σ H' s1 := by
    obtain ⟨hh, g, dr, tk', os'⟩ := s1
    obtain rfl : os' = sI.os := os
    exact J.call (h' := hh) (g' := g) (t' := tk') (d' := dr) (ch := []) (Un.kept k) (J.hok.kept k) ag (fun b z => absurd z (by simp))
  refine wpAny_bind (wpAny_mono (hcs pins s1 σ H' (fun cv s2 => ∃ a' oe' vs' cls' b ob cls2 ws, Value.ref a = .ref a' ∧ cv = .ref b ∧ s2.heap.get? a' = some oe' ∧ oe'.cls = cls' ∧ oe'.data = .fields vs' ∧ vs'[1]? = some .none ∧ 4 < vs'.size ∧
      s2.heap.get? b = some ob ∧ ob.cls = cls2 ∧ ob.data = .fields ws ∧
      PySem.W.Looks (model X.prog X.w) s2.heap (isSubtype cls' (.type "BaseException")) true ∧ PySem.W.Looks (model X.prog X.w) (causeIn s2.heap a' cv) (typeOf cls') (.type "type") ∧ PySem.W.Looks (model X.prog X.w) s2.heap (isSubtype cls2 (.type "BaseException")) true ∧ X.xe (.ref a') { s2 with heap := causeIn s2.heap a' cv }) J1 h0 fun h' tk' b ob cls2 ws k2 hb hcl hw r2 => ?_) (fun u s1 hu => wpAny_bind (wpAny_standAt (wpAny_pure hu))) fun _ _ x => x)
  have ha2 := k2 _ _ ha
  have kk : ∀ y u, sI.heap.get? y = some u → (causeIn h' a (.ref b)).get? y = some u := fun y u z => by
    have nay : a ≠ y := fun e => by
      rw [← e, hne] at z
      cases z
    rw [causeIn_other nay]
    exact k2 _ _ (k y u z)
  obtain ⟨r3, _⟩ := r (model X.prog X.w) h' (J1.kIn.keeps k2)
  obtain ⟨_, r4⟩ := r (model X.prog X.w) (causeIn h' a (.ref b)) (J.kIn.keeps kk)
  obtain ⟨r5, _⟩ := r2 (model X.prog X.w) h' (J1.kIn.keeps k2)
  obtain ⟨ha4, hd4⟩ := causeIn_at (c := .ref b) ha2 hd
  refine ⟨a, oe, vs, cls, b, ob, cls2, ws, rfl, rfl, ha2, hz.1, hd, h1, hi, hb, hcl, hw, r3, r4, r5, tk _ _ (XE.new (s' := { s1 with heap := causeIn h' a (.ref b), toks := tk' }) J kk hne ha4 ⟨?_, ?_⟩ hd4 (set_other (by decide) (set_other (by decide) h1)) na os ag q)⟩
  · rw [Obj.cls_mapFields, Obj.cls_mapFields]
    exact hz.1
  · rw [HandSPX.dict_mapFields, HandSPX.dict_mapFields]
    exact hz.2
end L2


set_option Elab.async false
set_option linter.all false
set_option maxRecDepth 100000
set_option maxHeartbeats 4000000
/-! a == b by an own __eq__ that answers True or False; len(a) by an own __len__. -/
namespace L2
open PySem PySem.Spec PyProof.Rows
section
variable {X : Cx} {k : Nat} {f C : Addr} {fd : FuncData} {ps : List Str} {sp : Sp} {E : XK}
/-- a == b, a of the class C whose __eq__ is the def at f -/
def rOwnEq (K : PySem.W.Frag) (C : Addr) (sp : Sp) : R2 := fun x y H Q => ∃ a b C' dx dy fs gs, x = .ref a ∧ y = .ref b ∧ H a = some (.ins C dx fs) ∧ H b = some (.ins C' dy gs) ∧ PySem.W.notFirst K C (.ref C') = true ∧
  sp [.ref a, .ref b] H (fun v H' => ∃ t, v = .bl t ∧ Q (.bl t) H') E0
theorem op_ownEq (F : FnOk X.prog X.w X.K X.mg X.base CX0 k f fd ps sp) (hs : PySem.W.findIn X.K (.ref C) "__eq__" = some (some (.ref f))) (hf : PySem.W.isFn X.K (.ref f) = true) (hb : Binds X.K fd ps []) (hr : Room k X.A) :
    OpR X (compareOp .Eq) (rOwnEq X.K C sp) := by
  intro pins s σ H x y v u Q I rx ry hq
  obtain ⟨a, b, C', dx, dy, fs, gs, rfl, rfl, ha, hb', hn, hsp⟩ := hq
  cases rx
  cases ry
  obtain ⟨mA, J, _⟩ := ins_get I.hok ha
  obtain ⟨mB, J', _⟩ := ins_get I.hok hb'
  obtain ⟨od, J, _⟩ := J.look
  obtain ⟨od', J', _⟩ := J'.look
  obtain ⟨m, hF⟩ := I.fr
  show wpAny (model X.prog X.w) X.A (richCompare .Eq (.ref a) (.ref b)) (EP X pins σ Q) X.xe s
  refine PySem.W.cmp_K (op := .Eq) (tb := .ref C') hr.units0 hF I.ok.mod.kin J J'.type hn hs hf ?_
  have r2 : Vals [V.ref a, V.ref b] [Value.ref a, Value.ref b] := .cons rfl (.cons rfl .nil)
  refine wpAny_mono (run_fn (Q := fun v H' => ∃ t, v = .bl t ∧ Q (.bl t) H') (us := [.ref a, .ref b]) (vs := [.ref a, .ref b]) (dvs := []) F hr hb .nil pass0 I r2 hsp) (fun w s' hz => ?_) fun _ _ z => z
  obtain ⟨z, H', I', rz, t, ez, q⟩ := hz
  subst ez
  cases rz
  exact ⟨.bl t, H', I', rfl, q⟩
/-- len(a), a of the class C whose __len__ is the def at f -/
def rOwnLen (C : Addr) (sp : Sp) : List V → Hp → VK → Prop := fun xs H Q => ∃ a dx fs, xs = [.ref a] ∧ H a = some (.ins C dx fs) ∧ sp [.ref a] H (fun v H' => ∃ n : Nat, v = .int n ∧ n ≤ 16777216 ∧ Q (.int n) H') E0
theorem call_lenOwn (F : FnOk X.prog X.w X.K X.mg X.base CX0 k f fd ps sp) (hs : PySem.W.findIn X.K (.ref C) "__len__" = some (some (.ref f))) (hf : PySem.W.isFn X.K (.ref f) = true) (hb : Binds X.K fd ps []) (hr : Room (k + 1) X.A) :
    CallR X (.builtin "len") (rOwnLen C sp) := by
  intro pins s σ H xs us Q I r hq
  obtain ⟨a, dx, fs, rfl, ha, hsp⟩ := hq
  obtain ⟨u, rfl, rx⟩ := vals1 r
  cases rx
  obtain ⟨mA, J, _⟩ := ins_get I.hok ha
  obtain ⟨od, J, _⟩ := J.look
  obtain ⟨m, hF⟩ := I.fr
  refine PySem.W.len_K hF I.ok.mod.kin J hs hf ?_
  have r2 : Vals [V.ref a] [Value.ref a] := .cons rfl .nil
  have hl := F.len _ _ _ _ hsp
  refine wpAny_call (codeAny_mono (F.run X.A.in1 X.stack s H ⟨[.ref a], []⟩ [.ref a] [.ref a] _ E0 hr.in1 I.env0.in1 (by
    have := hb s [.ref a] I.kIn (by simpa using hl)
    simpa using this) r2 hsp) fun r s' hq => ?_)
  cases r with
  | error e => exact hq.elim
  | ok fl =>
    cases fl with
    | ret w =>
      obtain ⟨z, H', I', rz, n, ez, hn, q⟩ := I.after hq
      subst ez
      obtain ⟨t, rfl⟩ := rz
      exact ⟨⟨by omega, by omega⟩, .int n, H', I'.tok _, ⟨_, rfl⟩, q⟩
    | next => exact False.elim hq
    | brk => exact False.elim hq
    | cont => exact False.elim hq
end
end L2


set_option Elab.async false
set_option linter.all false
set_option maxRecDepth 100000
set_option maxHeartbeats 4000000
namespace K01
open PySem PySem.Spec PyProof.Rows L2
def top (i : Nat) : Stmt := PySem.Challenge.pw_keptparts_k01_texts_and_back.main.body.getD i (.Pass ⟨0, 0, 0, 0⟩)
abbrev s__wall : Stmt := top 0
abbrev s_BadNumber___init__ : Stmt := inClass (top 3) 0
abbrev s_BadRun___init__ : Stmt := inClass (top 4) 0
abbrev s_BadSet___init__ : Stmt := inClass (top 5) 0
abbrev s_NotJoin___init__ : Stmt := inClass (top 6) 0
abbrev s_BadText___init__ : Stmt := inClass (top 7) 0
abbrev s_is_whole : Stmt := top 9
abbrev s_is_within : Stmt := top 10
abbrev s_is_count : Stmt := top 11
abbrev s_is_row : Stmt := top 12
abbrev s_is_pair : Stmt := top 13
abbrev s_is_run : Stmt := top 14
abbrev s_first_wrong : Stmt := top 15
abbrev s_set_of : Stmt := top 17
abbrev s_both : Stmt := top 18
abbrev s_Market___init__ : Stmt := inClass (top 21) 1
abbrev s_Market_many : Stmt := inClass (top 21) 2
abbrev s_Market_there : Stmt := inClass (top 21) 3
abbrev s_Market_run_of : Stmt := inClass (top 21) 4
abbrev s_Market_parts_over : Stmt := inClass (top 21) 5
abbrev s_Market___len__ : Stmt := inClass (top 21) 6
abbrev s_Market___iter__ : Stmt := inClass (top 21) 7
abbrev s_Market___contains__ : Stmt := inClass (top 21) 8
abbrev s_Market___eq__ : Stmt := inClass (top 21) 9
abbrev s_Join___init__ : Stmt := inClass (top 22) 1
abbrev s_Join_lose : Stmt := inClass (top 22) 2
abbrev s_Join_keep : Stmt := inClass (top 22) 3
abbrev s_Join_and_run : Stmt := inClass (top 22) 4
abbrev s_Join___sub__ : Stmt := inClass (top 22) 5
abbrev s_Join___add__ : Stmt := inClass (top 22) 6
abbrev s_Join___or__ : Stmt := inClass (top 22) 7
abbrev s_Join___invert__ : Stmt := inClass (top 22) 8
abbrev s_Join___mul__ : Stmt := inClass (top 22) 9
abbrev s_Lap___init__ : Stmt := inClass (top 23) 1
abbrev s_Lap_lose : Stmt := inClass (top 23) 2
abbrev s_Lap_keep : Stmt := inClass (top 23) 3
abbrev s_Lap_and_run : Stmt := inClass (top 23) 4
abbrev s_Lap___sub__ : Stmt := inClass (top 23) 5
abbrev s_Lap___add__ : Stmt := inClass (top 23) 6
abbrev s_Lap___or__ : Stmt := inClass (top 23) 7
abbrev s_Lap___invert__ : Stmt := inClass (top 23) 8
abbrev s_Lap___mul__ : Stmt := inClass (top 23) 9
abbrev s_checked_runs : Stmt := top 24
abbrev s_gone_after : Stmt := top 25
abbrev s_end_to_end_shape : Stmt := top 26
abbrev s_beside_shape : Stmt := top 27
abbrev s_joined_gone : Stmt := top 28
abbrev s_turned_runs : Stmt := top 29
abbrev s_repeated_parts : Stmt := top 30
abbrev s_check_times : Stmt := top 31
abbrev s_check_join : Stmt := top 32
abbrev s_market_text : Stmt := top 36
abbrev s_market_from : Stmt := top 37
abbrev s_row_line : Stmt := top 38
abbrev s_part_line : Stmt := top 39
abbrev s_number_of : Stmt := top 40
abbrev s__law_draws : Stmt := top 42
abbrev s__law_take : Stmt := top 43
abbrev s__law_chains : Stmt := top 44
abbrev s__law_special : Stmt := top 45
abbrev s__law_market : Stmt := top 46
abbrev s__law_built : Stmt := top 47
abbrev s__law_kind : Stmt := top 48
abbrev s__law_lines : Stmt := top 49
abbrev s__law_joined : Stmt := top 50
abbrev s__law_refused : Stmt := top 51
abbrev s__law_wrong_head : Stmt := top 52
abbrev s__law_wrong_part : Stmt := top 53
abbrev s__law_texts_refused : Stmt := top 54
abbrev s_law : Stmt := top 55
/-- the keyword-only default x of the def at f, if it is an object -/
def kwA (f : Str × Option Str) (x : Str) (K : PySem.W.Frag) : Addr := match K.lookup (He.fAd K f) with
  | some ⟨_, _, .func fd, _⟩ => (match fd.kwdefaults with
    | .ref D => (match PySem.W.nsIn K D x with
      | some (some (.ref a)) => a
      | _ => 0)
    | _ => 0)
  | _ => 0
def d__wall : He.DefD := ⟨("_wall", none), "_wall", "_wall", defArgs s__wall, defBody s__wall, defScope s__wall, [], []⟩
def d_BadNumber___init__ : He.DefD := ⟨("BadNumber", some "__init__"), "__init__", "BadNumber.__init__", defArgs s_BadNumber___init__, defBody s_BadNumber___init__, defScope s_BadNumber___init__, [], []⟩
def d_BadRun___init__ : He.DefD := ⟨("BadRun", some "__init__"), "__init__", "BadRun.__init__", defArgs s_BadRun___init__, defBody s_BadRun___init__, defScope s_BadRun___init__, [], []⟩
def d_BadSet___init__ : He.DefD := ⟨("BadSet", some "__init__"), "__init__", "BadSet.__init__", defArgs s_BadSet___init__, defBody s_BadSet___init__, defScope s_BadSet___init__, [], []⟩
def d_NotJoin___init__ : He.DefD := ⟨("NotJoin", some "__init__"), "__init__", "NotJoin.__init__", defArgs s_NotJoin___init__, defBody s_NotJoin___init__, defScope s_NotJoin___init__, [], []⟩
def d_BadText___init__ : He.DefD := ⟨("BadText", some "__init__"), "__init__", "BadText.__init__", defArgs s_BadText___init__, defBody s_BadText___init__, defScope s_BadText___init__, [], []⟩
def d_is_whole : He.DefD := ⟨("is_whole", none), "is_whole", "is_whole", defArgs s_is_whole, defBody s_is_whole, defScope s_is_whole, [], []⟩
def d_is_within : He.DefD := ⟨("is_within", none), "is_within", "is_within", defArgs s_is_within, defBody s_is_within, defScope s_is_within, [], []⟩
def d_is_count : He.DefD := ⟨("is_count", none), "is_count", "is_count", defArgs s_is_count, defBody s_is_count, defScope s_is_count, [], []⟩
def d_is_row : He.DefD := ⟨("is_row", none), "is_row", "is_row", defArgs s_is_row, defBody s_is_row, defScope s_is_row, [], []⟩
def d_is_pair : He.DefD := ⟨("is_pair", none), "is_pair", "is_pair", defArgs s_is_pair, defBody s_is_pair, defScope s_is_pair, [], []⟩
def d_is_run : He.DefD := ⟨("is_run", none), "is_run", "is_run", defArgs s_is_run, defBody s_is_run, defScope s_is_run, [], []⟩
def d_first_wrong : He.DefD := ⟨("first_wrong", none), "first_wrong", "first_wrong", defArgs s_first_wrong, defBody s_first_wrong, defScope s_first_wrong, [], []⟩
def d_set_of : He.DefD := ⟨("set_of", none), "set_of", "set_of", defArgs s_set_of, defBody s_set_of, defScope s_set_of, [], []⟩
def d_both : He.DefD := ⟨("both", none), "both", "both", defArgs s_both, defBody s_both, defScope s_both, [], []⟩
def d_Market___init__ : He.DefD := ⟨("Market", some "__init__"), "__init__", "Market.__init__", defArgs s_Market___init__, defBody s_Market___init__, defScope s_Market___init__, [], [("gone", .adr (kwA (("Market", some "__init__")) "gone"))]⟩
def d_Market_many : He.DefD := ⟨("Market", some "many"), "many", "Market.many", defArgs s_Market_many, defBody s_Market_many, defScope s_Market_many, [], []⟩
def d_Market_there : He.DefD := ⟨("Market", some "there"), "there", "Market.there", defArgs s_Market_there, defBody s_Market_there, defScope s_Market_there, [], []⟩
def d_Market_run_of : He.DefD := ⟨("Market", some "run_of"), "run_of", "Market.run_of", defArgs s_Market_run_of, defBody s_Market_run_of, defScope s_Market_run_of, [], []⟩
def d_Market_parts_over : He.DefD := ⟨("Market", some "parts_over"), "parts_over", "Market.parts_over", defArgs s_Market_parts_over, defBody s_Market_parts_over, defScope s_Market_parts_over, [], []⟩
def d_Market___len__ : He.DefD := ⟨("Market", some "__len__"), "__len__", "Market.__len__", defArgs s_Market___len__, defBody s_Market___len__, defScope s_Market___len__, [], []⟩
def d_Market___iter__ : He.DefD := ⟨("Market", some "__iter__"), "__iter__", "Market.__iter__", defArgs s_Market___iter__, defBody s_Market___iter__, defScope s_Market___iter__, [], []⟩
def d_Market___contains__ : He.DefD := ⟨("Market", some "__contains__"), "__contains__", "Market.__contains__", defArgs s_Market___contains__, defBody s_Market___contains__, defScope s_Market___contains__, [], []⟩
def d_Market___eq__ : He.DefD := ⟨("Market", some "__eq__"), "__eq__", "Market.__eq__", defArgs s_Market___eq__, defBody s_Market___eq__, defScope s_Market___eq__, [], []⟩
def d_Join___init__ : He.DefD := ⟨("Join", some "__init__"), "__init__", "Join.__init__", defArgs s_Join___init__, defBody s_Join___init__, defScope s_Join___init__, [], [("gone", .adr (kwA (("Join", some "__init__")) "gone"))]⟩
def d_Join_lose : He.DefD := ⟨("Join", some "lose"), "lose", "Join.lose", defArgs s_Join_lose, defBody s_Join_lose, defScope s_Join_lose, [], []⟩
def d_Join_keep : He.DefD := ⟨("Join", some "keep"), "keep", "Join.keep", defArgs s_Join_keep, defBody s_Join_keep, defScope s_Join_keep, [], []⟩
def d_Join_and_run : He.DefD := ⟨("Join", some "and_run"), "and_run", "Join.and_run", defArgs s_Join_and_run, defBody s_Join_and_run, defScope s_Join_and_run, [], []⟩
def d_Join___sub__ : He.DefD := ⟨("Join", some "__sub__"), "__sub__", "Join.__sub__", defArgs s_Join___sub__, defBody s_Join___sub__, defScope s_Join___sub__, [], []⟩
def d_Join___add__ : He.DefD := ⟨("Join", some "__add__"), "__add__", "Join.__add__", defArgs s_Join___add__, defBody s_Join___add__, defScope s_Join___add__, [], []⟩
def d_Join___or__ : He.DefD := ⟨("Join", some "__or__"), "__or__", "Join.__or__", defArgs s_Join___or__, defBody s_Join___or__, defScope s_Join___or__, [], []⟩
def d_Join___invert__ : He.DefD := ⟨("Join", some "__invert__"), "__invert__", "Join.__invert__", defArgs s_Join___invert__, defBody s_Join___invert__, defScope s_Join___invert__, [], []⟩
def d_Join___mul__ : He.DefD := ⟨("Join", some "__mul__"), "__mul__", "Join.__mul__", defArgs s_Join___mul__, defBody s_Join___mul__, defScope s_Join___mul__, [], []⟩
def d_Lap___init__ : He.DefD := ⟨("Lap", some "__init__"), "__init__", "Lap.__init__", defArgs s_Lap___init__, defBody s_Lap___init__, defScope s_Lap___init__, [], [("gone", .adr (kwA (("Lap", some "__init__")) "gone"))]⟩
def d_Lap_lose : He.DefD := ⟨("Lap", some "lose"), "lose", "Lap.lose", defArgs s_Lap_lose, defBody s_Lap_lose, defScope s_Lap_lose, [], []⟩
def d_Lap_keep : He.DefD := ⟨("Lap", some "keep"), "keep", "Lap.keep", defArgs s_Lap_keep, defBody s_Lap_keep, defScope s_Lap_keep, [], []⟩
def d_Lap_and_run : He.DefD := ⟨("Lap", some "and_run"), "and_run", "Lap.and_run", defArgs s_Lap_and_run, defBody s_Lap_and_run, defScope s_Lap_and_run, [], []⟩
def d_Lap___sub__ : He.DefD := ⟨("Lap", some "__sub__"), "__sub__", "Lap.__sub__", defArgs s_Lap___sub__, defBody s_Lap___sub__, defScope s_Lap___sub__, [], []⟩
def d_Lap___add__ : He.DefD := ⟨("Lap", some "__add__"), "__add__", "Lap.__add__", defArgs s_Lap___add__, defBody s_Lap___add__, defScope s_Lap___add__, [], []⟩
def d_Lap___or__ : He.DefD := ⟨("Lap", some "__or__"), "__or__", "Lap.__or__", defArgs s_Lap___or__, defBody s_Lap___or__, defScope s_Lap___or__, [], []⟩
def d_Lap___invert__ : He.DefD := ⟨("Lap", some "__invert__"), "__invert__", "Lap.__invert__", defArgs s_Lap___invert__, defBody s_Lap___invert__, defScope s_Lap___invert__, [], []⟩
def d_Lap___mul__ : He.DefD := ⟨("Lap", some "__mul__"), "__mul__", "Lap.__mul__", defArgs s_Lap___mul__, defBody s_Lap___mul__, defScope s_Lap___mul__, [], []⟩
def d_checked_runs : He.DefD := ⟨("checked_runs", none), "checked_runs", "checked_runs", defArgs s_checked_runs, defBody s_checked_runs, defScope s_checked_runs, [], []⟩
def d_gone_after : He.DefD := ⟨("gone_after", none), "gone_after", "gone_after", defArgs s_gone_after, defBody s_gone_after, defScope s_gone_after, [], []⟩
def d_end_to_end_shape : He.DefD := ⟨("end_to_end_shape", none), "end_to_end_shape", "end_to_end_shape", defArgs s_end_to_end_shape, defBody s_end_to_end_shape, defScope s_end_to_end_shape, [], []⟩
def d_beside_shape : He.DefD := ⟨("beside_shape", none), "beside_shape", "beside_shape", defArgs s_beside_shape, defBody s_beside_shape, defScope s_beside_shape, [], []⟩
def d_joined_gone : He.DefD := ⟨("joined_gone", none), "joined_gone", "joined_gone", defArgs s_joined_gone, defBody s_joined_gone, defScope s_joined_gone, [], []⟩
def d_turned_runs : He.DefD := ⟨("turned_runs", none), "turned_runs", "turned_runs", defArgs s_turned_runs, defBody s_turned_runs, defScope s_turned_runs, [], []⟩
def d_repeated_parts : He.DefD := ⟨("repeated_parts", none), "repeated_parts", "repeated_parts", defArgs s_repeated_parts, defBody s_repeated_parts, defScope s_repeated_parts, [], []⟩
def d_check_times : He.DefD := ⟨("check_times", none), "check_times", "check_times", defArgs s_check_times, defBody s_check_times, defScope s_check_times, [], []⟩
def d_check_join : He.DefD := ⟨("check_join", none), "check_join", "check_join", defArgs s_check_join, defBody s_check_join, defScope s_check_join, [], []⟩
def d_market_text : He.DefD := ⟨("market_text", none), "market_text", "market_text", defArgs s_market_text, defBody s_market_text, defScope s_market_text, [], []⟩
def d_market_from : He.DefD := ⟨("market_from", none), "market_from", "market_from", defArgs s_market_from, defBody s_market_from, defScope s_market_from, [], []⟩
def d_row_line : He.DefD := ⟨("row_line", none), "row_line", "row_line", defArgs s_row_line, defBody s_row_line, defScope s_row_line, [], []⟩
def d_part_line : He.DefD := ⟨("part_line", none), "part_line", "part_line", defArgs s_part_line, defBody s_part_line, defScope s_part_line, [], []⟩
def d_number_of : He.DefD := ⟨("number_of", none), "number_of", "number_of", defArgs s_number_of, defBody s_number_of, defScope s_number_of, [], []⟩
def d__law_draws : He.DefD := ⟨("_law_draws", none), "_law_draws", "_law_draws", defArgs s__law_draws, defBody s__law_draws, defScope s__law_draws, [], []⟩
def d__law_take : He.DefD := ⟨("_law_take", none), "_law_take", "_law_take", defArgs s__law_take, defBody s__law_take, defScope s__law_take, [], []⟩
def d__law_chains : He.DefD := ⟨("_law_chains", none), "_law_chains", "_law_chains", defArgs s__law_chains, defBody s__law_chains, defScope s__law_chains, [], []⟩
def d__law_special : He.DefD := ⟨("_law_special", none), "_law_special", "_law_special", defArgs s__law_special, defBody s__law_special, defScope s__law_special, [], []⟩
def d__law_market : He.DefD := ⟨("_law_market", none), "_law_market", "_law_market", defArgs s__law_market, defBody s__law_market, defScope s__law_market, [], []⟩
def d__law_built : He.DefD := ⟨("_law_built", none), "_law_built", "_law_built", defArgs s__law_built, defBody s__law_built, defScope s__law_built, [], []⟩
def d__law_kind : He.DefD := ⟨("_law_kind", none), "_law_kind", "_law_kind", defArgs s__law_kind, defBody s__law_kind, defScope s__law_kind, [], []⟩
def d__law_lines : He.DefD := ⟨("_law_lines", none), "_law_lines", "_law_lines", defArgs s__law_lines, defBody s__law_lines, defScope s__law_lines, [], []⟩
def d__law_joined : He.DefD := ⟨("_law_joined", none), "_law_joined", "_law_joined", defArgs s__law_joined, defBody s__law_joined, defScope s__law_joined, [], []⟩
def d__law_refused : He.DefD := ⟨("_law_refused", none), "_law_refused", "_law_refused", defArgs s__law_refused, defBody s__law_refused, defScope s__law_refused, [], []⟩
def d__law_wrong_head : He.DefD := ⟨("_law_wrong_head", none), "_law_wrong_head", "_law_wrong_head", defArgs s__law_wrong_head, defBody s__law_wrong_head, defScope s__law_wrong_head, [], []⟩
def d__law_wrong_part : He.DefD := ⟨("_law_wrong_part", none), "_law_wrong_part", "_law_wrong_part", defArgs s__law_wrong_part, defBody s__law_wrong_part, defScope s__law_wrong_part, [], []⟩
def d__law_texts_refused : He.DefD := ⟨("_law_texts_refused", none), "_law_texts_refused", "_law_texts_refused", defArgs s__law_texts_refused, defBody s__law_texts_refused, defScope s__law_texts_refused, [], []⟩
def d_law : He.DefD := ⟨("law", none), "law", "law", defArgs s_law, defBody s_law, defScope s_law, [], []⟩
end K01


set_option Elab.async false
set_option linter.all false
set_option maxRecDepth 100000
set_option maxHeartbeats 4000000
/-! The head's facts: names, defs, defs over a cell, and a row of Bools. -/
namespace HkK
open PySem PySem.Spec PyProof.Rows L2 He
/-- a def that closes over one cell -/
abbrev FnC : Type := Option (Str × Str × Arguments × FuncBody × Scope × Addr × Addr)
def fnC (K : PySem.W.Frag) (p : Str × Option Str) : FnC := match K.lookup (fAd K p) with
  | some ⟨_, _, .func fd, _⟩ => some (fd.name, fd.qualname, fd.params, fd.body, fd.scope, fd.globals, fd.builtins)
  | _ => none
def valC (d : DefD) : FnC := some (d.name, d.qual, d.params, .stmts d.body, d.scope, mainGlobals, builtinsNs)
/-- the cell of its closure, its code -/
def cellAd (K : PySem.W.Frag) (p : Str × Option Str) : Addr := match K.lookup (fAd K p) with
  | some ⟨_, _, .func fd, _⟩ => (match fd.closure with
    | (_, c) :: _ => c
    | _ => 0)
  | _ => 0
def codeAd (K : PySem.W.Frag) (p : Str × Option Str) : Addr := match K.lookup (fAd K p) with
  | some ⟨_, _, .func fd, _⟩ => (match fd.code with
    | .ref c => c
    | _ => 0)
  | _ => 0
def supB (P : Program) (K : PySem.W.Frag) (C f2 : Addr) (p : Str × Option Str) (qual : Str) : Bool :=
  (match K.lookup (fAd K p) with
    | some ⟨_, _, .func fd, _⟩ => (match fd.closure with
      | [(x, c)] => decide (x = "__class__") && ((match fd.code with
        | .ref _ => true
        | _ => false) && ((match fd.defaults with
        | .none => true
        | _ => false) && (match fd.kwdefaults with
        | .ref _ => true
        | _ => false)))
      | _ => false)
    | _ => false) &&
  (PySem.W.codeIn K (.ref (codeAd K p)) qual && ((match K.lookup (codeAd K p) with
    | some ⟨_, _, .fields vs, _⟩ => (match ((vs : Array Value)[2]? : Option Value) with
      | some (.str file _) => ((P.main.file : Str) == file)
      | _ => false)
    | _ => false) && ((match K.lookup (cellAd K p) with
    | some ⟨_, _, .cell (some (.ref D)), _⟩ => decide (D = C)
    | _ => false) && (decide (PySem.W.mroIn K C (.ref C) = some true) && (eqO (PySem.W.ks_superIn K C C "__init__") (some (some (.ref f2))) && (decide (PySem.W.typeIn K (.ref f2) = some (.type "function")) && (PySem.W.fnIn K f2 &&
      (eqO (PySem.W.nsIn K cStatics "thirdparty.any") (some none) && (!(P.main.scope.names.lookup ("super" : Str)).isSome && (PySem.W.clsIn K C).isSome)))))))))
theorem supB_ok {P : Program} {K : PySem.W.Frag} {mg : Str → Option Value} {C f2 : Addr} {d : DefD} (e : fnC K d.at_ = valC d) (h : supB P K C f2 d.at_ d.qual = true) (hs : mg "super" = none) (hn : d.name = "__init__") :
    ∃ fd, SupI.SupTxt P K mg C (fAd K d.at_) f2 (cellAd K d.at_) (codeAd K d.at_) fd d.qual d.params d.body d.scope ∧ ∃ cd, PySem.W.clsIn K C = some cd := by
  obtain ⟨h1, h⟩ := ba h
  obtain ⟨h2, h⟩ := ba h
  obtain ⟨h3, h⟩ := ba h
  obtain ⟨h4, h⟩ := ba h
  obtain ⟨h5, h⟩ := ba h
  obtain ⟨h6, h⟩ := ba h
  obtain ⟨h7, h⟩ := ba h
  obtain ⟨h8, h⟩ := ba h
  obtain ⟨h9, h⟩ := ba h
  obtain ⟨h10, h11⟩ := ba h
  unfold fnC at e
  cases q : K.lookup (fAd K d.at_) with
  | none =>
    rw [q] at h1
    cases h1
  | some o =>
    obtain ⟨oc, od, dt, osl⟩ := o
    rw [q] at h1 e
    cases dt with
    | func fd =>
      obtain ⟨n1, n2, n3, n4, n5, n6, n7, n8, n9, n10, n11, n12, n13, n14, n15⟩ := fd
      have e2 : (some (n1, n2, n3, n4, n5, n6, n15) : FnC) = some (d.name, d.qual, d.params, .stmts d.body, d.scope, mainGlobals, builtinsNs) := e
      simp only [Option.some.injEq, Prod.mk.injEq] at e2
      obtain ⟨e1, e2, e3, e4, e5, e6, e7⟩ := e2
      subst e1 e2 e3 e4 e5 e6 e7
      cases n7 with
      | nil => cases h1
      | cons xc rest =>
        obtain ⟨x, c⟩ := xc
        cases rest with
        | cons _ _ => cases h1
        | nil =>
        obtain ⟨hx, h1'⟩ := ba h1
        obtain ⟨h1a, h1b⟩ := ba h1'
        obtain ⟨h1b, h1c⟩ := ba h1b
        obtain ⟨cda, rfl⟩ : ∃ cda, n13 = Value.ref cda := by
          cases n13 with
          | ref a => exact ⟨a, rfl⟩
          | _ => cases h1a
        obtain rfl : n8 = Value.none := by
          cases n8 with
          | none => rfl
          | _ => cases h1b
        obtain ⟨Dk, rfl⟩ : ∃ Dk, n9 = Value.ref Dk := by
          cases n9 with
          | ref a => exact ⟨a, rfl⟩
          | _ => cases h1c
        have hx' : x = "__class__" := of_decide_eq_true hx
        subst hx'
        have ec : cellAd K d.at_ = c := by
          unfold cellAd
          rw [q]
        have ed : codeAd K d.at_ = cda := by
          unfold codeAd
          rw [q]
        refine ⟨_, ⟨⟨oc, od, n12, Dk, n10, n11, n14, osl, ?_, q⟩, h2, ?_, ?_, of_decide_eq_true h5, hs, eqO_ok h6, of_decide_eq_true h7, h8, eqO_ok h9, by simpa using h10⟩, Option.isSome_iff_exists.mp h11⟩
        · rw [hn, ec, ed]
        · split at h3
          · rename_i a b vs cc hh
            split at h3
            · rename_i file tf hv
              exact ⟨a, b, vs, cc, file, tf, hh, hv, h3⟩
            · cases h3
          · cases h3
        · split at h4
          · rename_i a b D cc hh
            have : D = C := of_decide_eq_true h4
            subst this
            exact ⟨a, b, cc, hh⟩
          · cases h4
    | _ => cases h1
/-- an exception class of the program, its __init__ -/
def excB (K : PySem.W.Frag) (C : Addr) : Bool := match K.lookup C with
  | some ⟨.type "type", _, .cls cd, sl⟩ => (match cd.mro, sl.toList with
    | .ref C' :: bm, [_, _, _, _, some (.builtin n), _] => decide (C' = C) && (decide (n = "ValueError.__new__") && (!cd.hasDel && (cd.hasDict && PySem.HandSPX.refsVE bm)))
    | _, _ => false)
  | _ => false
theorem excB_ok {K : PySem.W.Frag} {C : Addr} (h : excB K C = true) : ∃ nm q N bs bm sn sub ab col dd k0 k1 k2 k3 k5, K.lookup C = some (excClassObj nm q C N bs bm true sn sub ab col dd k0 k1 k2 k3 k5 "ValueError.__new__") ∧ PySem.HandSPX.refsVE bm = true := by
  unfold excB at h
  split at h
  · rename_i dd cd sl ho
    split at h
    · rename_i C' bm k0 k1 k2 k3 n k5 hm hs
      obtain ⟨h1, h⟩ := ba h
      obtain ⟨h2, h⟩ := ba h
      obtain ⟨h3, h⟩ := ba h
      obtain ⟨h4, h5⟩ := ba h
      have e1 : C' = C := of_decide_eq_true h1
      have e2 : n = "ValueError.__new__" := of_decide_eq_true h2
      subst e1 e2
      obtain ⟨nm, bs, mro, ns, qn, hd, sn, sb, ab, col, del⟩ := cd
      dsimp only at hm h3 h4
      subst hm
      have e3 : del = false := by simpa using h3
      subst e3 h4
      have e4 : sl = #[k0, k1, k2, k3, some (.builtin "ValueError.__new__"), k5] := by
        apply Array.ext'
        simpa using hs
      subst e4
      exact ⟨nm, qn, ns, bs, bm, sn, sb, ab, col, dd, k0, k1, k2, k3, k5, ho, h5⟩
    · cases h
  · cases h
/-! ### the Hook -/
abbrev AlK : Type := AlD × List FnC × Bool
def obsK (fa : List Fa) (fn fc : List DefD) (ex : PySem.W.Frag → List Bool) (K : PySem.W.Frag) : AlK := (obsD fa fn K, fc.map (fun d => fnC K d.at_), (ex K).all id)
def valK (fn fc : List DefD) : AlK := (valD fn, fc.map valC, true)
def frK (n : Nat) (g : Addr → Option Obj) : PySem.W.Frag := frG g (asD g n ++ [cStatics])
def hookK (n : Nat) (fa : List Fa) (fn fc : List DefD) (ex : PySem.W.Frag → List Bool) : PySem.W.Hook where
  α := AlK
  obs := fun s => obsK fa fn fc ex (frK n s.heap.get?)
  val := fun _ => valK fn fc
  says := fun _ h => ∃ K : PySem.W.Frag, K.In h ∧ obsK fa fn fc ex K = valK fn fc
  of := fun _ _ e => ⟨_, frG_in, e⟩
  keeps := fun _ _ _ ⟨K, hK, c⟩ k => ⟨K, PySem.W.Frag.In.keeps hK k, c⟩
theorem obsK_eq {n : Nat} {fa : List Fa} {fn fc : List DefD} {ex : PySem.W.Frag → List Bool} {g : Addr → Option Obj} {s : Shared} (h : ∀ a, g a = s.heap.get? a) : obsK fa fn fc ex (frK n g) = (hookK n fa fn fc ex).obs s := by
  have e : g = s.heap.get? := funext h
  rw [e] <;> rfl
section
variable {fa : List Fa} {fn fc : List DefD} {ex : PySem.W.Frag → List Bool} {K : PySem.W.Frag}
theorem saysD_of (c : obsK fa fn fc ex K = valK fn fc) : SaysD fa fn K := congrArg (fun z : AlK => z.1) c
theorem says_ex (c : obsK fa fn fc ex K = valK fn fc) (i : Nat) {b : Bool} (h : (ex K)[i]? = some b) : b = true := by
  have e : (ex K).all id = true := congrArg (fun z : AlK => z.2.2) c
  exact List.all_eq_true.mp e b (List.mem_of_getElem? h)
theorem says_fc (c : obsK fa fn fc ex K = valK fn fc) (i : Nat) {d : DefD} (h : fc[i]? = some d) : fnC K d.at_ = valC d := by
  have e : fc.map (fun d => fnC K d.at_) = fc.map valC := congrArg (fun z : AlK => z.2.1) c
  have e2 : (fc.map fun d => fnC K d.at_)[i]? = (fc.map valC)[i]? := by rw [e]
  rw [List.getElem?_map, List.getElem?_map, h] at e2
  exact Option.some.inj e2
end
end HkK


set_option Elab.async false
set_option linter.all false
set_option maxRecDepth 100000
set_option maxHeartbeats 4000000
namespace K01
open PySem PySem.Spec PyProof.Rows L2
abbrev PP : Program := (PySem.Challenge.rw_keptparts_k01_texts_and_back).prog
def fn : List He.DefD := [d_is_whole, d_is_within, d_is_count, d_is_row, d_is_pair, d_is_run, d_first_wrong, d_set_of, d_Market___init__, d_Market___len__, d_Market___eq__, d_checked_runs, d_market_text, d_market_from, d_row_line, d_part_line, d_number_of, d__law_draws, d__law_take, d__law_chains, d__law_special, d__law_market, d__law_built, d__law_kind, d__law_lines, d__law_joined, d__law_refused, d__law_wrong_head, d__law_wrong_part, d__law_texts_refused, d_law, d_BadText___init__, d_BadNumber___init__, d_BadRun___init__]
def fc : List He.DefD := [d_Join___init__, d_Lap___init__]
def fa1 : List He.Fa := [.glo "is_whole", .glo "is_within", .glo "is_count", .glo "is_row", .glo "is_pair", .glo "is_run", .glo "first_wrong", .glo "set_of", .glo "checked_runs", .glo "market_text", .glo "market_from", .glo "row_line", .glo "part_line", .glo "number_of", .glo "_law_draws", .glo "_law_take", .glo "_law_chains", .glo "_law_special", .glo "_law_market", .glo "_law_built", .glo "_law_kind", .glo "_law_lines", .glo "_law_joined", .glo "_law_refused", .glo "_law_wrong_head", .glo "_law_wrong_part", .glo "_law_texts_refused", .glo "law", .glo "Market", .glo "Join"]
def fa2 : List He.Fa := [.glo "Lap", .glo "PartsError", .glo "BadText", .glo "BadNumber", .glo "BadRun", .glo "BadSet", .free "len", .free "isinstance", .free "int", .free "bool", .free "tuple", .free "list", .free "enumerate", .free "range", .free "set", .free "sorted", .free "str", .free "min", .free "super", .free "all", .int "GREATEST_SIZE" 30, .int "MOST_DIGITS" 9, .str "DIGITS" "0123456789", .cls "Join", .mkr "Join", .noat "Join" "size", .noat "Join" "runs", .noat "Join" "gone", .cls "Lap", .mkr "Lap", .noat "Lap" "size", .noat "Lap" "runs", .noat "Lap" "gone", .exm "BadText" "BadText" true, .exm "BadNumber" "BadNumber" true, .exm "BadRun" "BadRun" true]
def fa : List He.Fa := fa1 ++ fa2
def ex0 (K : PySem.W.Frag) : List Bool := [HkK.supB PP K (He.ga K "Join") (He.ma K (He.ga K "Market") "__init__") ("Join", some "__init__") "Join.__init__", He.conB K "Join" "KIND" (.str "join"), He.eqO (PySem.W.findIn K (.ref (He.ga K "Join")) "__eq__") (some (some (.ref (He.ma K (He.ga K "Market") "__eq__")))), He.eqO (PySem.W.findIn K (.ref (He.ga K "Join")) "__len__") (some (some (.ref (He.ma K (He.ga K "Market") "__len__")))), He.eqO (PySem.W.findIn K (.ref (He.ga K "Join")) "__class__") (some (some (.builtin "object.__class__"))), decide (PySem.W.mroIn K (He.ga K "Join") (.type "object") = some true), decide (PySem.W.kitOne K (.ref (He.ga K "Join")) (.ref (He.ga K "Market")) = some true), PySem.W.notFirst K (He.ga K "Join") (.ref (He.ga K "Join")), PySem.W.notFirst K (He.ga K "Join") (.ref (He.ga K "Lap")), HkK.supB PP K (He.ga K "Lap") (He.ma K (He.ga K "Market") "__init__") ("Lap", some "__init__") "Lap.__init__", He.conB K "Lap" "KIND" (.str "lap"), He.eqO (PySem.W.findIn K (.ref (He.ga K "Lap")) "__eq__") (some (some (.ref (He.ma K (He.ga K "Market") "__eq__"))))]
def ex1 (K : PySem.W.Frag) : List Bool := [He.eqO (PySem.W.findIn K (.ref (He.ga K "Lap")) "__len__") (some (some (.ref (He.ma K (He.ga K "Market") "__len__")))), He.eqO (PySem.W.findIn K (.ref (He.ga K "Lap")) "__class__") (some (some (.builtin "object.__class__"))), decide (PySem.W.mroIn K (He.ga K "Lap") (.type "object") = some true), decide (PySem.W.kitOne K (.ref (He.ga K "Lap")) (.ref (He.ga K "Market")) = some true), PySem.W.notFirst K (He.ga K "Lap") (.ref (He.ga K "Join")), PySem.W.notFirst K (He.ga K "Lap") (.ref (He.ga K "Lap")), PySem.W.isFn K (.ref (He.ma K (He.ga K "Market") "__eq__")), PySem.W.isFn K (.ref (He.ma K (He.ga K "Market") "__len__")), He.eqO (PySem.W.specialIn K (.builtin "object.__class__") "__get__") (some (some (.builtin "getset_descriptor.__get__"))), decide (PySem.W.takesIn K (.builtin "object.__class__") = some true), HkK.excB K (He.ga K "BadText"), He.eqO (PySem.W.findIn K (.ref (He.ga K "BadText")) "__setattr__") (some (some (.builtin "object.__setattr__")))]
def ex2 (K : PySem.W.Frag) : List Bool := [He.eqO (PySem.W.findIn K (.ref (He.ga K "BadText")) "__getattribute__") (some (some (.builtin "BaseException.__getattribute__"))), He.eqO (PySem.W.findIn K (.ref (He.ga K "BadText")) "__getattr__") (some none), He.eqO (PySem.W.findIn K (.ref (He.ga K "BadText")) "line") (some none), He.eqO (PySem.W.findIn K (.ref (He.ga K "BadText")) "__init__") (some (some (.ref (He.ma K (He.ga K "BadText") "__init__")))), He.eqO (PySem.W.findIn K (.ref (He.ga K "BadText")) "__class__") (some (some (.builtin "object.__class__"))), decide (PySem.W.typeIn K (.ref (He.ma K (He.ga K "BadText") "__init__")) = some (.type "function")), PySem.W.keepIn K (.ref (He.ga K "BadText")), decide (PySem.W.subIn K (.ref (He.ga K "BadText")) (.type "BaseException") = some true), decide (PySem.W.typeIn K (.ref (He.ga K "BadText")) = some (.type "type")), PySem.W.hasDictIn K (He.ga K "BadText"), decide (PySem.W.mroIn K (He.ga K "BadText") (.type "object") = some true), HkK.excB K (He.ga K "BadNumber")]
def ex3 (K : PySem.W.Frag) : List Bool := [He.eqO (PySem.W.findIn K (.ref (He.ga K "BadNumber")) "__setattr__") (some (some (.builtin "object.__setattr__"))), He.eqO (PySem.W.findIn K (.ref (He.ga K "BadNumber")) "__getattribute__") (some (some (.builtin "BaseException.__getattribute__"))), He.eqO (PySem.W.findIn K (.ref (He.ga K "BadNumber")) "__getattr__") (some none), He.eqO (PySem.W.findIn K (.ref (He.ga K "BadNumber")) "name") (some none), He.eqO (PySem.W.findIn K (.ref (He.ga K "BadNumber")) "__init__") (some (some (.ref (He.ma K (He.ga K "BadNumber") "__init__")))), He.eqO (PySem.W.findIn K (.ref (He.ga K "BadNumber")) "__class__") (some (some (.builtin "object.__class__"))), decide (PySem.W.typeIn K (.ref (He.ma K (He.ga K "BadNumber") "__init__")) = some (.type "function")), PySem.W.keepIn K (.ref (He.ga K "BadNumber")), decide (PySem.W.subIn K (.ref (He.ga K "BadNumber")) (.type "BaseException") = some true), decide (PySem.W.typeIn K (.ref (He.ga K "BadNumber")) = some (.type "type")), PySem.W.hasDictIn K (He.ga K "BadNumber"), decide (PySem.W.mroIn K (He.ga K "BadNumber") (.type "object") = some true)]
def ex4 (K : PySem.W.Frag) : List Bool := [HkK.excB K (He.ga K "BadRun"), He.eqO (PySem.W.findIn K (.ref (He.ga K "BadRun")) "__setattr__") (some (some (.builtin "object.__setattr__"))), He.eqO (PySem.W.findIn K (.ref (He.ga K "BadRun")) "__getattribute__") (some (some (.builtin "BaseException.__getattribute__"))), He.eqO (PySem.W.findIn K (.ref (He.ga K "BadRun")) "__getattr__") (some none), He.eqO (PySem.W.findIn K (.ref (He.ga K "BadRun")) "place") (some none), He.eqO (PySem.W.findIn K (.ref (He.ga K "BadRun")) "__init__") (some (some (.ref (He.ma K (He.ga K "BadRun") "__init__")))), He.eqO (PySem.W.findIn K (.ref (He.ga K "BadRun")) "__class__") (some (some (.builtin "object.__class__"))), decide (PySem.W.typeIn K (.ref (He.ma K (He.ga K "BadRun") "__init__")) = some (.type "function")), PySem.W.keepIn K (.ref (He.ga K "BadRun")), decide (PySem.W.subIn K (.ref (He.ga K "BadRun")) (.type "BaseException") = some true), decide (PySem.W.typeIn K (.ref (He.ga K "BadRun")) = some (.type "type")), PySem.W.hasDictIn K (He.ga K "BadRun")]
def ex5 (K : PySem.W.Frag) : List Bool := [decide (PySem.W.mroIn K (He.ga K "BadRun") (.type "object") = some true), decide (PySem.W.kitOne K (.ref (He.ga K "BadText")) (.ref (He.ga K "PartsError")) = some true), decide (PySem.W.kitOne K (.ref (He.ga K "BadText")) (.ref (He.ga K "BadRun")) = some false)]
def ex (K : PySem.W.Frag) : List Bool := ex0 K ++ ex1 K ++ ex2 K ++ ex3 K ++ ex4 K ++ ex5 K
structure Ctx (K : PySem.W.Frag) (mg : Str → Option Value) : Prop where
  g_is_whole : mg "is_whole" = some (.ref (He.ga K "is_whole"))
  g_is_within : mg "is_within" = some (.ref (He.ga K "is_within"))
  g_is_count : mg "is_count" = some (.ref (He.ga K "is_count"))
  g_is_row : mg "is_row" = some (.ref (He.ga K "is_row"))
  g_is_pair : mg "is_pair" = some (.ref (He.ga K "is_pair"))
  g_is_run : mg "is_run" = some (.ref (He.ga K "is_run"))
  g_first_wrong : mg "first_wrong" = some (.ref (He.ga K "first_wrong"))
  g_set_of : mg "set_of" = some (.ref (He.ga K "set_of"))
  g_checked_runs : mg "checked_runs" = some (.ref (He.ga K "checked_runs"))
  g_market_text : mg "market_text" = some (.ref (He.ga K "market_text"))
  g_market_from : mg "market_from" = some (.ref (He.ga K "market_from"))
  g_row_line : mg "row_line" = some (.ref (He.ga K "row_line"))
  g_part_line : mg "part_line" = some (.ref (He.ga K "part_line"))
  g_number_of : mg "number_of" = some (.ref (He.ga K "number_of"))
  g__law_draws : mg "_law_draws" = some (.ref (He.ga K "_law_draws"))
  g__law_take : mg "_law_take" = some (.ref (He.ga K "_law_take"))
  g__law_chains : mg "_law_chains" = some (.ref (He.ga K "_law_chains"))
  g__law_special : mg "_law_special" = some (.ref (He.ga K "_law_special"))
  g__law_market : mg "_law_market" = some (.ref (He.ga K "_law_market"))
  g__law_built : mg "_law_built" = some (.ref (He.ga K "_law_built"))
  g__law_kind : mg "_law_kind" = some (.ref (He.ga K "_law_kind"))
  g__law_lines : mg "_law_lines" = some (.ref (He.ga K "_law_lines"))
  g__law_joined : mg "_law_joined" = some (.ref (He.ga K "_law_joined"))
  g__law_refused : mg "_law_refused" = some (.ref (He.ga K "_law_refused"))
  g__law_wrong_head : mg "_law_wrong_head" = some (.ref (He.ga K "_law_wrong_head"))
  g__law_wrong_part : mg "_law_wrong_part" = some (.ref (He.ga K "_law_wrong_part"))
  g__law_texts_refused : mg "_law_texts_refused" = some (.ref (He.ga K "_law_texts_refused"))
  g_law : mg "law" = some (.ref (He.ga K "law"))
  g_Market : mg "Market" = some (.ref (He.ga K "Market"))
  g_Join : mg "Join" = some (.ref (He.ga K "Join"))
  g_Lap : mg "Lap" = some (.ref (He.ga K "Lap"))
  g_PartsError : mg "PartsError" = some (.ref (He.ga K "PartsError"))
  g_BadText : mg "BadText" = some (.ref (He.ga K "BadText"))
  g_BadNumber : mg "BadNumber" = some (.ref (He.ga K "BadNumber"))
  g_BadRun : mg "BadRun" = some (.ref (He.ga K "BadRun"))
  g_BadSet : mg "BadSet" = some (.ref (He.ga K "BadSet"))
  b_len : mg "len" = none
  b_isinstance : mg "isinstance" = none
  b_int : mg "int" = none
  b_bool : mg "bool" = none
  b_tuple : mg "tuple" = none
  b_list : mg "list" = none
  b_enumerate : mg "enumerate" = none
  b_range : mg "range" = none
  b_set : mg "set" = none
  b_sorted : mg "sorted" = none
  b_str : mg "str" = none
  b_min : mg "min" = none
  b_super : mg "super" = none
  b_all : mg "all" = none
  c_GREATEST_SIZE : ∃ t, mg "GREATEST_SIZE" = some (.int 30 t)
  c_MOST_DIGITS : ∃ t, mg "MOST_DIGITS" = some (.int 9 t)
  c_DIGITS : ∃ t, mg "DIGITS" = some (.str "0123456789" t)
  cl_Join : Cls K (He.ga K "Join")
  mk_Join : Mk K (He.ga K "Join") (He.ma K (He.ga K "Join") "__init__")
  no_Join_size : NoAttr K (He.ga K "Join") "size"
  no_Join_runs : NoAttr K (He.ga K "Join") "runs"
  no_Join_gone : NoAttr K (He.ga K "Join") "gone"
  cl_Lap : Cls K (He.ga K "Lap")
  mk_Lap : Mk K (He.ga K "Lap") (He.ma K (He.ga K "Lap") "__init__")
  no_Lap_size : NoAttr K (He.ga K "Lap") "size"
  no_Lap_runs : NoAttr K (He.ga K "Lap") "runs"
  no_Lap_gone : NoAttr K (He.ga K "Lap") "gone"
  te_BadText : PySem.W.exmOne K (.ref (He.ga K "BadText")) (.ref (He.ga K "BadText")) = some true
  te_BadNumber : PySem.W.exmOne K (.ref (He.ga K "BadNumber")) (.ref (He.ga K "BadNumber")) = some true
  te_BadRun : PySem.W.exmOne K (.ref (He.ga K "BadRun")) (.ref (He.ga K "BadRun")) = some true
  d_is_whole : ∃ fd, FunD K d_is_whole.name d_is_whole.qual d_is_whole.params d_is_whole.body d_is_whole.scope (d_is_whole.dvs K) (d_is_whole.kws K) (He.fAd K d_is_whole.at_) fd
  d_is_within : ∃ fd, FunD K d_is_within.name d_is_within.qual d_is_within.params d_is_within.body d_is_within.scope (d_is_within.dvs K) (d_is_within.kws K) (He.fAd K d_is_within.at_) fd
  d_is_count : ∃ fd, FunD K d_is_count.name d_is_count.qual d_is_count.params d_is_count.body d_is_count.scope (d_is_count.dvs K) (d_is_count.kws K) (He.fAd K d_is_count.at_) fd
  d_is_row : ∃ fd, FunD K d_is_row.name d_is_row.qual d_is_row.params d_is_row.body d_is_row.scope (d_is_row.dvs K) (d_is_row.kws K) (He.fAd K d_is_row.at_) fd
  d_is_pair : ∃ fd, FunD K d_is_pair.name d_is_pair.qual d_is_pair.params d_is_pair.body d_is_pair.scope (d_is_pair.dvs K) (d_is_pair.kws K) (He.fAd K d_is_pair.at_) fd
  d_is_run : ∃ fd, FunD K d_is_run.name d_is_run.qual d_is_run.params d_is_run.body d_is_run.scope (d_is_run.dvs K) (d_is_run.kws K) (He.fAd K d_is_run.at_) fd
  d_first_wrong : ∃ fd, FunD K d_first_wrong.name d_first_wrong.qual d_first_wrong.params d_first_wrong.body d_first_wrong.scope (d_first_wrong.dvs K) (d_first_wrong.kws K) (He.fAd K d_first_wrong.at_) fd
  d_set_of : ∃ fd, FunD K d_set_of.name d_set_of.qual d_set_of.params d_set_of.body d_set_of.scope (d_set_of.dvs K) (d_set_of.kws K) (He.fAd K d_set_of.at_) fd
  d_Market___init__ : ∃ fd, FunD K d_Market___init__.name d_Market___init__.qual d_Market___init__.params d_Market___init__.body d_Market___init__.scope (d_Market___init__.dvs K) (d_Market___init__.kws K) (He.fAd K d_Market___init__.at_) fd
  d_Market___len__ : ∃ fd, FunD K d_Market___len__.name d_Market___len__.qual d_Market___len__.params d_Market___len__.body d_Market___len__.scope (d_Market___len__.dvs K) (d_Market___len__.kws K) (He.fAd K d_Market___len__.at_) fd
  d_Market___eq__ : ∃ fd, FunD K d_Market___eq__.name d_Market___eq__.qual d_Market___eq__.params d_Market___eq__.body d_Market___eq__.scope (d_Market___eq__.dvs K) (d_Market___eq__.kws K) (He.fAd K d_Market___eq__.at_) fd
  d_checked_runs : ∃ fd, FunD K d_checked_runs.name d_checked_runs.qual d_checked_runs.params d_checked_runs.body d_checked_runs.scope (d_checked_runs.dvs K) (d_checked_runs.kws K) (He.fAd K d_checked_runs.at_) fd
  d_market_text : ∃ fd, FunD K d_market_text.name d_market_text.qual d_market_text.params d_market_text.body d_market_text.scope (d_market_text.dvs K) (d_market_text.kws K) (He.fAd K d_market_text.at_) fd
  d_market_from : ∃ fd, FunD K d_market_from.name d_market_from.qual d_market_from.params d_market_from.body d_market_from.scope (d_market_from.dvs K) (d_market_from.kws K) (He.fAd K d_market_from.at_) fd
  d_row_line : ∃ fd, FunD K d_row_line.name d_row_line.qual d_row_line.params d_row_line.body d_row_line.scope (d_row_line.dvs K) (d_row_line.kws K) (He.fAd K d_row_line.at_) fd
  d_part_line : ∃ fd, FunD K d_part_line.name d_part_line.qual d_part_line.params d_part_line.body d_part_line.scope (d_part_line.dvs K) (d_part_line.kws K) (He.fAd K d_part_line.at_) fd
  d_number_of : ∃ fd, FunD K d_number_of.name d_number_of.qual d_number_of.params d_number_of.body d_number_of.scope (d_number_of.dvs K) (d_number_of.kws K) (He.fAd K d_number_of.at_) fd
  d__law_draws : ∃ fd, FunD K d__law_draws.name d__law_draws.qual d__law_draws.params d__law_draws.body d__law_draws.scope (d__law_draws.dvs K) (d__law_draws.kws K) (He.fAd K d__law_draws.at_) fd
  d__law_take : ∃ fd, FunD K d__law_take.name d__law_take.qual d__law_take.params d__law_take.body d__law_take.scope (d__law_take.dvs K) (d__law_take.kws K) (He.fAd K d__law_take.at_) fd
  d__law_chains : ∃ fd, FunD K d__law_chains.name d__law_chains.qual d__law_chains.params d__law_chains.body d__law_chains.scope (d__law_chains.dvs K) (d__law_chains.kws K) (He.fAd K d__law_chains.at_) fd
  d__law_special : ∃ fd, FunD K d__law_special.name d__law_special.qual d__law_special.params d__law_special.body d__law_special.scope (d__law_special.dvs K) (d__law_special.kws K) (He.fAd K d__law_special.at_) fd
  d__law_market : ∃ fd, FunD K d__law_market.name d__law_market.qual d__law_market.params d__law_market.body d__law_market.scope (d__law_market.dvs K) (d__law_market.kws K) (He.fAd K d__law_market.at_) fd
  d__law_built : ∃ fd, FunD K d__law_built.name d__law_built.qual d__law_built.params d__law_built.body d__law_built.scope (d__law_built.dvs K) (d__law_built.kws K) (He.fAd K d__law_built.at_) fd
  d__law_kind : ∃ fd, FunD K d__law_kind.name d__law_kind.qual d__law_kind.params d__law_kind.body d__law_kind.scope (d__law_kind.dvs K) (d__law_kind.kws K) (He.fAd K d__law_kind.at_) fd
  d__law_lines : ∃ fd, FunD K d__law_lines.name d__law_lines.qual d__law_lines.params d__law_lines.body d__law_lines.scope (d__law_lines.dvs K) (d__law_lines.kws K) (He.fAd K d__law_lines.at_) fd
  d__law_joined : ∃ fd, FunD K d__law_joined.name d__law_joined.qual d__law_joined.params d__law_joined.body d__law_joined.scope (d__law_joined.dvs K) (d__law_joined.kws K) (He.fAd K d__law_joined.at_) fd
  d__law_refused : ∃ fd, FunD K d__law_refused.name d__law_refused.qual d__law_refused.params d__law_refused.body d__law_refused.scope (d__law_refused.dvs K) (d__law_refused.kws K) (He.fAd K d__law_refused.at_) fd
  d__law_wrong_head : ∃ fd, FunD K d__law_wrong_head.name d__law_wrong_head.qual d__law_wrong_head.params d__law_wrong_head.body d__law_wrong_head.scope (d__law_wrong_head.dvs K) (d__law_wrong_head.kws K) (He.fAd K d__law_wrong_head.at_) fd
  d__law_wrong_part : ∃ fd, FunD K d__law_wrong_part.name d__law_wrong_part.qual d__law_wrong_part.params d__law_wrong_part.body d__law_wrong_part.scope (d__law_wrong_part.dvs K) (d__law_wrong_part.kws K) (He.fAd K d__law_wrong_part.at_) fd
  d__law_texts_refused : ∃ fd, FunD K d__law_texts_refused.name d__law_texts_refused.qual d__law_texts_refused.params d__law_texts_refused.body d__law_texts_refused.scope (d__law_texts_refused.dvs K) (d__law_texts_refused.kws K) (He.fAd K d__law_texts_refused.at_) fd
  d_law : ∃ fd, FunD K d_law.name d_law.qual d_law.params d_law.body d_law.scope (d_law.dvs K) (d_law.kws K) (He.fAd K d_law.at_) fd
  d_BadText___init__ : ∃ fd, FunD K d_BadText___init__.name d_BadText___init__.qual d_BadText___init__.params d_BadText___init__.body d_BadText___init__.scope (d_BadText___init__.dvs K) (d_BadText___init__.kws K) (He.fAd K d_BadText___init__.at_) fd
  d_BadNumber___init__ : ∃ fd, FunD K d_BadNumber___init__.name d_BadNumber___init__.qual d_BadNumber___init__.params d_BadNumber___init__.body d_BadNumber___init__.scope (d_BadNumber___init__.dvs K) (d_BadNumber___init__.kws K) (He.fAd K d_BadNumber___init__.at_) fd
  d_BadRun___init__ : ∃ fd, FunD K d_BadRun___init__.name d_BadRun___init__.qual d_BadRun___init__.params d_BadRun___init__.body d_BadRun___init__.scope (d_BadRun___init__.dvs K) (d_BadRun___init__.kws K) (He.fAd K d_BadRun___init__.at_) fd
  sup_Join : ∃ fd, SupI.SupTxt PP K mg (He.ga K "Join") (He.fAd K d_Join___init__.at_) (He.ma K (He.ga K "Market") "__init__") (HkK.cellAd K d_Join___init__.at_) (HkK.codeAd K d_Join___init__.at_) fd d_Join___init__.qual d_Join___init__.params d_Join___init__.body d_Join___init__.scope ∧ ∃ cd, PySem.W.clsIn K (He.ga K "Join") = some cd
  kind_Join : ∃ u, Con K (He.ga K "Join") "KIND" (.str "join") u
  f__eq___Join : PySem.W.findIn K (.ref (He.ga K "Join")) "__eq__" = some (some (.ref (He.ma K (He.ga K "Market") "__eq__")))
  f__len___Join : PySem.W.findIn K (.ref (He.ga K "Join")) "__len__" = some (some (.ref (He.ma K (He.ga K "Market") "__len__")))
  cc_Join : PySem.W.findIn K (.ref (He.ga K "Join")) "__class__" = some (some (.builtin "object.__class__"))
  mo_Join : PySem.W.mroIn K (He.ga K "Join") (.type "object") = some true
  km_Join : PySem.W.kitOne K (.ref (He.ga K "Join")) (.ref (He.ga K "Market")) = some true
  nf_Join_Join : PySem.W.notFirst K (He.ga K "Join") (.ref (He.ga K "Join")) = true
  nf_Join_Lap : PySem.W.notFirst K (He.ga K "Join") (.ref (He.ga K "Lap")) = true
  sup_Lap : ∃ fd, SupI.SupTxt PP K mg (He.ga K "Lap") (He.fAd K d_Lap___init__.at_) (He.ma K (He.ga K "Market") "__init__") (HkK.cellAd K d_Lap___init__.at_) (HkK.codeAd K d_Lap___init__.at_) fd d_Lap___init__.qual d_Lap___init__.params d_Lap___init__.body d_Lap___init__.scope ∧ ∃ cd, PySem.W.clsIn K (He.ga K "Lap") = some cd
  kind_Lap : ∃ u, Con K (He.ga K "Lap") "KIND" (.str "lap") u
  f__eq___Lap : PySem.W.findIn K (.ref (He.ga K "Lap")) "__eq__" = some (some (.ref (He.ma K (He.ga K "Market") "__eq__")))
  f__len___Lap : PySem.W.findIn K (.ref (He.ga K "Lap")) "__len__" = some (some (.ref (He.ma K (He.ga K "Market") "__len__")))
  cc_Lap : PySem.W.findIn K (.ref (He.ga K "Lap")) "__class__" = some (some (.builtin "object.__class__"))
  mo_Lap : PySem.W.mroIn K (He.ga K "Lap") (.type "object") = some true
  km_Lap : PySem.W.kitOne K (.ref (He.ga K "Lap")) (.ref (He.ga K "Market")) = some true
  nf_Lap_Join : PySem.W.notFirst K (He.ga K "Lap") (.ref (He.ga K "Join")) = true
  nf_Lap_Lap : PySem.W.notFirst K (He.ga K "Lap") (.ref (He.ga K "Lap")) = true
  i__eq__ : PySem.W.isFn K (.ref (He.ma K (He.ga K "Market") "__eq__")) = true
  i__len__ : PySem.W.isFn K (.ref (He.ma K (He.ga K "Market") "__len__")) = true
  gs : PySem.W.specialIn K (.builtin "object.__class__") "__get__" = some (some (.builtin "getset_descriptor.__get__"))
  tk : PySem.W.takesIn K (.builtin "object.__class__") = some true
  xc_BadText : ∃ nm q N bs bm sn sub ab col dd k0 k1 k2 k3 k5, K.lookup (He.ga K "BadText") = some (excClassObj nm q (He.ga K "BadText") N bs bm true sn sub ab col dd k0 k1 k2 k3 k5 "ValueError.__new__") ∧ PySem.HandSPX.refsVE bm = true
  xsa_BadText : PySem.W.findIn K (.ref (He.ga K "BadText")) "__setattr__" = some (some (.builtin "object.__setattr__"))
  xga_BadText : PySem.W.findIn K (.ref (He.ga K "BadText")) "__getattribute__" = some (some (.builtin "BaseException.__getattribute__"))
  xgg_BadText : PySem.W.findIn K (.ref (He.ga K "BadText")) "__getattr__" = some none
  xnn_BadText : PySem.W.findIn K (.ref (He.ga K "BadText")) "line" = some none
  xii_BadText : PySem.W.findIn K (.ref (He.ga K "BadText")) "__init__" = some (some (.ref (He.ma K (He.ga K "BadText") "__init__")))
  xcc_BadText : PySem.W.findIn K (.ref (He.ga K "BadText")) "__class__" = some (some (.builtin "object.__class__"))
  xt_BadText : PySem.W.typeIn K (.ref (He.ma K (He.ga K "BadText") "__init__")) = some (.type "function")
  xk_BadText : PySem.W.keepIn K (.ref (He.ga K "BadText")) = true
  xs_BadText : PySem.W.subIn K (.ref (He.ga K "BadText")) (.type "BaseException") = some true
  xy_BadText : PySem.W.typeIn K (.ref (He.ga K "BadText")) = some (.type "type")
  xd_BadText : PySem.W.hasDictIn K (He.ga K "BadText") = true
  xo_BadText : PySem.W.mroIn K (He.ga K "BadText") (.type "object") = some true
  xc_BadNumber : ∃ nm q N bs bm sn sub ab col dd k0 k1 k2 k3 k5, K.lookup (He.ga K "BadNumber") = some (excClassObj nm q (He.ga K "BadNumber") N bs bm true sn sub ab col dd k0 k1 k2 k3 k5 "ValueError.__new__") ∧ PySem.HandSPX.refsVE bm = true
  xsa_BadNumber : PySem.W.findIn K (.ref (He.ga K "BadNumber")) "__setattr__" = some (some (.builtin "object.__setattr__"))
  xga_BadNumber : PySem.W.findIn K (.ref (He.ga K "BadNumber")) "__getattribute__" = some (some (.builtin "BaseException.__getattribute__"))
  xgg_BadNumber : PySem.W.findIn K (.ref (He.ga K "BadNumber")) "__getattr__" = some none
  xnn_BadNumber : PySem.W.findIn K (.ref (He.ga K "BadNumber")) "name" = some none
  xii_BadNumber : PySem.W.findIn K (.ref (He.ga K "BadNumber")) "__init__" = some (some (.ref (He.ma K (He.ga K "BadNumber") "__init__")))
  xcc_BadNumber : PySem.W.findIn K (.ref (He.ga K "BadNumber")) "__class__" = some (some (.builtin "object.__class__"))
  xt_BadNumber : PySem.W.typeIn K (.ref (He.ma K (He.ga K "BadNumber") "__init__")) = some (.type "function")
  xk_BadNumber : PySem.W.keepIn K (.ref (He.ga K "BadNumber")) = true
  xs_BadNumber : PySem.W.subIn K (.ref (He.ga K "BadNumber")) (.type "BaseException") = some true
  xy_BadNumber : PySem.W.typeIn K (.ref (He.ga K "BadNumber")) = some (.type "type")
  xd_BadNumber : PySem.W.hasDictIn K (He.ga K "BadNumber") = true
  xo_BadNumber : PySem.W.mroIn K (He.ga K "BadNumber") (.type "object") = some true
  xc_BadRun : ∃ nm q N bs bm sn sub ab col dd k0 k1 k2 k3 k5, K.lookup (He.ga K "BadRun") = some (excClassObj nm q (He.ga K "BadRun") N bs bm true sn sub ab col dd k0 k1 k2 k3 k5 "ValueError.__new__") ∧ PySem.HandSPX.refsVE bm = true
  xsa_BadRun : PySem.W.findIn K (.ref (He.ga K "BadRun")) "__setattr__" = some (some (.builtin "object.__setattr__"))
  xga_BadRun : PySem.W.findIn K (.ref (He.ga K "BadRun")) "__getattribute__" = some (some (.builtin "BaseException.__getattribute__"))
  xgg_BadRun : PySem.W.findIn K (.ref (He.ga K "BadRun")) "__getattr__" = some none
  xnn_BadRun : PySem.W.findIn K (.ref (He.ga K "BadRun")) "place" = some none
  xii_BadRun : PySem.W.findIn K (.ref (He.ga K "BadRun")) "__init__" = some (some (.ref (He.ma K (He.ga K "BadRun") "__init__")))
  xcc_BadRun : PySem.W.findIn K (.ref (He.ga K "BadRun")) "__class__" = some (some (.builtin "object.__class__"))
  xt_BadRun : PySem.W.typeIn K (.ref (He.ma K (He.ga K "BadRun") "__init__")) = some (.type "function")
  xk_BadRun : PySem.W.keepIn K (.ref (He.ga K "BadRun")) = true
  xs_BadRun : PySem.W.subIn K (.ref (He.ga K "BadRun")) (.type "BaseException") = some true
  xy_BadRun : PySem.W.typeIn K (.ref (He.ga K "BadRun")) = some (.type "type")
  xd_BadRun : PySem.W.hasDictIn K (He.ga K "BadRun") = true
  xo_BadRun : PySem.W.mroIn K (He.ga K "BadRun") (.type "object") = some true
  kp : PySem.W.kitOne K (.ref (He.ga K "BadText")) (.ref (He.ga K "PartsError")) = some true
  kr : PySem.W.kitOne K (.ref (He.ga K "BadText")) (.ref (He.ga K "BadRun")) = some false
theorem ctx_of {K : PySem.W.Frag} {h : Heap} {mg : Str → Option Value} (X : K.In h) (G : h.Ns mainGlobals mg) (c : HkK.obsK fa fn fc ex K = HkK.valK fn fc) : Ctx K mg := by
  have S := HkK.saysD_of c
  exact {
    g_is_whole := He.glo_ok X G (S.fact 0 rfl),
    g_is_within := He.glo_ok X G (S.fact 1 rfl),
    g_is_count := He.glo_ok X G (S.fact 2 rfl),
    g_is_row := He.glo_ok X G (S.fact 3 rfl),
    g_is_pair := He.glo_ok X G (S.fact 4 rfl),
    g_is_run := He.glo_ok X G (S.fact 5 rfl),
    g_first_wrong := He.glo_ok X G (S.fact 6 rfl),
    g_set_of := He.glo_ok X G (S.fact 7 rfl),
    g_checked_runs := He.glo_ok X G (S.fact 8 rfl),
    g_market_text := He.glo_ok X G (S.fact 9 rfl),
    g_market_from := He.glo_ok X G (S.fact 10 rfl),
    g_row_line := He.glo_ok X G (S.fact 11 rfl),
    g_part_line := He.glo_ok X G (S.fact 12 rfl),
    g_number_of := He.glo_ok X G (S.fact 13 rfl),
    g__law_draws := He.glo_ok X G (S.fact 14 rfl),
    g__law_take := He.glo_ok X G (S.fact 15 rfl),
    g__law_chains := He.glo_ok X G (S.fact 16 rfl),
    g__law_special := He.glo_ok X G (S.fact 17 rfl),
    g__law_market := He.glo_ok X G (S.fact 18 rfl),
    g__law_built := He.glo_ok X G (S.fact 19 rfl),
    g__law_kind := He.glo_ok X G (S.fact 20 rfl),
    g__law_lines := He.glo_ok X G (S.fact 21 rfl),
    g__law_joined := He.glo_ok X G (S.fact 22 rfl),
    g__law_refused := He.glo_ok X G (S.fact 23 rfl),
    g__law_wrong_head := He.glo_ok X G (S.fact 24 rfl),
    g__law_wrong_part := He.glo_ok X G (S.fact 25 rfl),
    g__law_texts_refused := He.glo_ok X G (S.fact 26 rfl),
    g_law := He.glo_ok X G (S.fact 27 rfl),
    g_Market := He.glo_ok X G (S.fact 28 rfl),
    g_Join := He.glo_ok X G (S.fact 29 rfl),
    g_Lap := He.glo_ok X G (S.fact 30 rfl),
    g_PartsError := He.glo_ok X G (S.fact 31 rfl),
    g_BadText := He.glo_ok X G (S.fact 32 rfl),
    g_BadNumber := He.glo_ok X G (S.fact 33 rfl),
    g_BadRun := He.glo_ok X G (S.fact 34 rfl),
    g_BadSet := He.glo_ok X G (S.fact 35 rfl),
    b_len := He.free_ok X G (S.fact 36 rfl),
    b_isinstance := He.free_ok X G (S.fact 37 rfl),
    b_int := He.free_ok X G (S.fact 38 rfl),
    b_bool := He.free_ok X G (S.fact 39 rfl),
    b_tuple := He.free_ok X G (S.fact 40 rfl),
    b_list := He.free_ok X G (S.fact 41 rfl),
    b_enumerate := He.free_ok X G (S.fact 42 rfl),
    b_range := He.free_ok X G (S.fact 43 rfl),
    b_set := He.free_ok X G (S.fact 44 rfl),
    b_sorted := He.free_ok X G (S.fact 45 rfl),
    b_str := He.free_ok X G (S.fact 46 rfl),
    b_min := He.free_ok X G (S.fact 47 rfl),
    b_super := He.free_ok X G (S.fact 48 rfl),
    b_all := He.free_ok X G (S.fact 49 rfl),
    c_GREATEST_SIZE := He.int_ok X G (S.fact 50 rfl),
    c_MOST_DIGITS := He.int_ok X G (S.fact 51 rfl),
    c_DIGITS := He.str_ok X G (S.fact 52 rfl),
    cl_Join := He.cls_ok (S.fact 53 rfl),
    mk_Join := He.mkr_ok (S.fact 54 rfl),
    no_Join_size := He.noat_ok (S.fact 55 rfl),
    no_Join_runs := He.noat_ok (S.fact 56 rfl),
    no_Join_gone := He.noat_ok (S.fact 57 rfl),
    cl_Lap := He.cls_ok (S.fact 58 rfl),
    mk_Lap := He.mkr_ok (S.fact 59 rfl),
    no_Lap_size := He.noat_ok (S.fact 60 rfl),
    no_Lap_runs := He.noat_ok (S.fact 61 rfl),
    no_Lap_gone := He.noat_ok (S.fact 62 rfl),
    te_BadText := He.exm_ok (S.fact 63 rfl),
    te_BadNumber := He.exm_ok (S.fact 64 rfl),
    te_BadRun := He.exm_ok (S.fact 65 rfl),
    d_is_whole := S.def_ 0 rfl,
    d_is_within := S.def_ 1 rfl,
    d_is_count := S.def_ 2 rfl,
    d_is_row := S.def_ 3 rfl,
    d_is_pair := S.def_ 4 rfl,
    d_is_run := S.def_ 5 rfl,
    d_first_wrong := S.def_ 6 rfl,
    d_set_of := S.def_ 7 rfl,
    d_Market___init__ := S.def_ 8 rfl,
    d_Market___len__ := S.def_ 9 rfl,
    d_Market___eq__ := S.def_ 10 rfl,
    d_checked_runs := S.def_ 11 rfl,
    d_market_text := S.def_ 12 rfl,
    d_market_from := S.def_ 13 rfl,
    d_row_line := S.def_ 14 rfl,
    d_part_line := S.def_ 15 rfl,
    d_number_of := S.def_ 16 rfl,
    d__law_draws := S.def_ 17 rfl,
    d__law_take := S.def_ 18 rfl,
    d__law_chains := S.def_ 19 rfl,
    d__law_special := S.def_ 20 rfl,
    d__law_market := S.def_ 21 rfl,
    d__law_built := S.def_ 22 rfl,
    d__law_kind := S.def_ 23 rfl,
    d__law_lines := S.def_ 24 rfl,
    d__law_joined := S.def_ 25 rfl,
    d__law_refused := S.def_ 26 rfl,
    d__law_wrong_head := S.def_ 27 rfl,
    d__law_wrong_part := S.def_ 28 rfl,
    d__law_texts_refused := S.def_ 29 rfl,
    d_law := S.def_ 30 rfl,
    d_BadText___init__ := S.def_ 31 rfl,
    d_BadNumber___init__ := S.def_ 32 rfl,
    d_BadRun___init__ := S.def_ 33 rfl,
    sup_Join := HkK.supB_ok (d := d_Join___init__) (HkK.says_fc c 0 rfl) (HkK.says_ex c 0 rfl) (He.free_ok X G (S.fact 48 rfl)) rfl,
    kind_Join := He.conB_ok (HkK.says_ex c 1 rfl),
    f__eq___Join := He.eqO_ok (HkK.says_ex c 2 rfl),
    f__len___Join := He.eqO_ok (HkK.says_ex c 3 rfl),
    cc_Join := He.eqO_ok (HkK.says_ex c 4 rfl),
    mo_Join := of_decide_eq_true (HkK.says_ex c 5 rfl),
    km_Join := of_decide_eq_true (HkK.says_ex c 6 rfl),
    nf_Join_Join := (HkK.says_ex c 7 rfl),
    nf_Join_Lap := (HkK.says_ex c 8 rfl),
    sup_Lap := HkK.supB_ok (d := d_Lap___init__) (HkK.says_fc c 1 rfl) (HkK.says_ex c 9 rfl) (He.free_ok X G (S.fact 48 rfl)) rfl,
    kind_Lap := He.conB_ok (HkK.says_ex c 10 rfl),
    f__eq___Lap := He.eqO_ok (HkK.says_ex c 11 rfl),
    f__len___Lap := He.eqO_ok (HkK.says_ex c 12 rfl),
    cc_Lap := He.eqO_ok (HkK.says_ex c 13 rfl),
    mo_Lap := of_decide_eq_true (HkK.says_ex c 14 rfl),
    km_Lap := of_decide_eq_true (HkK.says_ex c 15 rfl),
    nf_Lap_Join := (HkK.says_ex c 16 rfl),
    nf_Lap_Lap := (HkK.says_ex c 17 rfl),
    i__eq__ := (HkK.says_ex c 18 rfl),
    i__len__ := (HkK.says_ex c 19 rfl),
    gs := He.eqO_ok (HkK.says_ex c 20 rfl),
    tk := of_decide_eq_true (HkK.says_ex c 21 rfl),
    xc_BadText := HkK.excB_ok (HkK.says_ex c 22 rfl),
    xsa_BadText := He.eqO_ok (HkK.says_ex c 23 rfl),
    xga_BadText := He.eqO_ok (HkK.says_ex c 24 rfl),
    xgg_BadText := He.eqO_ok (HkK.says_ex c 25 rfl),
    xnn_BadText := He.eqO_ok (HkK.says_ex c 26 rfl),
    xii_BadText := He.eqO_ok (HkK.says_ex c 27 rfl),
    xcc_BadText := He.eqO_ok (HkK.says_ex c 28 rfl),
    xt_BadText := of_decide_eq_true (HkK.says_ex c 29 rfl),
    xk_BadText := (HkK.says_ex c 30 rfl),
    xs_BadText := of_decide_eq_true (HkK.says_ex c 31 rfl),
    xy_BadText := of_decide_eq_true (HkK.says_ex c 32 rfl),
    xd_BadText := (HkK.says_ex c 33 rfl),
    xo_BadText := of_decide_eq_true (HkK.says_ex c 34 rfl),
    xc_BadNumber := HkK.excB_ok (HkK.says_ex c 35 rfl),
    xsa_BadNumber := He.eqO_ok (HkK.says_ex c 36 rfl),
    xga_BadNumber := He.eqO_ok (HkK.says_ex c 37 rfl),
    xgg_BadNumber := He.eqO_ok (HkK.says_ex c 38 rfl),
    xnn_BadNumber := He.eqO_ok (HkK.says_ex c 39 rfl),
    xii_BadNumber := He.eqO_ok (HkK.says_ex c 40 rfl),
    xcc_BadNumber := He.eqO_ok (HkK.says_ex c 41 rfl),
    xt_BadNumber := of_decide_eq_true (HkK.says_ex c 42 rfl),
    xk_BadNumber := (HkK.says_ex c 43 rfl),
    xs_BadNumber := of_decide_eq_true (HkK.says_ex c 44 rfl),
    xy_BadNumber := of_decide_eq_true (HkK.says_ex c 45 rfl),
    xd_BadNumber := (HkK.says_ex c 46 rfl),
    xo_BadNumber := of_decide_eq_true (HkK.says_ex c 47 rfl),
    xc_BadRun := HkK.excB_ok (HkK.says_ex c 48 rfl),
    xsa_BadRun := He.eqO_ok (HkK.says_ex c 49 rfl),
    xga_BadRun := He.eqO_ok (HkK.says_ex c 50 rfl),
    xgg_BadRun := He.eqO_ok (HkK.says_ex c 51 rfl),
    xnn_BadRun := He.eqO_ok (HkK.says_ex c 52 rfl),
    xii_BadRun := He.eqO_ok (HkK.says_ex c 53 rfl),
    xcc_BadRun := He.eqO_ok (HkK.says_ex c 54 rfl),
    xt_BadRun := of_decide_eq_true (HkK.says_ex c 55 rfl),
    xk_BadRun := (HkK.says_ex c 56 rfl),
    xs_BadRun := of_decide_eq_true (HkK.says_ex c 57 rfl),
    xy_BadRun := of_decide_eq_true (HkK.says_ex c 58 rfl),
    xd_BadRun := (HkK.says_ex c 59 rfl),
    xo_BadRun := of_decide_eq_true (HkK.says_ex c 60 rfl),
    kp := of_decide_eq_true (HkK.says_ex c 61 rfl),
    kr := of_decide_eq_true (HkK.says_ex c 62 rfl) }
end K01


set_option Elab.async false
set_option linter.all false
set_option maxRecDepth 100000
set_option maxHeartbeats 0
namespace K01
open PySem PySem.Spec PyProof.Rows L2
abbrev R : PySem.W.OpenRow := PySem.W.OpenLaw.row PySem.Challenge.rw_keptparts_k01_texts_and_back
abbrev hk : PySem.W.Hook := HkK.hookK 6 fa fn fc ex
def ob (s : PySem.W.SharedT) : HkK.AlK := HkK.obsK fa fn fc ex (HkK.frK 6 (HandSHeadRun.getT s))
theorem ob_eq (s : PySem.W.SharedT) : ob s = hk.obs s.abs := HkK.obsK_eq (HandSHeadRun.getT_eq s)
def names1 : List PySem.Str := ["_wall", "PartsError", "BadNumber", "BadRun", "BadSet", "NotJoin", "BadText", "is_whole", "is_within", "is_count", "is_row", "is_pair", "is_run", "first_wrong", "set_of", "both", "GREATEST_SIZE", "Market", "Join", "Lap", "checked_runs", "gone_after", "end_to_end_shape", "beside_shape", "joined_gone"]
def names2 : List PySem.Str := ["turned_runs", "repeated_parts", "check_times", "check_join", "DIGITS", "MOST_DIGITS", "market_text", "market_from", "row_line", "part_line", "number_of", "_law_draws", "_law_take", "_law_chains", "_law_special", "_law_market", "_law_built", "_law_kind", "_law_lines", "_law_joined", "_law_refused", "_law_wrong_head", "_law_wrong_part", "_law_texts_refused"]
def names : List PySem.Str := names1 ++ names2
theorem run (w : World) : HandSHeadRun.RunEq R (PySem.W.view R.prog [55]) hk ob 40000 names w := by
  intro os
  kernel_rfl
end K01


set_option Elab.async false
set_option linter.all false
set_option maxRecDepth 100000
set_option maxHeartbeats 4000000
namespace K01
open PySem PySem.Spec PyProof.Rows L2
open Evl (Ex)
section
variable {w : World} {K : PySem.W.Frag} {mg : Str → Option Value} {base : Heap}
/-- the module's def x keeps the promise -/
def Has (w : World) (K : PySem.W.Frag) (mg : Str → Option Value) (base : Heap) (CX : CXT) (x : Str) (k : Nat) (ps : List Str) (sp : Sp) : Prop :=
  ∃ (f : Addr) (fd : FuncData), mg x = some (.ref f) ∧ PySem.W.keepIn K (.ref f) = true ∧ FnOk PP w K mg base CX k f fd ps sp ∧ Binds K fd ps []
theorem has_of {x : Str} {st : Stmt} {f : Addr} {CX : CXT} {k : Nat} {ps : List Str} {sp : Sp} (d : ∃ fd, FunD K x x (defArgs st) (defBody st) (defScope st) [] [] f fd) (g : mg x = some (.ref f))
    (h : ∀ (kV doc pm : Value) (an : Option Addr) (cdv ct : Value) (us : List Value), us.length = ps.length → bindArgs (PySem.W.fnOf x x (defArgs st) (defBody st) (defScope st) .none kV doc pm an cdv ct) ⟨us, []⟩ = pure (ps.zip us))
    (ok : ∀ fd, FunD K x x (defArgs st) (defBody st) (defScope st) [] [] f fd → FnOk PP w K mg base CX k f fd ps sp) : Has w K mg base CX x k ps sp := by
  obtain ⟨fd, F⟩ := d
  exact ⟨f, fd, g, F.kp, ok fd F, F.bindsN h⟩
theorem Has.imp {CX : CXT} {x : Str} {k : Nat} {ps : List Str} {sp sp' : Sp} (H : Has w K mg base CX x k ps sp) (h : ∀ vs H Q E, sp' vs H Q E → sp vs H Q E) : Has w K mg base CX x k ps sp' := by
  obtain ⟨f, fd, a, b, c, d⟩ := H
  exact ⟨f, fd, a, b, c.imp h, d⟩
theorem ok0 {x : Str} {st : Stmt} {f : Addr} {fd : FuncData} {N ps : List Str} {k : Nat} {sp : Sp} {dvs : List V} {kws : List (Str × V)} {qual : Str} (F : FunD K x qual (defArgs st) (defBody st) (defScope st) dvs kws f fd) (S : FnScope N ps (defScope st)) (len : ∀ vs H Q E, sp vs H Q E → vs.length = ps.length)
    (hbody : ∀ (cdv : Value) (A : Around) (outer : List Env) (s : Shared) (H : Hp) (vs : List V) (Q : VK) (E : XK), Room k (A.deeper (envOfC qual (defScope st) s.heap.objs.size f cdv)) → sp vs H Q E →
      ∃ t, PSs (cxOf CX0 PP w K mg base N qual (defScope st) f cdv A outer s H E).nox (defBody st) t ∧ t { nx := fun _ H' => Q .non H', rt := Q } (start N vs) H) : FnOk PP w K mg base CX0 (k + 1) f fd ps sp := by
  refine F.ok S len fun cdv A outer s H vs Q E hr h => ?_
  obtain ⟨t, h1, h2⟩ := hbody cdv A outer s H vs Q E hr h
  exact ⟨t, h1.nox, h2⟩
/-- isinstance(an int, int | bool | str ..) -/
theorem isi_b {K : PySem.W.Frag} {H : Hp} {x : V} {a b : String} {r : Bool} {Q : VK} (hx : TyX K H x (.type a)) (hk : kitB a b = some r) (q : Q (.bl r) H) : rIsi K [x, .ty b] H Q := ⟨x, .ty b, _, _, r, rfl, .ty b, hx, kit_ty hk, q⟩

/-! ### checks -/
def spWhole : Sp := fun vs H Q _ => ∃ n : Int, vs = [.int n] ∧ Q (.bl true) H
theorem sc_is_whole : FnScope ["value"] ["value"] (defScope s_is_whole) := ⟨rfl, rfl, rfl, by decide +kernel, rfl, by decide +kernel, by decide +kernel⟩
theorem has_is_whole (T : Ctx K mg) : Has w K mg base CX0 "is_whole" 1 ["value"] spWhole := by
  refine has_of (st := s_is_whole) (f := He.ga K "is_whole") T.d_is_whole T.g_is_whole (fun _ _ _ _ _ _ us hl => match us, hl with | [_], _ => rfl) fun fd F => ?_
  refine ok0 F sc_is_whole (fun vs H Q E h => ?_) (fun cdv A outer s H vs Q E hr h => ?_)
  · obtain ⟨n, rfl, _⟩ := h
    rfl
  · obtain ⟨n, rfl, k⟩ := h
    refine ⟨_, pss_one (ps_ret (pe_and (pe_callB call_isi (by rfl) T.b_isinstance (by decide +kernel) (pa_cons (pv 0) (pa_cons (pe_bltn (by rfl) T.b_int (by decide +kernel) (v := .ty "int") rfl) pa_nil)))
      (pe_one (pe_not (pe_callB call_isi (by rfl) T.b_isinstance (by decide +kernel) (pa_cons (pv 0) (pa_cons (pe_bltn (by rfl) T.b_bool (by decide +kernel) (v := .ty "bool") rfl) pa_nil))))))), ?_⟩
    refine ⟨_, rfl, _, _, _, _, true, rfl, .ty "int", .base (.int n), kit_ty (by decide +kernel), true, rfl, iteT ?_⟩
    exact ⟨_, rfl, _, _, _, _, false, rfl, .ty "bool", .base (.int n), kit_ty (by decide +kernel), false, rfl, k⟩

def spWithin : Sp := fun vs H Q _ => ∃ n lo hi : Int, vs = [.int n, .int lo, .int hi] ∧ Q (.bl (decide (lo ≤ n ∧ n ≤ hi))) H
theorem sc_is_within : FnScope ["value", "low", "high"] ["value", "low", "high"] (defScope s_is_within) := ⟨rfl, rfl, rfl, by decide +kernel, rfl, by decide +kernel, by decide +kernel⟩
theorem has_is_within (T : Ctx K mg) : Has w K mg base CX0 "is_within" 2 ["value", "low", "high"] spWithin := by
  obtain ⟨f1, fd1, m1, kp1, F1, b1⟩ := has_is_whole (w := w) (base := base) T
  refine has_of (st := s_is_within) (f := He.ga K "is_within") T.d_is_within T.g_is_within (fun _ _ _ _ _ _ us hl => match us, hl with | [_, _, _], _ => rfl) fun fd F => ?_
  refine ok0 F sc_is_within (fun vs H Q E h => ?_) (fun cdv A outer s H vs Q E hr h => ?_)
  · obtain ⟨n, lo, hi, rfl, _⟩ := h
    rfl
  · obtain ⟨n, lo, hi, rfl, k⟩ := h
    refine ⟨_, pss_one (ps_ret (pe_and (pe_call F1 hr (by rfl) m1 kp1 b1 .nil pass0 (pa_cons (pv 0) pa_nil)) (pe_one (pe_chain op_le op_le (pv 1) (pv 0) (pv 2))))), ?_⟩
    refine ⟨_, rfl, n, rfl, true, rfl, iteT ?_⟩
    refine ⟨_, rfl, _, rfl, _, _, rfl, rfl, _, rfl, ?_⟩
    by_cases c : lo ≤ n
    · rw [decide_eq_true c]
      refine iteT ⟨_, rfl, _, _, rfl, rfl, ?_⟩
      have e : decide (lo ≤ n ∧ n ≤ hi) = decide (n ≤ hi) := by simp [c]
      rw [e] at k
      exact k
    · rw [decide_eq_false c]
      refine iteF ?_
      have e : decide (lo ≤ n ∧ n ≤ hi) = false := by simp [c]
      rw [e] at k
      exact k
def spCount : Sp := fun vs H Q _ => ∃ n : Int, vs = [.int n] ∧ Q (.bl (decide (0 ≤ n))) H
theorem sc_is_count : FnScope ["value"] ["value"] (defScope s_is_count) := ⟨rfl, rfl, rfl, by decide +kernel, rfl, by decide +kernel, by decide +kernel⟩
theorem has_is_count (T : Ctx K mg) : Has w K mg base CX0 "is_count" 2 ["value"] spCount := by
  obtain ⟨f1, fd1, m1, kp1, F1, b1⟩ := has_is_whole (w := w) (base := base) T
  refine has_of (st := s_is_count) (f := He.ga K "is_count") T.d_is_count T.g_is_count (fun _ _ _ _ _ _ us hl => match us, hl with | [_], _ => rfl) fun fd F => ?_
  refine ok0 F sc_is_count (fun vs H Q E h => ?_) (fun cdv A outer s H vs Q E hr h => ?_)
  · obtain ⟨n, rfl, _⟩ := h
    rfl
  · obtain ⟨n, rfl, k⟩ := h
    refine ⟨_, pss_one (ps_ret (pe_and (pe_call F1 hr (by rfl) m1 kp1 b1 .nil pass0 (pa_cons (pv 0) pa_nil)) (pe_one (pe_cmpR op_ge (pv 0) pe_int (nomark _))))), ?_⟩
    exact ⟨_, rfl, n, rfl, true, rfl, iteT ⟨_, rfl, _, _, rfl, rfl, k⟩⟩
/-- a list or a tuple stands at a -/
def RowAt (H : Hp) (a : Addr) : Prop := (∃ xs, H a = some (.lst xs)) ∨ ∃ xs, H a = some (.tup xs)
def spRow : Sp := fun vs H Q _ => ∃ a, vs = [.ref a] ∧ RowAt H a ∧ ∀ H', Ex H H' → Q (.bl true) H'
theorem sc_is_row : FnScope ["value"] ["value"] (defScope s_is_row) := ⟨rfl, rfl, rfl, by decide +kernel, rfl, by decide +kernel, by decide +kernel⟩
theorem has_is_row (T : Ctx K mg) : Has w K mg base CX0 "is_row" 1 ["value"] spRow := by
  refine has_of (st := s_is_row) (f := He.ga K "is_row") T.d_is_row T.g_is_row (fun _ _ _ _ _ _ us hl => match us, hl with | [_], _ => rfl) fun fd F => ?_
  refine ok0 F sc_is_row (fun vs H Q E h => ?_) (fun cdv A outer s H vs Q E hr h => ?_)
  · obtain ⟨a, rfl, _⟩ := h
    rfl
  · obtain ⟨a, rfl, ha, k⟩ := h
    refine ⟨_, pss_one (ps_ret (pe_callB call_isiT (by rfl) T.b_isinstance (by decide +kernel) (pa_cons (pv 0) (pa_cons (pe_tup (pa_cons (pe_bltn (by rfl) T.b_tuple (by decide +kernel) (v := .ty "tuple") rfl) (pa_cons (pe_bltn (by rfl) T.b_list (by decide +kernel) (v := .ty "list") rfl) pa_nil))) pa_nil)))), ?_⟩
    refine ⟨_, rfl, (by show 2 ≤ sizeLine; decide), fun p hp => ?_⟩
    have hk : ∀ o, H a = some o → upd H p (.tup [.ty "tuple", .ty "list"]) a = some o := fun o e => by rw [upd_ne (ne_of_none e hp)]; exact e
    rcases ha with ⟨xs, e⟩ | ⟨xs, e⟩
    · exact ⟨_, p, _, _, _, true, rfl, upd_same, .cons (.ty "tuple") (.cons (.ty "list") .nil), .base (.lst (hk _ e)), kitAny_cons (kit_ty (by decide +kernel : kitB "list" "tuple" = some false)) (fun _ => kitAny_cons (kit_ty (by decide +kernel : kitB "list" "list" = some true)) (fun h => nomatch h) fun _ => rfl) (fun h => nomatch h), k _ (Ex.new hp)⟩
    · exact ⟨_, p, _, _, _, true, rfl, upd_same, .cons (.ty "tuple") (.cons (.ty "list") .nil), .base (.tup (hk _ e)), kitAny_cons (kit_ty (by decide +kernel : kitB "tuple" "tuple" = some true)) (fun h => nomatch h) (fun _ => rfl), k _ (Ex.new hp)⟩
def spPair : Sp := fun vs H Q _ => ∃ a x y, vs = [.ref a] ∧ H a = some (.tup [x, y]) ∧ ∀ H', Ex H H' → Q (.bl true) H'
theorem sc_is_pair : FnScope ["value"] ["value"] (defScope s_is_pair) := ⟨rfl, rfl, rfl, by decide +kernel, rfl, by decide +kernel, by decide +kernel⟩
theorem has_is_pair (T : Ctx K mg) : Has w K mg base CX0 "is_pair" 2 ["value"] spPair := by
  obtain ⟨f1, fd1, m1, kp1, F1, b1⟩ := has_is_row (w := w) (base := base) T
  refine has_of (st := s_is_pair) (f := He.ga K "is_pair") T.d_is_pair T.g_is_pair (fun _ _ _ _ _ _ us hl => match us, hl with | [_], _ => rfl) fun fd F => ?_
  refine ok0 F sc_is_pair (fun vs H Q E h => ?_) (fun cdv A outer s H vs Q E hr h => ?_)
  · obtain ⟨a, x, y, rfl, _⟩ := h
    rfl
  · obtain ⟨a, x, y, rfl, ha, k⟩ := h
    refine ⟨_, pss_one (ps_ret (pe_and (pe_call F1 hr (by rfl) m1 kp1 b1 .nil pass0 (pa_cons (pv 0) pa_nil)) (pe_one (pe_cmpR op_eq (pe_callB call_len_seq (by rfl) T.b_len PySem.boot_len (pa_cons (pv 0) pa_nil)) pe_int (nomark _))))), ?_⟩
    refine ⟨_, rfl, a, rfl, .inr ⟨_, ha⟩, fun H1 e1 => ⟨true, rfl, iteT ?_⟩⟩
    refine ⟨_, rfl, a, [x, y], rfl, .inr (SqT.of (e1 _ _ ha)), rfl, ?_⟩
    show Q (V.bl (decide (V.int 2 = V.int 2))) H1
    rw [decide_eq_true rfl]
    exact k H1 e1
def spRun : Sp := fun vs H Q _ => ∃ (s : Int) (a : Addr) (x y : Int), vs = [.int s, .ref a] ∧ H a = some (.tup [.int x, .int y]) ∧ ∀ H', Ex H H' → Q (.bl (decide (0 ≤ x ∧ x < y ∧ y ≤ s))) H'
theorem sc_is_run : FnScope ["size", "run"] ["size", "run"] (defScope s_is_run) := ⟨rfl, rfl, rfl, by decide +kernel, rfl, by decide +kernel, by decide +kernel⟩
theorem has_is_run (T : Ctx K mg) : Has w K mg base CX0 "is_run" 3 ["size", "run"] spRun := by
  obtain ⟨f1, fd1, m1, kp1, F1, b1⟩ := has_is_pair (w := w) (base := base) T
  obtain ⟨f2, fd2, m2, kp2, F2, b2⟩ := has_is_within (w := w) (base := base) T
  refine has_of (st := s_is_run) (f := He.ga K "is_run") T.d_is_run T.g_is_run (fun _ _ _ _ _ _ us hl => match us, hl with | [_, _], _ => rfl) fun fd F => ?_
  refine ok0 F sc_is_run (fun vs H Q E h => ?_) (fun cdv A outer s H vs Q E hr h => ?_)
  · obtain ⟨s, a, x, y, rfl, _⟩ := h
    rfl
  · obtain ⟨s, a, x, y, rfl, ha, k⟩ := h
    refine ⟨_, pss_cons (ps_if (pt_not (pt_val (pe_call F1 hr (by rfl) m1 kp1 b1 .nil pass0 (pa_cons (pv 1) pa_nil)))) (pss_one (ps_ret pe_bl)) pss_nil)
      (pss_one (ps_ret (pe_and (pe_call F2 hr (by rfl) m2 kp2 b2 .nil pass0 (pa_cons (pe_ix ix_tup (pv 1) pe_int (fun _ _ => rfl)) (pa_cons pe_int (pa_cons (pv 0) pa_nil))))
        (pe_and (pe_call F2 hr (by rfl) m2 kp2 b2 .nil pass0 (pa_cons (pe_ix ix_tup (pv 1) pe_int (fun _ _ => rfl)) (pa_cons pe_int (pa_cons (pv 0) pa_nil))))
          (pe_one (pe_cmpR op_lt (pe_ix ix_tup (pv 1) pe_int (fun _ _ => rfl)) (pe_ix ix_tup (pv 1) pe_int (fun _ _ => rfl)) (nomark _))))))), ?_⟩
    refine ⟨_, rfl, a, _, _, rfl, ha, fun H1 e1 => ⟨true, rfl, iteF ?_⟩⟩
    have h1 := e1 _ _ ha
    have t1 : SqT K H1 a [V.int x, V.int y] := SqT.of h1
    refine ⟨_, rfl, a, _, _, _, rfl, rfl, t1, rfl, _, rfl, x, 0, s, rfl, _, rfl, ?_⟩
    have k1 := k H1 e1
    by_cases c1 : 0 ≤ x ∧ x ≤ s
    · rw [decide_eq_true c1]
      refine iteT ?_
      refine ⟨_, rfl, a, _, _, _, rfl, rfl, t1, rfl, _, rfl, y, 0, s, rfl, _, rfl, ?_⟩
      by_cases c2 : 0 ≤ y ∧ y ≤ s
      · rw [decide_eq_true c2]
        refine iteT ?_
        refine ⟨_, rfl, a, _, _, _, rfl, rfl, t1, rfl, _, rfl, a, _, _, _, rfl, rfl, t1, rfl, _, _, rfl, rfl, ?_⟩
        have e : decide (0 ≤ x ∧ x < y ∧ y ≤ s) = decide (x < y) := by
          apply decide_eq_decide.mpr
          omega
        rw [e] at k1
        exact k1
      · rw [decide_eq_false c2]
        refine iteF ?_
        have e : decide (0 ≤ x ∧ x < y ∧ y ≤ s) = false := decide_eq_false (by omega)
        rw [e] at k1
        exact k1
    · rw [decide_eq_false c1]
      refine iteF ?_
      have e : decide (0 ≤ x ∧ x < y ∧ y ≤ s) = false := decide_eq_false (by omega)
      rw [e] at k1
      exact k1
end
end K01


set_option Elab.async false
set_option linter.all false
set_option maxRecDepth 100000
set_option maxHeartbeats 4000000
namespace K01
open PySem PySem.Spec PyProof.Rows L2
open Evl (Ex)
theorem Ex.lst {K : PySem.W.Frag} {H H' : Hp} {a : Addr} {xs : List V} (e : Ex H H') (h : H a = some (.lst xs)) : SqL K H' a xs := SqL.of (e _ _ h)
theorem Ex.tup {K : PySem.W.Frag} {H H' : Hp} {a : Addr} {xs : List V} (e : Ex H H') (h : H a = some (.tup xs)) : SqT K H' a xs := SqT.of (e _ _ h)
section
variable {w : World} {K : PySem.W.Frag} {mg : Str → Option Value} {base : Heap}
/-! ### first_wrong: where nothing is wrong -/
def spFirst : Sp := fun vs H Q _ => ∃ a xs, vs = [.ref a] ∧ H a = some (.lst xs) ∧ (∀ (i : Nat) (x : V), xs[i]? = some x → x = V.bl true) ∧ ∀ H', Ex H H' → Q .non H'
theorem sc_first_wrong : FnScope ["flags", "place", "flag"] ["flags"] (defScope s_first_wrong) := ⟨rfl, rfl, rfl, by decide +kernel, rfl, by decide +kernel, by decide +kernel⟩
theorem has_first_wrong (T : Ctx K mg) : Has w K mg base CX0 "first_wrong" 1 ["flags"] spFirst := by
  refine has_of (st := s_first_wrong) (f := He.ga K "first_wrong") T.d_first_wrong T.g_first_wrong (fun _ _ _ _ _ _ us hl => match us, hl with | [_], _ => rfl) fun fd F => ?_
  refine ok0 F sc_first_wrong (fun vs H Q E h => ?_) (fun cdv A outer s H vs Q E hr h => ?_)
  · obtain ⟨a, xs, rfl, _⟩ := h
    rfl
  · obtain ⟨a, xs, rfl, ha, hx, k⟩ := h
    have nd := sc_first_wrong.nd
    refine ⟨_, pss_cons (ps_for PassesOwn.never rfl (pi_enum (by rfl) T.b_enumerate (pa_cons (pv 0) pa_nil)) (pg_tup (by rfl) (pgs_cons (pg_name (i := 1) nd rfl (.inl rfl)) (pgs_cons (pg_name (i := 2) nd rfl (.inl rfl)) pgs_nil)))
        (pss_one (ps_if (pt_not (pt_val (pv 2))) (pss_one (ps_ret (pv 1))) pss_nil)))
      (pss_one (ps_ret pe_non)), ?_⟩
    refine ⟨_, rfl, a, xs, rfl, SqL.of ha, for_it walk_enum (fun i σ H' => ∃ p f : Option V, σ = [some (.ref a), p, f] ∧ Ex H H') ⟨none, none, rfl, Ex.refl H⟩ (fun i σ H' _ ⟨_, _, _, e⟩ => Ex.lst e ha) ?_ ?_⟩
    · rintro i v σ H1 H2 hi ⟨p, f, rfl, e⟩ ⟨t, x, y, rfl, ht, rfl, hx1, hy⟩
      cases hx1
      have := hx i y hy
      subst this
      refine ⟨t, _, rfl, SqT.of upd_same, rfl, _, _, rfl, _, _, rfl, rfl, ?_⟩
      refine ⟨_, rfl, true, rfl, iteF ?_⟩
      exact ⟨_, _, rfl, e.trans (Ex.new ht)⟩
    · rintro σ H1 ⟨p, f, rfl, e⟩
      exact k H1 e

theorem asc_eq : ∀ {l l' : List Int}, l.Pairwise (· < ·) → l'.Pairwise (· < ·) → (∀ k, k ∈ l ↔ k ∈ l') → l = l'
  | [], [], _, _, _ => rfl
  | [], y :: ys, _, _, h => absurd ((h y).mpr (List.mem_cons_self ..)) (by simp)
  | x :: xs, [], _, _, h => absurd ((h x).mp (List.mem_cons_self ..)) (by simp)
  | x :: xs, y :: ys, h1, h2, h => by
    have a1 := List.pairwise_cons.mp h1
    have a2 := List.pairwise_cons.mp h2
    have e : x = y := by
      rcases List.mem_cons.mp ((h x).mp (List.mem_cons_self ..)) with e | e
      · exact e
      · rcases List.mem_cons.mp ((h y).mpr (List.mem_cons_self ..)) with e' | e'
        · exact e'.symm
        · have := a1.1 y e'
          have := a2.1 x e
          omega
    subst e
    rw [asc_eq a1.2 a2.2 fun k => ?_]
    have hk := h k
    constructor
    · intro q
      have := a1.1 k q
      rcases List.mem_cons.mp (hk.mp (List.mem_cons_of_mem _ q)) with z | z
      · omega
      · exact z
    · intro q
      have := a2.1 k q
      rcases List.mem_cons.mp (hk.mpr (List.mem_cons_of_mem _ q)) with z | z
      · omega
      · exact z
theorem take_succ_mem {ns : List Int} {i : Nat} {z : Int} (h : ns[i]? = some z) (k : Int) : k ∈ ns.take (i + 1) ↔ k ∈ ns.take i ∨ k = z := by
  have e : ns.take (i + 1) = ns.take i ++ [z] := by
    rw [List.take_add_one, h]
    rfl
  rw [e, List.mem_append, List.mem_singleton]
theorem asc_new {ns : List Int} {i : Nat} {z : Int} (hp : ns.Pairwise (· < ·)) (h : ns[i]? = some z) : z ∉ ns.take i := by
  intro q
  obtain ⟨j, hj, e⟩ := List.mem_iff_getElem.mp q
  have hi := (List.getElem?_eq_some_iff.mp h)
  obtain ⟨hil, hie⟩ := hi
  rw [List.length_take] at hj
  have hji : j < i := by omega
  have := List.pairwise_iff_getElem.mp hp j i (by omega) hil hji
  rw [List.getElem_take] at e
  omega
theorem map_int_get {ns : List Int} {i : Nat} {y : V} (h : (ns.map V.int)[i]? = some y) : ∃ z, ns[i]? = some z ∧ y = V.int z := by
  rw [List.getElem?_map] at h
  cases e : ns[i]? with
  | none => rw [e] at h; cases h
  | some z => rw [e] at h; exact ⟨z, rfl, (Option.some.inj h).symm⟩
/-! ### set_of: of ascending parts -/
def spSetOf : Sp := fun vs H Q _ => ∃ (m : Int) (a : Addr) (ns : List Int), vs = [.int m, .ref a] ∧ H a = some (.lst (ns.map V.int)) ∧ ns.Pairwise (· < ·) ∧ (∀ n ∈ ns, 0 ≤ n ∧ n < m) ∧ 0 ≤ m ∧ ns.length < 60 ∧
  ∀ H' p, Ex H H' → H p = none → H' p = some (.tup (ns.map V.int)) → Q (.ref p) H'
theorem sc_set_of : FnScope ["many", "parts", "seen", "place", "part"] ["many", "parts"] (defScope s_set_of) := ⟨rfl, rfl, rfl, by decide +kernel, rfl, by decide +kernel, by decide +kernel⟩
theorem has_set_of (T : Ctx K mg) : Has w K mg base CX0 "set_of" 3 ["many", "parts"] spSetOf := by
  obtain ⟨f1, fd1, m1, kp1, F1, b1⟩ := has_is_count (w := w) (base := base) T
  obtain ⟨f2, fd2, m2, kp2, F2, b2⟩ := has_is_row (w := w) (base := base) T
  obtain ⟨f3, fd3, m3, kp3, F3, b3⟩ := has_is_within (w := w) (base := base) T
  refine has_of (st := s_set_of) (f := He.ga K "set_of") T.d_set_of T.g_set_of (fun _ _ _ _ _ _ us hl => match us, hl with | [_, _], _ => rfl) fun fd F => ?_
  refine ok0 F sc_set_of (fun vs H Q E h => ?_) (fun cdv A outer s H vs Q E hr h => ?_)
  · obtain ⟨m, a, ns, rfl, _⟩ := h
    rfl
  · obtain ⟨m, a, ns, rfl, ha, hp, hb, hm, hl, k⟩ := h
    have nd := sc_set_of.nd
    have hr1 := hr.mono (show 1 ≤ 2 by decide)
    refine ⟨_, pss_cons (ps_if (pt_not (pt_val (pe_call F1 hr (by rfl) m1 kp1 b1 .nil pass0 (pa_cons (pv 0) pa_nil)))) (pss_one ps_never) pss_nil)
      (pss_cons (ps_if (pt_not (pt_val (pe_call F2 hr1 (by rfl) m2 kp2 b2 .nil pass0 (pa_cons (pv 1) pa_nil)))) (pss_one ps_never) pss_nil)
      (pss_cons (ps_set (i := 2) nd rfl (.inl rfl) (pe_callTy0 cr_set0 (by rfl) T.b_set (by decide +kernel)))
      (pss_cons (ps_for PassesOwn.never rfl (pi_enum (by rfl) T.b_enumerate (pa_cons (pv 1) pa_nil)) (pg_tup (by rfl) (pgs_cons (pg_name (i := 3) nd rfl (.inl rfl)) (pgs_cons (pg_name (i := 4) nd rfl (.inl rfl)) pgs_nil)))
        (pss_cons (ps_if (PW.pt (pw_or (pt_not (pt_val (pe_call F3 hr (by rfl) m3 kp3 b3 .nil pass0 (pa_cons (pv 4) (pa_cons pe_int (pa_cons (pe_op op_sub (pv 0) pe_int) pa_nil)))))) (pw_or1 (pt_cmpR or_sin (pv 4) (pv 2) (by rfl))))) (pss_one ps_never) pss_nil)
        (pss_one (ps_expr (pe_sadd (pv 2) (pa_cons (pv 4) pa_nil))))))
      (pss_one (ps_ret (pe_callTy call_tuple_of (by rfl) T.b_tuple (by decide +kernel) (pa_cons (pe_callB (cr_sortedSet rfl) (by rfl) T.b_sorted (by decide +kernel) (pa_cons (pv 2) pa_nil)) pa_nil))))))), ?_⟩
    refine ⟨_, rfl, m, rfl, decide (0 ≤ m), rfl, ?_⟩
    rw [decide_eq_true hm]
    refine iteF ?_
    refine ⟨_, rfl, a, rfl, .inl ⟨_, ha⟩, fun H1 e1 => ⟨true, rfl, iteF ?_⟩⟩
    refine ⟨rfl, fun q hq => ?_⟩
    have e2 : Ex H (upd H1 q (SetO w q (fun _ => false) 0)) := e1.trans (Ex.new hq)
    have hq0 : H q = none := Evl.fresh_back e1 hq
    refine ⟨_, rfl, a, _, rfl, Ex.lst e2 ha, for_it walk_enum (fun i σ H' => ∃ (p f : Option V) (S : Int → Bool), σ = [some (.int m), some (.ref a), some (.ref q), p, f] ∧ Ex H H' ∧ H' q = some (SetO w q S i) ∧ ∀ j, S j = true ↔ j ∈ ns.take i)
      ⟨none, none, _, rfl, e2, upd_same, fun j => by simp⟩ (fun i σ H' _ ⟨_, _, _, _, e, _⟩ => Ex.lst e ha) ?_ ?_⟩
    · rintro i v σ H2 H3 hi ⟨p, f, S, rfl, e3, hS, hSm⟩ ⟨t, x, y, rfl, ht, rfl, hx1, hy⟩
      cases hx1
      obtain ⟨z, hz, rfl⟩ := map_int_get hy
      have hzb := hb z (List.mem_of_getElem? hz)
      have hqt : q ≠ t := ne_of_none hS ht
      have hSf : S z = false := by
        cases c : S z with
        | false => rfl
        | true => exact absurd ((hSm z).mp c) (asc_new hp hz)
      have hil : i < ns.length := (List.getElem?_eq_some_iff.mp hz).1
      refine ⟨t, _, rfl, SqT.of upd_same, rfl, _, _, rfl, _, _, rfl, rfl, ?_⟩
      refine ⟨_, rfl, _, rfl, _, _, rfl, rfl, z, 0, m - 1, rfl, decide (0 ≤ z ∧ z ≤ m - 1), rfl, ?_⟩
      rw [decide_eq_true (show 0 ≤ z ∧ z ≤ m - 1 by omega)]
      refine iteF ?_
      refine ⟨_, rfl, _, rfl, z, q, S, i, rfl, rfl, by rw [upd_ne hqt]; exact hS, S z, rfl, ?_⟩
      rw [hSf]
      refine iteF ?_
      refine ⟨_, rfl, ⟨q, S, i, rfl, by rw [upd_ne hqt]; exact hS⟩, _, rfl, q, z, S, i, rfl, rfl, by rw [upd_ne hqt]; exact hS, ?_, ?_⟩
      · show i + 1 < 4096
        omega
      · rw [hSf, if_neg Bool.false_ne_true]
        refine ⟨_, _, _, rfl, Evl.Ex.mut (e3.trans (Ex.new ht)) hq0, upd_same, fun j => ?_⟩
        rw [take_succ_mem hz, Bool.or_eq_true, decide_eq_true_iff, hSm]
    · rintro σ H2 ⟨p, f, S, rfl, e3, hS, hSm⟩
      rw [List.length_map] at hS hSm
      rw [List.take_length] at hSm
      refine ⟨_, rfl, q, S, _, rfl, hS, by omega, fun ns' p' hp' hmem hlen hnew => ?_⟩
      have en : ns' = ns := asc_eq hp' hp fun j => (hmem j).trans (hSm j)
      subst en
      refine ⟨p', _, rfl, .inl ⟨SqL.of upd_same, fun l hl2 => ?_⟩⟩
      exact k _ _ ((e3.trans (Ex.new hnew)).trans (Ex.new hl2)) (Evl.fresh_back (e3.trans (Ex.new hnew)) hl2) upd_same
end
end K01


set_option Elab.async false
set_option linter.all false
set_option maxRecDepth 100000
set_option maxHeartbeats 4000000
namespace K01
open PySem PySem.Spec PyProof.Rows L2
open Evl (Ex)
/-- vs stand for the runs rs, each one a tuple -/
structure Runs (H : Hp) (vs : List V) (rs : List (Int × Int)) : Prop where
  len : vs.length = rs.length
  at_ : ∀ (i : Nat) (r : Int × Int), rs[i]? = some r → ∃ t, vs[i]? = some (.ref t) ∧ H t = some (.tup [.int r.1, .int r.2])
theorem Runs.mono {H H' : Hp} {vs : List V} {rs : List (Int × Int)} (h : Runs H vs rs) (e : ∀ t xs, H t = some (.tup xs) → H' t = some (.tup xs)) : Runs H' vs rs :=
  ⟨h.len, fun i r hi => let ⟨t, a, b⟩ := h.at_ i r hi; ⟨t, a, e _ _ b⟩⟩
theorem Runs.ex {H H' : Hp} {vs : List V} {rs : List (Int × Int)} (h : Runs H vs rs) (e : Ex H H') : Runs H' vs rs := h.mono fun _ _ q => e _ _ q
theorem Runs.get {H : Hp} {vs : List V} {rs : List (Int × Int)} (h : Runs H vs rs) {i : Nat} {v : V} (hv : vs[i]? = some v) : ∃ t r, rs[i]? = some r ∧ v = .ref t ∧ H t = some (.tup [.int r.1, .int r.2]) := by
  have hi : i < rs.length := by
    rw [← h.len]
    exact (List.getElem?_eq_some_iff.mp hv).1
  obtain ⟨t, a, b⟩ := h.at_ i rs[i] (by simp [hi])
  rw [hv] at a
  exact ⟨t, rs[i], by simp [hi], Option.some.inj a, b⟩
/-- a run over a row of s places -/
def Fits (s : Int) (r : Int × Int) : Prop := 0 ≤ r.1 ∧ r.1 < r.2 ∧ r.2 ≤ s
section
variable {w : World} {K : PySem.W.Frag} {mg : Str → Option Value} {base : Heap}
theorem tYesI {σ : L2.St} {H : Hp} {F G : Hp → Prop} (h : F H) : tYes σ H (fun b H3 => if b = true then F H3 else G H3) := by
  show if true = true then F H else G H
  exact iteT h
def rTupT (K : PySem.W.Frag) : List V → Hp → VK → Prop := fun xs H Q => ∃ a ys, xs = [.ref a] ∧ SqT K H a ys ∧ Q (.ref a) H
theorem cr_tupT {X : Cx} (h : X.K = K) : CallR X (.type "tuple") (rTupT K) := by
  subst h
  exact call_tupleT
def spChecked : Sp := fun vs H Q _ => ∃ (s : Int) (a : Addr) (us : List V) (rs : List (Int × Int)), vs = [.int s, .ref a] ∧ H a = some (.lst us) ∧ Runs H us rs ∧ (∀ r ∈ rs, Fits s r) ∧ us.length ≤ 1000 ∧
  ∀ H' p, Ex H H' → H p = none → H' p = some (.tup us) → Q (.ref p) H'
theorem sc_checked_runs : FnScope ["size", "runs", "place", "run"] ["size", "runs"] (defScope s_checked_runs) := ⟨rfl, rfl, rfl, by decide +kernel, rfl, by decide +kernel, by decide +kernel⟩
theorem has_checked_runs (T : Ctx K mg) : Has w K mg base CX0 "checked_runs" 4 ["size", "runs"] spChecked := by
  obtain ⟨f1, fd1, m1, kp1, F1, b1⟩ := has_is_row (w := w) (base := base) T
  obtain ⟨f2, fd2, m2, kp2, F2, b2⟩ := has_first_wrong (w := w) (base := base) T
  obtain ⟨f3, fd3, m3, kp3, F3, b3⟩ := has_is_run (w := w) (base := base) T
  refine has_of (st := s_checked_runs) (f := He.ga K "checked_runs") T.d_checked_runs T.g_checked_runs (fun _ _ _ _ _ _ us hl => match us, hl with | [_, _], _ => rfl) fun fd F => ?_
  refine ok0 F sc_checked_runs (fun vs H Q E h => ?_) (fun cdv A outer s H vs Q E hr h => ?_)
  · obtain ⟨m, a, us, rs, rfl, _⟩ := h
    rfl
  · obtain ⟨m, a, us, rs, rfl, ha, hR, hF, hl, k⟩ := h
    have nd := sc_checked_runs.nd
    have hr1 := hr.mono (show 1 ≤ 3 by decide)
    refine ⟨_, pss_cons (ps_if (pt_not (pt_val (pe_call F1 hr1 (by rfl) m1 kp1 b1 .nil pass0 (pa_cons (pv 1) pa_nil)))) (pss_one ps_never) pss_nil)
      (pss_cons (ps_set (i := 2) nd rfl (.inl rfl) (pe_call F2 hr1 (by rfl) m2 kp2 b2 .nil pass0 (pa_cons
        (pe_lc (own := [("run", 3)]) (g := gName 3) (tt := tYes) rfl nd (pi_list (pv 1)) (blkOk_by (own := [("run", 3)]) (N := ["size", "runs", "place", "run"]) (sc := defScope s_checked_runs) (by decide +kernel)) (fun _ _ _ _ _ => pg_name (i := 3) nd rfl (Or.inl rfl)) (fun _ _ _ _ _ => pts_nil)
          (fun _ _ _ _ _ => pe_call F3 hr (by rfl) m3 kp3 b3 .nil pass0 (pa_cons (pv 0) (pa_cons (pv 3) pa_nil)))) pa_nil)))
      (pss_cons (ps_if (pt_cmpR op_notN (pv 2) pe_non (nomark _)) (pss_one ps_never) pss_nil)
      (pss_one (ps_ret (pe_callTy call_tuple_of (by rfl) T.b_tuple (by decide +kernel) (pa_cons
        (pe_lc (own := [("run", 3)]) (g := gName 3) (tt := tYes) rfl nd (pi_list (pv 1)) (blkOk_by (own := [("run", 3)]) (N := ["size", "runs", "place", "run"]) (sc := defScope s_checked_runs) (by decide +kernel)) (fun _ _ _ _ _ => pg_name (i := 3) nd rfl (Or.inl rfl)) (fun _ _ _ _ _ => pts_nil)
          (fun _ _ _ _ _ => pe_callTy (T := "tuple") (cr_tupT (K := K) rfl) (by rfl) T.b_tuple (by decide +kernel) (pa_cons (pv 3) pa_nil))) pa_nil)))))), ?_⟩
    refine ⟨_, rfl, a, rfl, .inl ⟨_, ha⟩, fun H1 e1 => ⟨true, rfl, iteF ?_⟩⟩
    refine ⟨_, rfl, a, rfl, ⟨_, Ex.lst e1 ha⟩, fun D hD => lc_list (xs := us) (fun i H' => Ex H H' ∧ H' D = some (.lst (List.replicate i (V.bl true)))) ⟨e1.trans (Ex.new hD), upd_same⟩ (fun i H' _ q => Ex.lst q.1 ha) ?_ ?_⟩
    · rintro i x H2 hx ⟨e2, hD2⟩
      obtain ⟨t, r, hr', rfl, ht⟩ := (hR.ex e2).get hx
      have hf := hF r (List.mem_of_getElem? hr')
      refine ⟨rfl, ?_⟩
      refine tYesI ?_
      refine ⟨_, rfl, _, rfl, m, t, r.1, r.2, rfl, ht, fun H3 e3 => ?_⟩
      have hil : i < us.length := (List.getElem?_eq_some_iff.mp hx).1
      refine ⟨_, e3 _ _ hD2, by rw [List.length_replicate]; exact small1000 (by omega), Evl.Ex.mut (e2.trans e3) (Evl.fresh_back e1 hD), ?_⟩
      rw [upd_same, decide_eq_true (show 0 ≤ r.1 ∧ r.1 < r.2 ∧ r.2 ≤ m from hf), List.replicate_succ']
    · rintro H2 ⟨e2, hD2⟩
      refine ⟨D, _, rfl, hD2, fun i x hx => ?_, fun H3 e3 => ?_⟩
      · rw [List.getElem?_replicate] at hx
        split at hx
        · exact (Option.some.inj hx).symm
        · cases hx
      · have e4 := e2.trans e3
        refine ⟨_, rfl, rfl, _, rfl, iteF ?_⟩
        refine ⟨_, rfl, a, rfl, ⟨_, Ex.lst e4 ha⟩, fun D2 hD2' => lc_list (xs := us) (fun i H' => Ex H H' ∧ H' D2 = some (.lst (us.take i))) ⟨e4.trans (Ex.new hD2'), upd_same⟩ (fun i H' _ q => Ex.lst q.1 ha) ?_ ?_⟩
        · rintro i x H5 hx ⟨e5, hD5⟩
          obtain ⟨t, r, hr', rfl, ht⟩ := (hR.ex e5).get hx
          refine ⟨rfl, ?_⟩
          refine tYesI ?_
          refine ⟨_, rfl, t, _, rfl, SqT.of ht, ?_⟩
          refine ⟨_, hD5, ?_, Evl.Ex.mut e5 (Evl.fresh_back e4 hD2'), ?_⟩
          · rw [List.length_take]
            exact small1000 (by omega)
          · rw [upd_same, List.take_add_one, hx]
            rfl
        · rintro H5 ⟨e5, hD5⟩
          rw [List.take_length] at hD5
          exact ⟨D2, us, rfl, .inl ⟨SqL.of hD5, fun l hl2 => k _ l (e5.trans (Ex.new hl2)) (Evl.fresh_back e5 hl2) upd_same⟩⟩
end
end K01


set_option Elab.async false
set_option linter.all false
set_option maxRecDepth 100000
set_option maxHeartbeats 4000000
namespace K01
open PySem PySem.Spec PyProof.Rows L2
open Evl (Ex)
/-! ### markets -/
theorem k_rs : ¬ (("runs" : Str) = "size") := by decide +kernel
theorem k_sr : ¬ (("size" : Str) = "runs") := by decide +kernel
theorem k_gs : ¬ (("gone" : Str) = "size") := by decide +kernel
theorem k_sg : ¬ (("size" : Str) = "gone") := by decide +kernel
theorem k_rg : ¬ (("runs" : Str) = "gone") := by decide +kernel
theorem k_gr : ¬ (("gone" : Str) = "runs") := by decide +kernel
def mflds (s : Int) (pr pg : Addr) : List (Str × V) := putF "gone" (.ref pg) (putF "runs" (.ref pr) (putF "size" (.int s) []))
theorem mf_size (s : Int) (pr pg : Addr) : (mflds s pr pg).lookup ("size" : Str) = some (.int s) := by
  unfold mflds
  rw [lookup_putF, if_neg k_sg, lookup_putF, if_neg k_sr, lookup_putF, if_pos rfl]
theorem mf_runs (s : Int) (pr pg : Addr) : (mflds s pr pg).lookup ("runs" : Str) = some (.ref pr) := by
  unfold mflds
  rw [lookup_putF, if_neg k_rg, lookup_putF, if_pos rfl]
theorem mf_gone (s : Int) (pr pg : Addr) : (mflds s pr pg).lookup ("gone" : Str) = some (.ref pg) := by
  unfold mflds
  rw [lookup_putF, if_pos rfl]
theorem mf_no (s : Int) (pr pg : Addr) {m : Str} (h1 : ¬ m = "size") (h2 : ¬ m = "runs") (h3 : ¬ m = "gone") : (mflds s pr pg).lookup m = none := by
  unfold mflds
  rw [lookup_putF, if_neg h3, lookup_putF, if_neg h2, lookup_putF, if_neg h1]
  all_goals rfl
/-- the class at C is the market's class of this kind -/
def IsM (K : PySem.W.Frag) (C : Addr) (kind : Str) : Prop := (C = He.ga K "Join" ∧ kind = "join") ∨ (C = He.ga K "Lap" ∧ kind = "lap")
section
variable {w : World} {K : PySem.W.Frag} {mg : Str → Option Value} {base : Heap} {C : Addr} {kind : Str}
theorem IsM.cl (h : IsM K C kind) (T : Ctx K mg) : Cls K C := by
  rcases h with ⟨rfl, _⟩ | ⟨rfl, _⟩
  · exact T.cl_Join
  · exact T.cl_Lap
theorem IsM.nS (h : IsM K C kind) (T : Ctx K mg) : NoAttr K C "size" := by
  rcases h with ⟨rfl, _⟩ | ⟨rfl, _⟩
  · exact T.no_Join_size
  · exact T.no_Lap_size
theorem IsM.nR (h : IsM K C kind) (T : Ctx K mg) : NoAttr K C "runs" := by
  rcases h with ⟨rfl, _⟩ | ⟨rfl, _⟩
  · exact T.no_Join_runs
  · exact T.no_Lap_runs
theorem IsM.nG (h : IsM K C kind) (T : Ctx K mg) : NoAttr K C "gone" := by
  rcases h with ⟨rfl, _⟩ | ⟨rfl, _⟩
  · exact T.no_Join_gone
  · exact T.no_Lap_gone
theorem IsM.con (h : IsM K C kind) (T : Ctx K mg) : ∃ u, Con K C "KIND" (.str kind) u := by
  rcases h with ⟨rfl, rfl⟩ | ⟨rfl, rfl⟩
  · exact T.kind_Join
  · exact T.kind_Lap
/-- what a market is made of -/
structure MArg (H : Hp) (s : Int) (a g : Addr) (us : List V) (rs : List (Int × Int)) (ns : List Int) : Prop where
  ha : H a = some (.lst us)
  runs : Runs H us rs
  fits : ∀ r ∈ rs, Fits s r
  few : us.length ≤ 50
  hg : H g = some (.lst (ns.map V.int))
  asc : ns.Pairwise (· < ·)
  inn : ∀ n ∈ ns, 0 ≤ n ∧ n < us.length
  size : 1 ≤ s ∧ s ≤ 30
theorem asc_few : ∀ {ns : List Int} {lo m : Int}, ns.Pairwise (· < ·) → (∀ n ∈ ns, lo ≤ n ∧ n < m) → lo ≤ m → (ns.length : Int) ≤ m - lo
  | [], lo, m, _, _, h => by simp; omega
  | n :: ns, lo, m, hp, hb, h => by
    have hp' := List.pairwise_cons.mp hp
    have h0 := hb n (List.mem_cons_self ..)
    have := asc_few (ns := ns) (lo := n + 1) (m := m) hp'.2 (fun k hk => ⟨by have := hp'.1 k hk; omega, (hb k (List.mem_cons_of_mem _ hk)).2⟩) (by omega)
    rw [List.length_cons]
    push_cast
    omega
def spMarket (K : PySem.W.Frag) : Sp := fun vs H Q _ => ∃ (C x dx a g : Addr) (kind : Str) (s : Int) (us : List V) (rs : List (Int × Int)) (ns : List Int), vs = [.ref x, .int s, .ref a, .ref g] ∧ IsM K C kind ∧ H x = some (.ins C dx []) ∧ MArg H s a g us rs ns ∧
  ∀ H' pr pg, (∀ b o, b ≠ x → H b = some o → H' b = some o) → H pr = none → H pg = none → H' x = some (.ins C dx (mflds s pr pg)) → H' pr = some (.tup us) → H' pg = some (.tup (ns.map V.int)) → Q .non H'
theorem sc_Market_init : FnScope ["self", "size", "runs", "gone"] ["self", "size", "runs", "gone"] (defScope s_Market___init__) := ⟨rfl, rfl, rfl, by decide +kernel, rfl, by decide +kernel, by decide +kernel⟩
theorem ok_Market_init (T : Ctx K mg) {f : Addr} {fd : FuncData} {kws : List (Str × V)} (F : FunD K "__init__" "Market.__init__" (defArgs s_Market___init__) (defBody s_Market___init__) (defScope s_Market___init__) [] kws f fd) :
    FnOk PP w K mg base CX0 5 f fd ["self", "size", "runs", "gone"] (spMarket K) := by
  obtain ⟨f1, fd1, m1, kp1, F1, b1⟩ := has_is_within (w := w) (base := base) T
  obtain ⟨f2, fd2, m2, kp2, F2, b2⟩ := has_checked_runs (w := w) (base := base) T
  obtain ⟨f3, fd3, m3, kp3, F3, b3⟩ := has_set_of (w := w) (base := base) T
  obtain ⟨tg, hG⟩ := T.c_GREATEST_SIZE
  refine ok0 F sc_Market_init (fun vs H Q E h => ?_) (fun cdv A outer s0 H vs Q E hr h => ?_)
  · obtain ⟨C, x, dx, a, g, kind, s, us, rs, ns, rfl, _⟩ := h
    rfl
  · obtain ⟨C, x, dx, a, g, kind, s, us, rs, ns, rfl, hM, hx, A0, k⟩ := h
    have nd := sc_Market_init.nd
    have hr2 := hr.mono (show 2 ≤ 4 by decide)
    have hr3 := hr.mono (show 3 ≤ 4 by decide)
    refine ⟨_, pss_cons (ps_if (pt_not (pt_val (pe_call F1 hr2 (by rfl) m1 kp1 b1 .nil pass0 (pa_cons (pv 1) (pa_cons pe_int (pa_cons (pe_glob (v := .int 30) rfl hG ⟨_, rfl⟩) pa_nil)))))) (pss_one ps_never) pss_nil)
      (pss_cons (ps_fld (pv 0) (pv 1) rfl)
      (pss_cons (ps_fld (pv 0) (pe_call F2 hr (by rfl) m2 kp2 b2 .nil pass0 (pa_cons (pv 1) (pa_cons (pv 2) pa_nil))) rfl)
      (pss_one (ps_fld (pv 0) (pe_call F3 hr3 (by rfl) m3 kp3 b3 .nil pass0 (pa_cons (pe_callB call_len_seq (by rfl) T.b_len PySem.boot_len (pa_cons (pv 2) pa_nil)) (pa_cons (pv 3) pa_nil))) rfl)))), ?_⟩
    refine ⟨_, rfl, s, 1, 30, rfl, decide (1 ≤ s ∧ s ≤ 30), rfl, ?_⟩
    rw [decide_eq_true A0.size]
    refine iteF ?_
    refine ⟨_, rfl, _, rfl, x, C, dx, [], rfl, hx, hM.cl T, hM.nS T, (by show 0 < 1000; decide), ?_⟩
    have nax : a ≠ x := ne_of A0.ha hx (by intro z; cases z)
    have ngx : g ≠ x := ne_of A0.hg hx (by intro z; cases z)
    have ntx : ∀ t xs, H t = some (.tup xs) → t ≠ x := fun t xs e => ne_of e hx (by intro z; cases z)
    -- self.runs
    refine ⟨_, rfl, _, rfl, s, a, us, rs, rfl, by rw [upd_ne nax]; exact A0.ha, A0.runs.mono fun t xs e => by rw [upd_ne (ntx t xs e)]; exact e, A0.fits, by have := A0.few; omega, fun H2 pr e2 hpr hpr2 => ?_⟩
    have hpx : pr ≠ x := fun z => by
      rw [z, upd_same] at hpr
      cases hpr
    have hpr0 : H pr = none := by
      rw [upd_ne hpx] at hpr
      exact hpr
    have hx2 := e2 _ _ (upd_same (H := H) (a := x) (o := .ins C dx (putF "size" (.int s) [])))
    refine ⟨_, rfl, x, C, dx, _, rfl, hx2, hM.cl T, hM.nR T, (by show 1 < 1000; decide), ?_⟩
    -- self.gone
    have keep2 : ∀ b o, b ≠ x → H b = some o → upd H2 x (.ins C dx (putF "runs" (.ref pr) (putF "size" (.int s) []))) b = some o := fun b o hb e => by
      rw [upd_ne hb]
      exact e2 _ _ (by rw [upd_ne hb]; exact e)
    have hlen : (ns.length : Int) ≤ (us.length : Int) - 0 := asc_few A0.asc A0.inn (by omega)
    have few := A0.few
    refine ⟨_, rfl, a, us, rfl, .inl (SqL.of (keep2 _ _ nax A0.ha)), _, rfl, (us.length : Int), g, ns, rfl, keep2 _ _ ngx A0.hg, A0.asc, A0.inn, by omega, by omega, fun H3 pg e3 hpg hpg2 => ?_⟩
    have hpx2 : pg ≠ x := fun z => by
      rw [z, upd_same] at hpg
      cases hpg
    have hpg0 : H pg = none := by
      cases c : H pg with
      | none => rfl
      | some o =>
        rw [keep2 _ _ hpx2 c] at hpg
        cases hpg
    have hx3 := e3 _ _ (upd_same (H := H2) (a := x) (o := .ins C dx (putF "runs" (.ref pr) (putF "size" (.int s) []))))
    refine ⟨_, rfl, x, C, dx, _, rfl, hx3, hM.cl T, hM.nG T, (by show 2 < 1000; decide), ?_⟩
    refine k _ pr pg (fun b o hb e => ?_) hpr0 hpg0 upd_same ?_ ?_
    · rw [upd_ne hb]
      exact e3 _ _ (keep2 _ _ hb e)
    · rw [upd_ne hpx]
      exact e3 _ _ (by rw [upd_ne hpx]; exact hpr2)
    · rw [upd_ne hpx2]
      exact hpg2
end
end K01


set_option Elab.async false
set_option linter.all false
set_option maxRecDepth 100000
set_option maxHeartbeats 4000000
namespace K01
open PySem PySem.Spec PyProof.Rows L2
open Evl (Ex)
/-- a market stands at x -/
structure Mkt (K : PySem.W.Frag) (H : Hp) (x : Addr) (kind : Str) (s : Int) (us : List V) (rs : List (Int × Int)) (ns : List Int) : Prop where
  ob : ∃ C dx pr pg, IsM K C kind ∧ H x = some (.ins C dx (mflds s pr pg)) ∧ H pr = some (.tup us) ∧ H pg = some (.tup (ns.map V.int))
  runs : Runs H us rs
theorem Mkt.ex {K : PySem.W.Frag} {H H' : Hp} {x : Addr} {kind : Str} {s : Int} {us : List V} {rs : List (Int × Int)} {ns : List Int} (h : Mkt K H x kind s us rs ns) (e : Ex H H') : Mkt K H' x kind s us rs ns := by
  obtain ⟨C, dx, pr, pg, a, b, c, d⟩ := h.ob
  exact ⟨⟨C, dx, pr, pg, a, e _ _ b, e _ _ c, e _ _ d⟩, h.runs.ex e⟩
section
variable {w : World} {K : PySem.W.Frag} {mg : Str → Option Value} {base : Heap} {C : Addr} {kind : Str}
theorem made {H : Hp} {x dx a g : Addr} {s : Int} {us : List V} {rs : List (Int × Int)} {ns : List Int} {Q : Hp → Prop} {E : XK} (hM : IsM K C kind) (A0 : MArg H s a g us rs ns) (hx : H x = none) (hdx : H dx = none) (hne : dx ≠ x)
    (k : ∀ H', Ex H H' → Mkt K H' x kind s us rs ns → Q H') : SupI.spSup C (spMarket K) ([.ref x, .int s, .ref a] ++ [.ref g]) (upd (upd H dx (.own x)) x (.ins C dx [])) (fun v H3 => v = .non ∧ Q H3) E := by
  have keep : ∀ b o, H b = some o → upd (upd H dx (.own x)) x (.ins C dx []) b = some o := fun b o e => by
    rw [upd_ne (ne_of_none e hx), upd_ne (ne_of_none e hdx)]
    exact e
  refine ⟨⟨x, dx, [], _, _, _, rfl, upd_same⟩, C, x, dx, a, g, kind, s, us, rs, ns, rfl, hM, upd_same, ⟨keep _ _ A0.ha, A0.runs.mono fun t xs e => keep _ _ e, A0.fits, A0.few, keep _ _ A0.hg, A0.asc, A0.inn, A0.size⟩, fun H' pr pg kp hpr hpg h1 h2 h3 => ⟨rfl, ?_⟩⟩
  have e : Ex H H' := fun b o q => kp b o (ne_of_none q hx) (keep b o q)
  exact k H' e ⟨⟨C, dx, pr, pg, hM, h1, h2, h3⟩, A0.runs.ex e⟩
theorem lookup_of {α : Type} {l : List (Str × α)} {y : Str} {v : α} (h : l.lookup y = some v) : (y, v) ∈ l := PySem.mem_of_lookup h
/-- Join.__init__ and Lap.__init__ -/
theorem ok_Join_init (T : Ctx K mg) : ∃ fd, FnOk PP w K mg base CX0 6 (He.ma K (He.ga K "Join") "__init__") fd ["self", "size", "runs", "gone"] (SupI.spSup (He.ga K "Join") (spMarket K)) ∧ KBn K fd ["self", "size", "runs", "gone"] 3 ["gone"] (fun us ws => us ++ ws) (fun vs zs => vs ++ zs) := by
  obtain ⟨fd2, F2⟩ := T.d_Market___init__
  obtain ⟨fd, S, hc⟩ := T.sup_Join
  have G2 := ok_Market_init (w := w) (base := base) T F2
  obtain ⟨mv, hb⟩ := FunD.kbinds0 (ps := ["self", "size", "runs", "gone"]) F2 3 ["gone"] [] (fun us _ ws => us ++ ws) (by intro z; cases z) (fun q hq => by cases hq) (fun r1 _ r3 => r1.append r3) (fun D doc pm an cdv ct us mv ws h1 h2 h3 => match us, ws, h1, h3 with
    | [_, _, _], [_], _, _ => rfl)
  refine ⟨fd, SupI.fn_super (ns := "self") (na := "size") (nb := "runs") (nk := "gone") (c1 := "") S hc rfl rfl rfl (fun y hy => ?_) (by decide +kernel) (by decide +kernel) rfl rfl (by decide +kernel) rfl rfl (fun u1 u2 u3 u4 i y u h1 h2 => ?_) (fun env => rfl) G2 hb, ?_⟩
  · have z : ∀ p ∈ (defScope s_Join___init__).names, (p.2 = .cell ∨ p.2 = .free) → p.1 = "__class__" := by decide +kernel
    rcases hy with h | h
    · exact z _ (lookup_of h) (.inl rfl)
    · exact z _ (lookup_of h) (.inr rfl)
  · match i, h1, h2 with
    | 0, h1, h2 => cases h1; cases h2; rfl
    | 1, h1, h2 => cases h1; cases h2; rfl
    | 2, h1, h2 => cases h1; cases h2; rfl
    | 3, h1, h2 => cases h1; cases h2; rfl
  · obtain ⟨oc, od, an, Dk, doc, pm, ct, osl, rfl, _⟩ := S.lk
    exact ⟨fun s us ws X h1 h2 => match us, ws, h1, h2 with
      | [_, _, _], [_], _, _ => BindsTo.of_eq (by first | rfl | with_unfolding_all rfl | kernel_rfl), fun r1 r2 => r1.append r2⟩
theorem ok_Lap_init (T : Ctx K mg) : ∃ fd, FnOk PP w K mg base CX0 6 (He.ma K (He.ga K "Lap") "__init__") fd ["self", "size", "runs", "gone"] (SupI.spSup (He.ga K "Lap") (spMarket K)) ∧ KBn K fd ["self", "size", "runs", "gone"] 3 ["gone"] (fun us ws => us ++ ws) (fun vs zs => vs ++ zs) := by
  obtain ⟨fd2, F2⟩ := T.d_Market___init__
  obtain ⟨fd, S, hc⟩ := T.sup_Lap
  have G2 := ok_Market_init (w := w) (base := base) T F2
  obtain ⟨mv, hb⟩ := FunD.kbinds0 (ps := ["self", "size", "runs", "gone"]) F2 3 ["gone"] [] (fun us _ ws => us ++ ws) (by intro z; cases z) (fun q hq => by cases hq) (fun r1 _ r3 => r1.append r3) (fun D doc pm an cdv ct us mv ws h1 h2 h3 => match us, ws, h1, h3 with
    | [_, _, _], [_], _, _ => rfl)
  refine ⟨fd, SupI.fn_super (ns := "self") (na := "size") (nb := "runs") (nk := "gone") (c1 := "") S hc rfl rfl rfl (fun y hy => ?_) (by decide +kernel) (by decide +kernel) rfl rfl (by decide +kernel) rfl rfl (fun u1 u2 u3 u4 i y u h1 h2 => ?_) (fun env => rfl) G2 hb, ?_⟩
  · have z : ∀ p ∈ (defScope s_Lap___init__).names, (p.2 = .cell ∨ p.2 = .free) → p.1 = "__class__" := by decide +kernel
    rcases hy with h | h
    · exact z _ (lookup_of h) (.inl rfl)
    · exact z _ (lookup_of h) (.inr rfl)
  · match i, h1, h2 with
    | 0, h1, h2 => cases h1; cases h2; rfl
    | 1, h1, h2 => cases h1; cases h2; rfl
    | 2, h1, h2 => cases h1; cases h2; rfl
    | 3, h1, h2 => cases h1; cases h2; rfl
  · obtain ⟨oc, od, an, Dk, doc, pm, ct, osl, rfl, _⟩ := S.lk
    exact ⟨fun s us ws X h1 h2 => match us, ws, h1, h2 with
      | [_, _, _], [_], _, _ => BindsTo.of_eq (by first | rfl | with_unfolding_all rfl | kernel_rfl), fun r1 r2 => r1.append r2⟩
end
end K01


set_option Elab.async false
set_option linter.all false
set_option maxRecDepth 100000
set_option maxHeartbeats 4000000
namespace K01
open PySem PySem.Spec PyProof.Rows L2
open Evl (Ex)
/-! ### equality of data -/
theorem eqvAll_map {α : Type} [DecidableEq α] (f : α → PyData) (hf : ∀ a b, PyData.eqv (f a) (f b) = decide (a = b)) : ∀ xs ys : List α, PyData.eqvAll (xs.map f) (ys.map f) = decide (xs = ys)
  | [], [] => rfl
  | [], y :: ys => by simp [PyData.eqvAll]
  | x :: xs, [] => by simp [PyData.eqvAll]
  | x :: xs, y :: ys => by
    rw [List.map_cons, List.map_cons, PyData.eqvAll, hf, eqvAll_map f hf xs ys]
    by_cases h1 : x = y <;> by_cases h2 : xs = ys <;> simp [h1, h2]
theorem canLayAll_map {α : Type} (f : α → PyData) (hf : ∀ a, (f a).canLay0 = true) : ∀ xs : List α, PyData.canLayAll0 (xs.map f) = true
  | [] => by simp [PyData.canLayAll0]
  | x :: xs => by
    rw [List.map_cons, PyData.canLayAll0, hf, canLayAll_map f hf xs]
    rfl
theorem depthAll_map {α : Type} (f : α → PyData) (k : Nat) (hf : ∀ a, (f a).depth ≤ k) : ∀ xs : List α, PyData.depthAll (xs.map f) ≤ k
  | [] => by simp [PyData.depthAll]
  | x :: xs => by
    rw [List.map_cons, PyData.depthAll]
    have := hf x
    have := depthAll_map f k hf xs
    omega
def runD (r : Int × Int) : PyData := .tuple [.int r.1, .int r.2]
def runsD (rs : List (Int × Int)) : PyData := .tuple (rs.map runD)
def intsD (ns : List Int) : PyData := .tuple (ns.map PyData.int)
theorem eqv_int (a b : Int) : PyData.eqv (.int a) (.int b) = decide (a = b) := by
  rw [PyData.eqv]
  by_cases h : a = b <;> simp [h]
theorem eqv_run (a b : Int × Int) : PyData.eqv (runD a) (runD b) = decide (a = b) := by
  obtain ⟨a1, a2⟩ := a
  obtain ⟨b1, b2⟩ := b
  simp only [runD, PyData.eqv, PyData.eqvAll, Prod.mk.injEq]
  by_cases h1 : a1 = b1 <;> by_cases h2 : a2 = b2 <;> simp [h1, h2]
theorem eqv_runs (a b : List (Int × Int)) : PyData.eqv (runsD a) (runsD b) = decide (a = b) := by
  unfold runsD
  rw [PyData.eqv, eqvAll_map runD eqv_run]
theorem eqv_ints (a b : List Int) : PyData.eqv (intsD a) (intsD b) = decide (a = b) := by
  unfold intsD
  rw [PyData.eqv, eqvAll_map PyData.int eqv_int]
theorem shaped_ints (a : List Int) : SeqAt.shaped (intsD a) = true := by
  unfold SeqAt.shaped intsD
  rw [PyData.canLay0, canLayAll_map _ (fun _ => by simp [PyData.canLay0]), PyData.depth]
  have := depthAll_map PyData.int 0 (fun _ => by simp [PyData.depth]) a
  simp; omega
theorem shaped_runs (a : List (Int × Int)) : SeqAt.shaped (runsD a) = true := by
  unfold SeqAt.shaped runsD
  rw [PyData.canLay0, canLayAll_map _ (fun _ => by simp [runD, PyData.canLay0, PyData.canLayAll0]), PyData.depth]
  have := depthAll_map runD 1 (fun _ => by simp [runD, PyData.depth, PyData.depthAll]) a
  simp; omega
theorem dp_ints {K : PySem.W.Frag} {H : Hp} : ∀ ns : List Int, DpAll K H (ns.map V.int) (ns.map PyData.int)
  | [] => .nil
  | n :: ns => .cons (.int n) (dp_ints ns)
theorem dp_runs {K : PySem.W.Frag} {H : Hp} : ∀ {us : List V} {rs : List (Int × Int)}, Runs H us rs → DpAll K H us (rs.map runD)
  | [], [], _ => .nil
  | [], r :: rs, h => absurd h.len (by simp)
  | u :: us, [], h => absurd h.len (by simp)
  | u :: us, r :: rs, h => by
    obtain ⟨t, ht, hr⟩ := h.at_ 0 r rfl
    have e : u = .ref t := Option.some.inj ht
    subst e
    exact .cons (.tup (SqT.of hr) (.cons (.int _) (.cons (.int _) .nil))) (dp_runs ⟨by have := h.len; simpa using this, fun i r' hi => h.at_ (i + 1) r' hi⟩)
theorem dp_runsT {K : PySem.W.Frag} {H : Hp} {p : Addr} {us : List V} {rs : List (Int × Int)} (hp : H p = some (.tup us)) (h : Runs H us rs) : Dp K H (.ref p) (runsD rs) := .tup (SqT.of hp) (dp_runs h)
theorem dp_intsT {K : PySem.W.Frag} {H : Hp} {p : Addr} {ns : List Int} (hp : H p = some (.tup (ns.map V.int))) : Dp K H (.ref p) (intsD ns) := .tup (SqT.of hp) (dp_ints ns)
section
variable {w : World} {K : PySem.W.Frag} {mg : Str → Option Value} {base : Heap} {C : Addr} {kind : Str}
/-! ### len and == of markets -/
def spLen (K : PySem.W.Frag) : Sp := fun vs H Q _ => ∃ x kind s us rs ns, vs = [.ref x] ∧ Mkt K H x kind s us rs ns ∧ Q (.int us.length) H
theorem sc_len : FnScope ["self"] ["self"] (defScope s_Market___len__) := ⟨rfl, rfl, rfl, by decide +kernel, rfl, by decide +kernel, by decide +kernel⟩
theorem ok_len (T : Ctx K mg) {f : Addr} {fd : FuncData} (F : FunD K "__len__" "Market.__len__" (defArgs s_Market___len__) (defBody s_Market___len__) (defScope s_Market___len__) [] [] f fd) : FnOk PP w K mg base CX0 1 f fd ["self"] (spLen K) := by
  refine ok0 F sc_len (fun vs H Q E h => ?_) (fun cdv A outer s0 H vs Q E hr h => ?_)
  · obtain ⟨x, kind, s, us, rs, ns, rfl, _⟩ := h
    rfl
  · obtain ⟨x, kind, s, us, rs, ns, rfl, M, k⟩ := h
    obtain ⟨C, dx, pr, pg, hM, h1, h2, h3⟩ := M.ob
    refine ⟨_, pss_one (ps_ret (pe_callB call_len_seq (by rfl) T.b_len PySem.boot_len (pa_cons (pe_fld (pv 0) rfl) pa_nil))), ?_⟩
    exact ⟨_, rfl, x, C, dx, _, _, rfl, h1, hM.cl T, hM.nR T, mf_runs _ _ _, pr, us, rfl, .inr (SqT.of h2), k⟩
theorem IsM.ty (h : IsM K C kind) (T : Ctx K mg) {H : Hp} {x dx : Addr} {fs : List (Str × V)} (e : H x = some (.ins C dx fs)) : TyX K H (.ref x) (.ref C) := by
  rcases h with ⟨rfl, _⟩ | ⟨rfl, _⟩
  · exact .base (.ins e T.cl_Join T.cc_Join T.gs T.tk T.mo_Join)
  · exact .base (.ins e T.cl_Lap T.cc_Lap T.gs T.tk T.mo_Lap)
theorem IsM.kit (h : IsM K C kind) (T : Ctx K mg) : PySem.W.kitOne K (.ref C) (.ref (He.ga K "Market")) = some true := by
  rcases h with ⟨rfl, _⟩ | ⟨rfl, _⟩
  · exact T.km_Join
  · exact T.km_Lap
def spEqM (K : PySem.W.Frag) : Sp := fun vs H Q _ => ∃ x kind s us rs ns y kind' s' us' rs' ns', vs = [.ref x, .ref y] ∧ Mkt K H x kind s us rs ns ∧ Mkt K H y kind' s' us' rs' ns' ∧ Q (.bl (decide (kind = kind' ∧ s = s' ∧ rs = rs' ∧ ns = ns'))) H
theorem sc_eq : FnScope ["self", "other"] ["self", "other"] (defScope s_Market___eq__) := ⟨rfl, rfl, rfl, by decide +kernel, rfl, by decide +kernel, by decide +kernel⟩
theorem ok_eq (T : Ctx K mg) {f : Addr} {fd : FuncData} (F : FunD K "__eq__" "Market.__eq__" (defArgs s_Market___eq__) (defBody s_Market___eq__) (defScope s_Market___eq__) [] [] f fd) : FnOk PP w K mg base CX0 1 f fd ["self", "other"] (spEqM K) := by
  refine ok0 F sc_eq (fun vs H Q E h => ?_) (fun cdv A outer s0 H vs Q E hr h => ?_)
  · obtain ⟨x, kind, s, us, rs, ns, y, kind', s', us', rs', ns', rfl, _⟩ := h
    rfl
  · obtain ⟨x, kind, s, us, rs, ns, y, kind', s', us', rs', ns', rfl, M, M', k⟩ := h
    obtain ⟨C, dx, pr, pg, hM, h1, h2, h3⟩ := M.ob
    obtain ⟨C', dx', pr', pg', hM', h1', h2', h3'⟩ := M'.ob
    obtain ⟨u, hu⟩ := hM.con T
    obtain ⟨u', hu'⟩ := hM'.con T
    have hn : (mflds s pr pg).lookup ("KIND" : Str) = none := mf_no _ _ _ (by decide +kernel) (by decide +kernel) (by decide +kernel)
    have hn' : (mflds s' pr' pg').lookup ("KIND" : Str) = none := mf_no _ _ _ (by decide +kernel) (by decide +kernel) (by decide +kernel)
    refine ⟨_, pss_one (ps_ret (pe_and (pe_callB call_isi (by rfl) T.b_isinstance (by decide +kernel) (pa_cons (pv 1) (pa_cons (pe_glob (v := .ref (He.ga K "Market")) rfl T.g_Market rfl) pa_nil)))
      (pe_and (pe_cmpR op_eq (pe_con (pv 0) rfl) (pe_con (pv 1) rfl) (nomark _))
      (pe_and (pe_cmpR op_eq (pe_fld (pv 0) rfl) (pe_fld (pv 1) rfl) (nomark _))
      (pe_and (pe_cmpR (op_eqD hr.units) (pe_fld (pv 0) rfl) (pe_fld (pv 1) rfl) (nomark _))
      (pe_one (pe_cmpR (op_eqD hr.units) (pe_fld (pv 0) rfl) (pe_fld (pv 1) rfl) (nomark _)))))))), ?_⟩
    refine ⟨_, rfl, _, _, _, _, true, rfl, .own _, hM'.ty T h1', hM'.kit T, true, rfl, iteT ?_⟩
    refine ⟨_, rfl, x, C, dx, _, _, u, rfl, h1, hM.cl T, hu, hn, _, rfl, y, C', dx', _, _, u', rfl, h1', hM'.cl T, hu', hn', rfl, _, rfl, ?_⟩
    by_cases c1 : kind = kind'
    rotate_left
    · rw [decide_eq_false (show ¬ (V.str kind = V.str kind') from fun z => c1 (by cases z; rfl))]
      refine iteF ?_
      rw [decide_eq_false (fun z => c1 z.1)] at k
      exact k
    rw [decide_eq_true (show V.str kind = V.str kind' by rw [c1])]
    refine iteT ?_
    refine ⟨_, rfl, x, C, dx, _, _, rfl, h1, hM.cl T, hM.nS T, mf_size _ _ _, _, rfl, y, C', dx', _, _, rfl, h1', hM'.cl T, hM'.nS T, mf_size _ _ _, rfl, _, rfl, ?_⟩
    by_cases c2 : s = s'
    rotate_left
    · rw [decide_eq_false (show ¬ (V.int s = V.int s') from fun z => c2 (by cases z; rfl))]
      refine iteF ?_
      rw [decide_eq_false (fun z => c2 z.2.1)] at k
      exact k
    rw [decide_eq_true (show V.int s = V.int s' by rw [c2])]
    refine iteT ?_
    refine ⟨_, rfl, x, C, dx, _, _, rfl, h1, hM.cl T, hM.nR T, mf_runs _ _ _, _, rfl, y, C', dx', _, _, rfl, h1', hM'.cl T, hM'.nR T, mf_runs _ _ _, runsD rs, runsD rs', dp_runsT h2 M.runs, dp_runsT h2' M'.runs, shaped_runs _, shaped_runs _, _, rfl, ?_⟩
    rw [eqv_runs]
    by_cases c3 : rs = rs'
    rotate_left
    · rw [decide_eq_false c3]
      refine iteF ?_
      rw [decide_eq_false (fun z => c3 z.2.2.1)] at k
      exact k
    rw [decide_eq_true c3]
    refine iteT ?_
    refine ⟨_, rfl, x, C, dx, _, _, rfl, h1, hM.cl T, hM.nG T, mf_gone _ _ _, _, rfl, y, C', dx', _, _, rfl, h1', hM'.cl T, hM'.nG T, mf_gone _ _ _, intsD ns, intsD ns', dp_intsT h3, dp_intsT h3', shaped_ints _, shaped_ints _, ?_⟩
    rw [eqv_ints]
    have e : decide (kind = kind' ∧ s = s' ∧ rs = rs' ∧ ns = ns') = decide (ns = ns') := by simp [c1, c2, c3]
    rw [e] at k
    exact k
end
end K01


set_option Elab.async false
set_option linter.all false
set_option maxRecDepth 100000
set_option maxHeartbeats 4000000
namespace K01
open PySem PySem.Spec PyProof.Rows L2
open Evl (Ex)
/-! ### number_of -/
def isDig (c : Nat) : Bool := decide (c ∈ ("0123456789" : Str).cps.toList)
/-- what number_of answers; none: not told here -/
def numW (w : Str) : Option (Option Int) :=
  if w = "" ∨ 9 < w.length ∨ w.cps.toList.all isDig = false then some none
  else if w.cps[0]? = some 48 ∧ w ≠ "0" then some none
  else (PySem.intText? w).map some
def optV : Option Int → V
  | none => .non
  | some n => .int n
section
variable {w : World} {K : PySem.W.Frag} {mg : Str → Option Value} {base : Heap} {C : Addr} {kind : Str}
def spNum : Sp := fun vs H Q _ => ∃ (x : Str) (r : Option Int), vs = [.str x] ∧ numW x = some r ∧ x.length ≤ 300 ∧ ∀ H', Ex H H' → Q (optV r) H'
theorem sc_number_of : FnScope ["word", "sign"] ["word"] (defScope s_number_of) := ⟨rfl, rfl, rfl, by decide +kernel, rfl, by decide +kernel, by decide +kernel⟩
theorem has_number_of (T : Ctx K mg) : Has w K mg base CX0 "number_of" 1 ["word"] spNum := by
  obtain ⟨tD, hD⟩ := T.c_DIGITS
  obtain ⟨tM, hM⟩ := T.c_MOST_DIGITS
  refine has_of (st := s_number_of) (f := He.ga K "number_of") T.d_number_of T.g_number_of (fun _ _ _ _ _ _ us hl => match us, hl with | [_], _ => rfl) fun fd F => ?_
  refine ok0 F sc_number_of (fun vs H Q E h => ?_) (fun cdv A outer s H vs Q E hr h => ?_)
  · obtain ⟨x, r, rfl, _⟩ := h
    rfl
  · obtain ⟨x, r, rfl, hx, hl, k⟩ := h
    have nd := sc_number_of.nd
    refine ⟨_, pss_cons (ps_if (PW.pt (pw_or (pt_cmpR op_eq (pv 0) pe_str (nomark _)) (pw_or (pt_cmpR op_gt (pe_callB call_len_str (by rfl) T.b_len PySem.boot_len (pa_cons (pv 0) pa_nil)) (pe_glob (v := .int 9) rfl hM ⟨_, rfl⟩) (nomark _))
        (pw_or1 (pt_not (pt_val (pe_callB (cr_all rfl) (by rfl) T.b_all (by decide +kernel) (pa_cons
          (pe_lc (own := [("sign", 1)]) (g := gName 1) (tt := tYes) rfl nd (pi_str (pv 0)) (blkOk_by (own := [("sign", 1)]) (N := ["word", "sign"]) (sc := defScope s_number_of) (by decide +kernel)) (fun _ _ _ _ _ => pg_name (i := 1) nd rfl (Or.inl rfl)) (fun _ _ _ _ _ => pts_nil)
            (fun _ _ _ _ _ => pe_cmpR op_in_sign (pv 1) (pe_glob (v := .str "0123456789") rfl hD ⟨_, rfl⟩) rfl)) pa_nil)))))))) (pss_one (ps_ret pe_non)) pss_nil)
      (pss_cons (ps_if (PW.pt (pw_and (pt_cmpR op_eq (pe_ix ix_str (pv 0) pe_int (fun _ _ => rfl)) pe_str (nomark _)) (pw_and1 (pt_cmpR op_ne (pv 0) pe_str (nomark _))))) (pss_one (ps_ret pe_non)) pss_nil)
      (pss_one (ps_ret (pe_callTy call_int_str (by rfl) T.b_int (by decide +kernel) (pa_cons (pv 0) pa_nil))))), ?_⟩
    have hs : x.length ≤ sizeLine := Nat.le_trans hl (by decide)
    unfold numW at hx
    refine ⟨_, rfl, rfl, _, rfl, ?_⟩
    by_cases c1 : x = ""
    · rw [if_pos (.inl c1)] at hx
      cases hx
      rw [decide_eq_true (show V.str x = V.str "" by rw [c1])]
      exact iteT (k H (Ex.refl H))
    rw [decide_eq_false (show ¬ (V.str x = V.str "") from fun z => c1 (by cases z; rfl))]
    refine iteF ?_
    refine ⟨_, rfl, x, rfl, hs, _, _, rfl, rfl, _, rfl, ?_⟩
    by_cases c2 : 9 < x.length
    · rw [if_pos (.inr (.inl c2))] at hx
      cases hx
      rw [decide_eq_true (show (9 : Int) < (x.length : Int) by omega)]
      exact iteT (k H (Ex.refl H))
    rw [decide_eq_false (show ¬ ((9 : Int) < (x.length : Int)) by omega)]
    refine iteF ?_
    refine ⟨_, rfl, x, rfl, fun D hD' => lc_it walk_str (fun i H' => Ex H H' ∧ H' D = some (.lst (((x.cps.toList.take i).map isDig).map V.bl))) ⟨Ex.new hD', upd_same⟩ (fun i H' _ q => trivial) ?_ ?_⟩
    · rintro i v H2 H3 hi ⟨e2, hD2⟩ ⟨rfl, c, hc, rfl⟩
      refine ⟨rfl, ?_⟩
      refine tYesI ?_
      refine ⟨_, rfl, c, "0123456789", rfl, rfl, ?_⟩
      refine ⟨_, hD2, ?_, Evl.Ex.mut e2 hD', ?_⟩
      · rw [List.length_map, List.length_map, List.length_take]
        have : x.cps.toList.length = x.length := by simp [Str.length]
        exact small1000 (by omega)
      · rw [upd_same, List.take_add_one]
        have : x.cps.toList[i]? = some c := by simpa using hc
        rw [this]
        simp [isDig]
    · rintro H2 ⟨e2, hD2⟩
      have hz : x.cps.size = x.cps.toList.length := by simp
      rw [hz, List.take_length] at hD2
      refine ⟨D, _, rfl, SqL.of hD2, _, rfl, ?_⟩
      have ea : (List.map isDig x.cps.toList).all id = x.cps.toList.all isDig := by simp
      rw [ea]
      cases c3 : x.cps.toList.all isDig with
      | false =>
        rw [if_pos (.inr (.inr c3))] at hx
        cases hx
        exact iteT (k H2 e2)
      | true =>
        rw [if_neg (by simp [c1, c2, c3])] at hx
        refine iteF ?_
        have hne : x.cps.toList ≠ [] := fun z => c1 (by
          obtain ⟨a⟩ := x
          have : a = #[] := by simpa using z
          rw [this]
          rfl)
        obtain ⟨c0, hc0⟩ : ∃ c0, x.cps[0]? = some c0 := by
          cases h0 : x.cps.toList with
          | nil => exact absurd h0 hne
          | cons a r => exact ⟨a, by rw [← Array.getElem?_toList, h0]; rfl⟩
        refine ⟨_, rfl, x, 0, c0, rfl, rfl, hs, ?_, ?_⟩
        · rw [← Array.getElem?_toList] at hc0
          exact atI_nat hc0
        refine ⟨rfl, _, rfl, ?_⟩
        by_cases c4 : c0 = 48
        · rw [decide_eq_true (show V.str ⟨#[c0]⟩ = V.str "0" by rw [c4]; rfl)]
          refine iteT ⟨_, rfl, rfl, _, rfl, ?_⟩
          by_cases c5 : x = "0"
          · rw [decide_eq_true (show V.str x = V.str "0" by rw [c5])]
            refine iteF ?_
            rw [if_neg (fun z => z.2 c5)] at hx
            cases h5 : PySem.intText? x with
            | none => rw [h5] at hx; cases hx
            | some n =>
              rw [h5] at hx
              cases hx
              exact ⟨_, rfl, x, n, rfl, h5, by omega, k H2 e2⟩
          · rw [decide_eq_false (show ¬ (V.str x = V.str "0") from fun z => c5 (by cases z; rfl))]
            refine iteT ?_
            rw [if_pos ⟨by rw [hc0, c4], c5⟩] at hx
            cases hx
            exact k H2 e2
        · rw [decide_eq_false (show ¬ (V.str ⟨#[c0]⟩ = V.str "0") from fun z => c4 (by
            have : (⟨#[c0]⟩ : Str) = "0" := by cases z; rfl
            have h2 : #[c0] = ("0" : Str).cps := congrArg Str.cps this
            have h3 : ("0" : Str).cps = #[48] := by decide +kernel
            rw [h3] at h2
            simpa using h2))]
          refine iteF ?_
          rw [if_neg (fun z => c4 (by rw [hc0] at z; exact Option.some.inj z.1))] at hx
          cases h5 : PySem.intText? x with
          | none => rw [h5] at hx; cases hx
          | some n =>
            rw [h5] at hx
            cases hx
            exact ⟨_, rfl, x, n, rfl, h5, by omega, k H2 e2⟩
end
end K01


set_option Elab.async false
set_option linter.all false
set_option maxRecDepth 100000
set_option maxHeartbeats 4000000
namespace K01
open PySem PySem.Spec PyProof.Rows L2
open Evl (Ex)
section
variable {w : World} {K : PySem.W.Frag} {mg : Str → Option Value} {base : Heap}
theorem Ctx.bt (T : Ctx K mg) : PySem.BadTextX.BadTextTxt K mg (He.ga K "BadText") (He.ma K (He.ga K "BadText") "__init__") := by
  obtain ⟨fd, F⟩ := T.d_BadText___init__
  obtain ⟨oc, od, dV, kV, doc, pm, an, cdv, ct, osl, rfl, lk, hcd, hD, hK⟩ := F.ex
  rcases hD with ⟨_, rfl⟩ | ⟨e, _⟩
  · exact ⟨T.g_BadText, T.xc_BadText, T.xsa_BadText, T.xga_BadText, T.xgg_BadText, T.xnn_BadText, T.xii_BadText, T.xt_BadText, T.xk_BadText, T.xs_BadText, T.xy_BadText, T.xd_BadText, T.te_BadText, ⟨oc, od, kV, doc, pm, an, cdv, ct, osl, _, _, _, _, _, _, lk, hcd⟩⟩
  · exact absurd rfl e
theorem Ctx.bn (T : Ctx K mg) : PySem.BadNumberX.BadNumberTxt K mg (He.ga K "BadNumber") (He.ma K (He.ga K "BadNumber") "__init__") := by
  obtain ⟨fd, F⟩ := T.d_BadNumber___init__
  obtain ⟨oc, od, dV, kV, doc, pm, an, cdv, ct, osl, rfl, lk, hcd, hD, hK⟩ := F.ex
  rcases hD with ⟨_, rfl⟩ | ⟨e, _⟩
  · exact ⟨T.g_BadNumber, T.xc_BadNumber, T.xsa_BadNumber, T.xga_BadNumber, T.xgg_BadNumber, T.xnn_BadNumber, T.xii_BadNumber, T.xt_BadNumber, T.xk_BadNumber, T.xs_BadNumber, T.xy_BadNumber, T.xd_BadNumber, T.te_BadNumber, ⟨oc, od, kV, doc, pm, an, cdv, ct, osl, _, _, _, _, _, _, lk, hcd⟩⟩
  · exact absurd rfl e
theorem Ctx.br (T : Ctx K mg) : PySem.BadRunX.BadRunTxt K mg (He.ga K "BadRun") (He.ma K (He.ga K "BadRun") "__init__") := by
  obtain ⟨fd, F⟩ := T.d_BadRun___init__
  obtain ⟨oc, od, dV, kV, doc, pm, an, cdv, ct, osl, rfl, lk, hcd, hD, hK⟩ := F.ex
  rcases hD with ⟨_, rfl⟩ | ⟨e, _⟩
  · exact ⟨T.g_BadRun, T.xc_BadRun, T.xsa_BadRun, T.xga_BadRun, T.xgg_BadRun, T.xnn_BadRun, T.xii_BadRun, T.xt_BadRun, T.xk_BadRun, T.xs_BadRun, T.xy_BadRun, T.xd_BadRun, T.te_BadRun, ⟨oc, od, kV, doc, pm, an, cdv, ct, osl, _, _, _, _, _, _, lk, hcd⟩⟩
  · exact absurd rfl e
/-- BadText with its line leaves the def -/
def Bad (K : PySem.W.Frag) (H : Hp) (E : XK) (n : Int) : Prop := ∀ H' d, Ex H H' → H d = none → H' d = some (.xd [(("line" : Str), .int n)]) → E (.ref (He.ga K "BadText")) (some d) H'
theorem Bad.go {H H1 : Hp} {E : XK} {n : Int} {d : Addr} (h : Bad K H E n) (e : Ex H H1) (hd : H1 d = none) : E (.ref (He.ga K "BadText")) (some d) (upd H1 d (.xd [(("line" : Str), .int n)])) := h _ _ (e.trans (Ex.new hd)) (Evl.fresh_back e hd) upd_same
theorem okX {x : Str} {st : Stmt} {f : Addr} {fd : FuncData} {N ps : List Str} {k : Nat} {sp : Sp} {dvs : List V} {kws : List (Str × V)} {qual : Str} (F : FunD K x qual (defArgs st) (defBody st) (defScope st) dvs kws f fd) (S : FnScope N ps (defScope st)) (len : ∀ vs H Q E, sp vs H Q E → vs.length = ps.length)
    (hbody : ∀ (cdv : Value) (A : Around) (outer : List Env) (s : Shared) (H : Hp) (vs : List V) (Q : VK) (E : XK), Room k (A.deeper (envOfC qual (defScope st) s.heap.objs.size f cdv)) → sp vs H Q E →
      ∃ t, PSs (cxOf (L2.CX PP w) PP w K mg base N qual (defScope st) f cdv A outer s H E) (defBody st) t ∧ t { nx := fun _ H' => Q .non H', rt := Q } (start N vs) H) : FnOk PP w K mg base (L2.CX PP w) (k + 1) f fd ps sp := F.ok S len hbody
theorem iteT' {c : Bool} {A B : Prop} (hc : c = true) (h : A) : if c = true then A else B := by
  rw [if_pos hc]
  exact h
/-! ### row_line -/
def inKinds (k : Str) : Bool := decide (k = "join") || decide (k = "lap")
/-- what row_line answers: none: not told here; some none: a wrong line -/
def rowW (l : Str) : Option (Option (Str × Int)) :=
  match Txt.split l " " with
  | [k, n] => if inKinds k = true then (match numW n with
      | none => none
      | some none => some none
      | some (some s) => if 1 ≤ s ∧ s ≤ 30 then some (some (k, s)) else some none) else some none
  | _ => some none
theorem beq_dec (a k : Str) : (a == k) = decide (k = a) := by
  rw [Bool.eq_iff_iff, beq_iff_eq, decide_eq_true_iff]
  exact eq_comm
theorem inV_kinds (k : Str) : inV (.str k) [.str "join", .str "lap"] = inKinds k := by
  show (eqV (.str "join") (.str k) || (eqV (.str "lap") (.str k) || false)) = _
  rw [Bool.or_false]
  show ((("join" : Str) == k) || (("lap" : Str) == k)) = _
  rw [beq_dec, beq_dec]
  rfl
def spRow1 (K : PySem.W.Frag) : Sp := fun vs H Q E => ∃ (l : Str) (r : Option (Str × Int)), vs = [.str l] ∧ rowW l = some r ∧ l.length ≤ 100 ∧ (∀ x ∈ Txt.split l " ", x.length ≤ 300) ∧
  (r = none → Bad K H E 1) ∧ ∀ k s, r = some (k, s) → ∀ H' p, Ex H H' → H p = none → H' p = some (.tup [.str k, .int s]) → Q (.ref p) H'
theorem sc_row_line : FnScope ["line", "words", "size"] ["line"] (defScope s_row_line) := ⟨rfl, rfl, rfl, by decide +kernel, rfl, by decide +kernel, by decide +kernel⟩
theorem has_row_line (T : Ctx K mg) : Has w K mg base (L2.CX PP w) "row_line" 3 ["line"] (spRow1 K) := by
  obtain ⟨f1, fd1, m1, kp1, F1, b1⟩ := has_number_of (w := w) (base := base) T
  obtain ⟨tG, hG⟩ := T.c_GREATEST_SIZE
  refine has_of (st := s_row_line) (f := He.ga K "row_line") T.d_row_line T.g_row_line (fun _ _ _ _ _ _ us hl => match us, hl with | [_], _ => rfl) fun fd F => ?_
  refine okX F sc_row_line (fun vs H Q E h => ?_) (fun cdv A outer s H vs Q E hr h => ?_)
  · obtain ⟨l, r, rfl, _⟩ := h
    rfl
  · obtain ⟨l, r, rfl, hx, hl, hws, hB, k⟩ := h
    have nd := sc_row_line.nd
    have hr1 := hr.mono (show 1 ≤ 2 by decide)
    refine ⟨_, pss_cons (ps_set (i := 1) nd rfl (.inl rfl) (pe_split (pv 0) pe_str))
      (pss_cons (ps_if (PW.pt (pw_or (pt_cmpR op_ne (pe_callB call_len_seq (by rfl) T.b_len PySem.boot_len (pa_cons (pv 1) pa_nil)) pe_int (nomark _)) (pw_or1 (pt_cmpR op_notIn_seq (pe_ix ix_list (pv 1) pe_int (fun _ _ => rfl)) (pe_tup (pa_cons pe_str (pa_cons pe_str pa_nil))) (by rfl)))))
        (pss_one (ps_raiseBadText (W := fun cls d _ H => E cls d H) rfl T.bt hr (takes_of rfl rfl rfl rfl) (pa_cons pe_int pa_nil))) pss_nil)
      (pss_cons (ps_set (i := 2) nd rfl (.inl rfl) (pe_call F1 hr1 (by rfl) m1 kp1 b1 .nil pass0 (pa_cons (pe_ix ix_list (pv 1) pe_int (fun _ _ => rfl)) pa_nil)))
      (pss_cons (ps_if (pt_cmpR op_isN (pv 2) pe_non (nomark _)) (pss_one (ps_raiseBadText (W := fun cls d _ H => E cls d H) rfl T.bt hr (takes_of rfl rfl rfl rfl) (pa_cons pe_int pa_nil))) pss_nil)
      (pss_cons (ps_if (PW.pt (pw_or (pt_cmpR op_lt (pv 2) pe_int (nomark _)) (pw_or1 (pt_cmpR op_gt (pv 2) (pe_glob (v := .int 30) rfl hG ⟨_, rfl⟩) (nomark _)))))
        (pss_one (ps_raiseFrom (W := fun cls d _ H => E cls d H) rfl (takes_of rfl rfl rfl rfl) (pmk5_BadText T.bt hr (pa_cons pe_int pa_nil)) (caus_BadNumber T.bn hr plain_str))) pss_nil)
      (pss_one (ps_ret (pe_tup (pa_cons (pe_ix ix_list (pv 1) pe_int (fun _ _ => rfl)) (pa_cons (pv 2) pa_nil))))))))), ?_⟩
    have hz : l.length + 2 ≤ sizeLine := Nat.le_trans (by omega) (show 1000 ≤ sizeLine by decide)
    refine ⟨_, rfl, ⟨_, rfl⟩, l, " ", rfl, rfl, by decide +kernel, hz, fun p hp => ?_⟩
    have e1 : Ex H (upd H p (.lst ((Txt.split l " ").map V.str))) := Ex.new hp
    unfold rowW at hx
    generalize Txt.split l " " = ws at *
    have hp1 : upd H p (.lst (ws.map V.str)) p = some (.lst (ws.map V.str)) := upd_same
    generalize upd H p (.lst (ws.map V.str)) = H1 at *
    refine ⟨_, rfl, p, _, rfl, .inl (SqL.of hp1), rfl, _, rfl, ?_⟩
    match ws, hx, hp1, hws with
    | [], hx, hp1, hws =>
      cases hx
      exact iteT ⟨_, rfl, fun d hd => (hB rfl).go e1 hd⟩
    | [x1], hx, hp1, hws =>
      cases hx
      exact iteT ⟨_, rfl, fun d hd => (hB rfl).go e1 hd⟩
    | x1 :: x2 :: x3 :: xs, hx, hp1, hws =>
      cases hx
      refine iteT' (by simp; omega) ⟨_, rfl, fun d hd => (hB rfl).go e1 hd⟩
    | [k0, n0], hx, hp1, hws =>
      refine iteF ?_
      refine ⟨_, rfl, p, _, 0, _, rfl, rfl, SqL.of hp1, rfl, (by show 2 ≤ sizeLine; decide), fun q hq => ⟨q, _, rfl, .inr (SqT.of upd_same), rfl, rfl, _, rfl, ?_⟩⟩
      have e2 := e1.trans (Ex.new (o := .tup [V.str "join", V.str "lap"]) hq)
      have hp2 := (Ex.new (o := .tup [V.str "join", V.str "lap"]) hq) _ _ hp1
      generalize upd H1 q (.tup [V.str "join", V.str "lap"]) = H2 at *
      rw [inV_kinds]
      cases c1 : inKinds k0 with
      | false =>
        have hx' : (some none : Option (Option (Str × Int))) = some r := by
          rw [← hx]
          simp [c1]
        cases hx'
        exact iteT ⟨_, rfl, fun d hd => (hB rfl).go e2 hd⟩
      | true =>
        refine iteF ?_
        have hx' : (match numW n0 with
          | none => none
          | some none => some none
          | some (some s) => if 1 ≤ s ∧ s ≤ 30 then some (some (k0, s)) else some none) = some r := by
          rw [← hx]
          simp [c1]
        cases hn : numW n0 with
        | none => rw [hn] at hx'; cases hx'
        | some rn =>
          refine ⟨_, rfl, p, _, 1, _, rfl, rfl, SqL.of hp2, rfl, n0, rn, rfl, hn, hws _ (by simp), fun H3 e3 => ?_⟩
          have e4 := e2.trans e3
          have hp3 := e3 _ _ hp2
          rw [hn] at hx'
          cases rn with
          | none =>
            cases hx'
            refine ⟨_, rfl, rfl, _, rfl, ?_⟩
            exact iteT ⟨_, rfl, fun d hd => (hB rfl).go e4 hd⟩
          | some sz =>
            refine ⟨_, rfl, rfl, _, rfl, iteF ?_⟩
            have hx2 : (if 1 ≤ sz ∧ sz ≤ 30 then some (some (k0, sz)) else some none) = some r := hx'
            refine ⟨_, rfl, _, _, rfl, rfl, _, rfl, ?_⟩
            by_cases c2 : sz < 1
            · rw [decide_eq_true c2]
              rw [if_neg (by omega)] at hx2
              cases hx2
              exact iteT ⟨trivial, _, rfl, fun d hd => (hB rfl).go e4 hd⟩
            rw [decide_eq_false c2]
            refine iteF ?_
            refine ⟨_, rfl, _, _, rfl, rfl, _, rfl, ?_⟩
            by_cases c3 : 30 < sz
            · rw [decide_eq_true c3]
              rw [if_neg (by omega)] at hx2
              cases hx2
              exact iteT ⟨trivial, _, rfl, fun d hd => (hB rfl).go e4 hd⟩
            rw [decide_eq_false c3]
            refine iteF ?_
            rw [if_pos (by omega)] at hx2
            cases hx2
            refine ⟨_, rfl, p, _, 0, _, rfl, rfl, SqL.of hp3, rfl, _, rfl, (by show 2 ≤ sizeLine; decide), fun q2 hq2 => ?_⟩
            exact k _ _ rfl _ _ (e4.trans (Ex.new hq2)) (Evl.fresh_back e4 hq2) upd_same
end
end K01


set_option Elab.async false
set_option linter.all false
set_option maxRecDepth 100000
set_option maxHeartbeats 4000000
namespace K01
open PySem PySem.Spec PyProof.Rows L2
open Evl (Ex)
section
variable {w : World} {K : PySem.W.Frag} {mg : Str → Option Value} {base : Heap}
/-! ### part_line -/
def twoW (size : Int) (a b : Str) (g : Bool) : Option (Option ((Int × Int) × Bool)) :=
  match numW a, numW b with
  | some (some x), some (some y) => if 0 ≤ x ∧ x < y ∧ y ≤ size then some (some ((x, y), g)) else some none
  | some _, some _ => some none
  | _, _ => none
/-- what part_line answers: none: not told here; some none: a wrong line -/
def partW (size : Int) (l : Str) : Option (Option ((Int × Int) × Bool)) :=
  match Txt.split l " " with
  | [a, b] => twoW size a b false
  | [a, b, g] => if g = "gone" then twoW size a b true else some none
  | _ => some none
theorem twoW_inv {s : Int} {a b : Str} {g : Bool} {r : Option ((Int × Int) × Bool)} (h : twoW s a b g = some r) : ∃ ra rb, numW a = some ra ∧ numW b = some rb ∧ r = (match ra, rb with
    | some x, some y => if 0 ≤ x ∧ x < y ∧ y ≤ s then some ((x, y), g) else none
    | _, _ => none) := by
  unfold twoW at h
  cases ha : numW a with
  | none => rw [ha] at h; cases h
  | some ra =>
    cases hb : numW b with
    | none => rw [ha, hb] at h; cases ra <;> cases h
    | some rb =>
      rw [ha, hb] at h
      refine ⟨ra, rb, rfl, rfl, ?_⟩
      cases ra with
      | none => cases h; rfl
      | some x =>
        cases rb with
        | none => cases h; rfl
        | some y =>
          have h' : (if 0 ≤ x ∧ x < y ∧ y ≤ s then some (some ((x, y), g)) else some none) = some r := h
          show r = if 0 ≤ x ∧ x < y ∧ y ≤ s then some ((x, y), g) else none
          by_cases c : 0 ≤ x ∧ x < y ∧ y ≤ s
          · rw [if_pos c] at h' ⊢
            exact (Option.some.inj h').symm
          · rw [if_neg c] at h' ⊢
            exact (Option.some.inj h').symm
def spPart (K : PySem.W.Frag) : Sp := fun vs H Q E => ∃ (s i : Int) (l : Str) (r : Option ((Int × Int) × Bool)), vs = [.int s, .int i, .str l] ∧ partW s l = some r ∧ l.length ≤ 100 ∧ (∀ x ∈ Txt.split l " ", x.length ≤ 300) ∧
  (r = none → Bad K H E (i + 2)) ∧ ∀ x y g, r = some ((x, y), g) → ∀ H' p t, Ex H H' → H p = none → H t = none → H' p = some (.tup [.ref t, .bl g]) → H' t = some (.tup [.int x, .int y]) → Q (.ref p) H'
theorem sc_part_line : FnScope ["size", "part", "line", "words", "is_gone", "run"] ["size", "part", "line"] (defScope s_part_line) := ⟨rfl, rfl, rfl, by decide +kernel, rfl, by decide +kernel, by decide +kernel⟩
theorem has_part_line (T : Ctx K mg) : Has w K mg base (L2.CX PP w) "part_line" 4 ["size", "part", "line"] (spPart K) := by
  obtain ⟨f1, fd1, m1, kp1, F1, b1⟩ := has_number_of (w := w) (base := base) T
  obtain ⟨f2, fd2, m2, kp2, F2, b2⟩ := has_is_run (w := w) (base := base) T
  refine has_of (st := s_part_line) (f := He.ga K "part_line") T.d_part_line T.g_part_line (fun _ _ _ _ _ _ us hl => match us, hl with | [_, _, _], _ => rfl) fun fd F => ?_
  refine okX F sc_part_line (fun vs H Q E h => ?_) (fun cdv A outer s0 H vs Q E hr h => ?_)
  · obtain ⟨s, i, l, r, rfl, _⟩ := h
    rfl
  · obtain ⟨s, i, l, r, rfl, hx, hl, hws, hB, k⟩ := h
    have nd := sc_part_line.nd
    have hr1 := hr.mono (show 1 ≤ 3 by decide)
    refine ⟨_, pss_cons (ps_set (i := 3) nd rfl (.inl rfl) (pe_split (pv 2) pe_str))
      (pss_cons (ps_set (i := 4) nd rfl (.inl rfl) (pe_and (pe_cmpR op_eq (pe_callB call_len_seq (by rfl) T.b_len PySem.boot_len (pa_cons (pv 3) pa_nil)) pe_int (nomark _)) (pe_one (pe_cmpR op_eq (pe_ix ix_list (pv 3) pe_int (fun _ _ => rfl)) pe_str (nomark _)))))
      (pss_cons (ps_if (PW.pt (pw_and (pt_cmpR op_ne (pe_callB call_len_seq (by rfl) T.b_len PySem.boot_len (pa_cons (pv 3) pa_nil)) pe_int (nomark _)) (pw_and1 (pt_not (pt_val (pv 4))))))
        (pss_one (ps_raiseBadText (W := fun cls d _ H => E cls d H) rfl T.bt hr (takes_of rfl rfl rfl rfl) (pa_cons (pe_op op_add (pv 1) pe_int) pa_nil))) pss_nil)
      (pss_cons (ps_set (i := 5) nd rfl (.inl rfl) (pe_tup (pa_cons (pe_call F1 hr1 (by rfl) m1 kp1 b1 .nil pass0 (pa_cons (pe_ix ix_list (pv 3) pe_int (fun _ _ => rfl)) pa_nil)) (pa_cons (pe_call F1 hr1 (by rfl) m1 kp1 b1 .nil pass0 (pa_cons (pe_ix ix_list (pv 3) pe_int (fun _ _ => rfl)) pa_nil)) pa_nil))))
      (pss_cons (ps_if (pt_cmpR op_in_seq pe_non (pv 5) (by rfl)) (pss_one (ps_raiseBadText (W := fun cls d _ H => E cls d H) rfl T.bt hr (takes_of rfl rfl rfl rfl) (pa_cons (pe_op op_add (pv 1) pe_int) pa_nil))) pss_nil)
      (pss_cons (ps_if (pt_not (pt_val (pe_call F2 hr (by rfl) m2 kp2 b2 .nil pass0 (pa_cons (pv 0) (pa_cons (pv 5) pa_nil)))))
        (pss_one (ps_raiseFrom (W := fun cls d _ H => E cls d H) rfl (takes_of rfl rfl rfl rfl) (pmk5_BadText T.bt hr (pa_cons (pe_op op_add (pv 1) pe_int) pa_nil)) (caus_BadRun T.br hr (plain_var (i := 1) rfl (.inl rfl))))) pss_nil)
      (pss_one (ps_ret (pe_tup (pa_cons (pv 5) (pa_cons (pv 4) pa_nil)))))))))), ?_⟩
    have hz : l.length + 2 ≤ sizeLine := Nat.le_trans (by omega) (show 1000 ≤ sizeLine by decide)
    refine ⟨_, rfl, ⟨_, rfl⟩, l, " ", rfl, rfl, by decide +kernel, hz, fun p hp => ?_⟩
    have e1 : Ex H (upd H p (.lst ((Txt.split l " ").map V.str))) := Ex.new hp
    unfold partW at hx
    generalize Txt.split l " " = ws at *
    have hp1 : upd H p (.lst (ws.map V.str)) p = some (.lst (ws.map V.str)) := upd_same
    generalize upd H p (.lst (ws.map V.str)) = H1 at *
    have bad : r = none → ∀ (σ : L2.St) (H2 : Hp) (D : Ends), Ex H H2 → σ[1]? = some (some (.int i)) → tRaiseBadText (He.ga K "BadText") (fun cls d _ H => E cls d H) (tCons (tOp (rI0 fun i j => .int (i + j)) (tVar 1) (tC (.int 2))) tNil) D σ H2 := fun hr0 σ H2 D e hσ =>
      ⟨_, hσ, _, _, rfl, rfl, _, rfl, fun d hd => (hB hr0).go e hd⟩
    refine ⟨_, rfl, p, _, rfl, .inl (SqL.of hp1), rfl, ?_⟩
    have cls : (r = none ∧ (∀ x1 x2 : Str, ws ≠ [x1, x2]) ∧ ∀ x1 x2 : Str, ws ≠ [x1, x2, ("gone" : Str)]) ∨ ∃ (x1 x2 : Str) (g : Bool), ((ws = [x1, x2] ∧ g = false) ∨ (ws = [x1, x2, ("gone" : Str)] ∧ g = true)) ∧ twoW s x1 x2 g = some r := by
      match ws, hx with
      | [], hx => cases hx; exact .inl ⟨rfl, by simp, by simp⟩
      | [x1], hx => cases hx; exact .inl ⟨rfl, by simp, by simp⟩
      | [x1, x2], hx => exact .inr ⟨x1, x2, false, .inl ⟨rfl, rfl⟩, hx⟩
      | [x1, x2, x3], hx =>
        by_cases c : x3 = "gone"
        · subst c
          exact .inr ⟨x1, x2, true, .inr ⟨rfl, rfl⟩, by rw [← hx]; simp⟩
        · have : (some none : Option (Option ((Int × Int) × Bool))) = some r := by rw [← hx]; simp [c]
          cases this
          exact .inl ⟨rfl, by simp, fun a b z => c (by injection z with _ z; injection z with _ z; injection z)⟩
      | x1 :: x2 :: x3 :: x4 :: xs, hx => cases hx; exact .inl ⟨rfl, by simp, by simp⟩
    rcases cls with ⟨hr0, hn1, hn2⟩ | ⟨x1, x2, g, hc, hx2⟩
    · match ws, hp1, hn1, hn2 with
      | [], hp1, _, _ => exact ⟨_, rfl, iteF ⟨_, rfl, p, _, rfl, .inl (SqL.of hp1), rfl, _, rfl, iteT ⟨_, rfl, _, rfl, iteT (bad hr0 _ _ _ e1 rfl)⟩⟩⟩
      | [x1], hp1, _, _ => exact ⟨_, rfl, iteF ⟨_, rfl, p, _, rfl, .inl (SqL.of hp1), rfl, _, rfl, iteT ⟨_, rfl, _, rfl, iteT (bad hr0 _ _ _ e1 rfl)⟩⟩⟩
      | [x1, x2], hp1, hn1, _ => exact absurd rfl (hn1 x1 x2)
      | [x1, x2, x3], hp1, _, hn2 =>
        have c : ¬ x3 = "gone" := fun z => hn2 x1 x2 (by rw [z])
        refine ⟨_, rfl, iteT ⟨_, rfl, p, _, 2, _, rfl, rfl, SqL.of hp1, rfl, rfl, ?_⟩⟩
        refine ⟨_, rfl, p, _, rfl, .inl (SqL.of hp1), rfl, _, rfl, iteT ⟨_, rfl, _, rfl, ?_⟩⟩
        rw [decide_eq_false (show ¬ (V.str x3 = V.str "gone") from fun z => c (by cases z; rfl))]
        exact iteT (bad hr0 _ _ _ e1 rfl)
      | x1 :: x2 :: x3 :: x4 :: xs, hp1, _, _ =>
        refine ⟨_, rfl, ?_⟩
        rw [decide_eq_false (show ¬ (V.int (((x1 :: x2 :: x3 :: x4 :: xs).map V.str).length : Int) = V.int 3) from fun z => by
          have : (((x1 :: x2 :: x3 :: x4 :: xs).map V.str).length : Int) = 3 := by injection z
          simp at this
          omega)]
        refine iteF ⟨_, rfl, p, _, rfl, .inl (SqL.of hp1), rfl, _, rfl, ?_⟩
        rw [decide_eq_false (show ¬ (V.int (((x1 :: x2 :: x3 :: x4 :: xs).map V.str).length : Int) = V.int 2) from fun z => by
          have : (((x1 :: x2 :: x3 :: x4 :: xs).map V.str).length : Int) = 2 := by injection z
          simp at this
          omega)]
        exact iteT ⟨_, rfl, _, rfl, iteT (bad hr0 _ _ _ e1 rfl)⟩
    · obtain ⟨vs, hv, ha0, ha1, hw1, hw2⟩ : ∃ vs, H1 p = some (.lst vs) ∧ atI vs 0 = some (.str x1) ∧ atI vs 1 = some (.str x2) ∧ x1.length ≤ 300 ∧ x2.length ≤ 300 := by
        rcases hc with ⟨rfl, _⟩ | ⟨rfl, _⟩
        · exact ⟨_, hp1, rfl, rfl, hws _ (by simp), hws _ (by simp)⟩
        · exact ⟨_, hp1, rfl, rfl, hws _ (by simp), hws _ (by simp)⟩
      obtain ⟨ra, rb, hna, hnb, er⟩ := twoW_inv hx2
      rcases hc with ⟨rfl, rfl⟩ | ⟨rfl, rfl⟩
      · refine ⟨_, rfl, iteF ⟨_, rfl, p, _, rfl, .inl (SqL.of hp1), rfl, _, rfl, iteF ?_⟩⟩
        refine ⟨_, rfl, p, _, 0, _, rfl, rfl, SqL.of hv, ha0, x1, ra, rfl, hna, hw1, fun H2 e2 => ?_⟩
        refine ⟨_, rfl, p, _, 1, _, rfl, rfl, SqL.of (e2 _ _ hv), ha1, x2, rb, rfl, hnb, hw2, fun H3 e3 => ?_⟩
        refine ⟨(by show 2 ≤ sizeLine; decide), fun q hq => ?_⟩
        have e4 : Ex H (upd H3 q (.tup [optV ra, optV rb])) := ((e1.trans e2).trans e3).trans (Ex.new hq)
        have hq4 : upd H3 q (.tup [optV ra, optV rb]) q = some (.tup [optV ra, optV rb]) := upd_same
        have hq0 : H q = none := Evl.fresh_back ((e1.trans e2).trans e3) hq
        generalize upd H3 q (.tup [optV ra, optV rb]) = H4 at *
        cases ra with
        | none => exact ⟨_, rfl, q, _, rfl, .inr (SqT.of hq4), rfl, by cases rb <;> rfl, _, rfl, iteT (bad (by rw [er]) _ _ _ e4 rfl)⟩
        | some x =>
          cases rb with
          | none => exact ⟨_, rfl, q, _, rfl, .inr (SqT.of hq4), rfl, rfl, _, rfl, iteT (bad (by rw [er]) _ _ _ e4 rfl)⟩
          | some y =>
            refine ⟨_, rfl, q, _, rfl, .inr (SqT.of hq4), rfl, rfl, _, rfl, iteF ?_⟩
            refine ⟨_, rfl, _, rfl, s, q, x, y, rfl, hq4, fun H5 e5 => ⟨_, rfl, ?_⟩⟩
            by_cases c : 0 ≤ x ∧ x < y ∧ y ≤ s
            · rw [decide_eq_true c]
              refine iteF ?_
              have er' : r = some ((x, y), false) := by rw [er]; exact if_pos c
              refine ⟨_, rfl, _, rfl, (by show 2 ≤ sizeLine; decide), fun q2 hq2 => ?_⟩
              exact k x y _ er' _ q2 q ((e4.trans e5).trans (Ex.new hq2)) (Evl.fresh_back (e4.trans e5) hq2) hq0 upd_same (Ex.new hq2 _ _ (e5 _ _ hq4))
            · rw [decide_eq_false c]
              refine iteT ⟨⟨_, rfl⟩, _, rfl, _, _, rfl, rfl, _, rfl, fun d hd => (hB (by rw [er]; exact if_neg c)).go (e4.trans e5) hd⟩
      · refine ⟨_, rfl, iteT ⟨_, rfl, p, _, 2, _, rfl, rfl, SqL.of hp1, rfl, rfl, ?_⟩⟩
        rw [decide_eq_true (show V.str "gone" = V.str "gone" from rfl)]
        refine ⟨_, rfl, p, _, rfl, .inl (SqL.of hp1), rfl, _, rfl, iteT ⟨_, rfl, _, rfl, iteF ?_⟩⟩
        refine ⟨_, rfl, p, _, 0, _, rfl, rfl, SqL.of hv, ha0, x1, ra, rfl, hna, hw1, fun H2 e2 => ?_⟩
        refine ⟨_, rfl, p, _, 1, _, rfl, rfl, SqL.of (e2 _ _ hv), ha1, x2, rb, rfl, hnb, hw2, fun H3 e3 => ?_⟩
        refine ⟨(by show 2 ≤ sizeLine; decide), fun q hq => ?_⟩
        have e4 : Ex H (upd H3 q (.tup [optV ra, optV rb])) := ((e1.trans e2).trans e3).trans (Ex.new hq)
        have hq4 : upd H3 q (.tup [optV ra, optV rb]) q = some (.tup [optV ra, optV rb]) := upd_same
        have hq0 : H q = none := Evl.fresh_back ((e1.trans e2).trans e3) hq
        generalize upd H3 q (.tup [optV ra, optV rb]) = H4 at *
        cases ra with
        | none => exact ⟨_, rfl, q, _, rfl, .inr (SqT.of hq4), rfl, by cases rb <;> rfl, _, rfl, iteT (bad (by rw [er]) _ _ _ e4 rfl)⟩
        | some x =>
          cases rb with
          | none => exact ⟨_, rfl, q, _, rfl, .inr (SqT.of hq4), rfl, rfl, _, rfl, iteT (bad (by rw [er]) _ _ _ e4 rfl)⟩
          | some y =>
            refine ⟨_, rfl, q, _, rfl, .inr (SqT.of hq4), rfl, rfl, _, rfl, iteF ?_⟩
            refine ⟨_, rfl, _, rfl, s, q, x, y, rfl, hq4, fun H5 e5 => ⟨_, rfl, ?_⟩⟩
            by_cases c : 0 ≤ x ∧ x < y ∧ y ≤ s
            · rw [decide_eq_true c]
              refine iteF ?_
              have er' : r = some ((x, y), true) := by rw [er]; exact if_pos c
              refine ⟨_, rfl, _, rfl, (by show 2 ≤ sizeLine; decide), fun q2 hq2 => ?_⟩
              exact k x y _ er' _ q2 q ((e4.trans e5).trans (Ex.new hq2)) (Evl.fresh_back (e4.trans e5) hq2) hq0 upd_same (Ex.new hq2 _ _ (e5 _ _ hq4))
            · rw [decide_eq_false c]
              refine iteT ⟨⟨_, rfl⟩, _, rfl, _, _, rfl, rfl, _, rfl, fun d hd => (hB (by rw [er]; exact if_neg c)).go (e4.trans e5) hd⟩
end
end K01


set_option Elab.async false
set_option linter.all false
set_option maxRecDepth 100000
set_option maxHeartbeats 4000000
namespace K01
open PySem PySem.Spec PyProof.Rows L2
open Evl (Ex)
/-! ### texts -/
abbrev tl (x : Str) : List Nat := x.cps.toList
theorem ext_tl {x y : Str} (h : tl x = tl y) : x = y := by
  obtain ⟨a⟩ := x
  obtain ⟨b⟩ := y
  have : a = b := by
    apply Array.ext'
    exact h
  rw [this]
theorem tl_app (x y : Str) : tl (x ++ y) = tl x ++ tl y := by
  show (x.cps ++ y.cps).toList = _
  rw [Array.toList_append]
theorem app_assoc (a b c : Str) : a ++ b ++ c = a ++ (b ++ c) := by
  apply ext_tl
  rw [tl_app, tl_app, tl_app, tl_app, List.append_assoc]
theorem emp_app (a : Str) : Str.empty ++ a = a := by
  apply ext_tl
  rw [tl_app]
  rfl
theorem app_emp (a : Str) : a ++ Str.empty = a := by
  apply ext_tl
  rw [tl_app]
  show tl a ++ [] = tl a
  rw [List.append_nil]
theorem len_app (a b : Str) : (a ++ b).length = a.length + b.length := by
  show (a.cps ++ b.cps).size = _
  rw [Array.size_append]
  rfl
theorem len_tl (a : Str) : a.length = (tl a).length := by simp [Str.length]
def sI (n : Int) : Str := Str.ofString (toString n)
theorem emp_eq : ("" : Str) = Str.empty := by decide +kernel
/-- the text of these lines -/
def textOf (L : List Str) : Str := Str.join "" (L.map (fun l : Str => l ++ "\n"))
theorem textOf_cons (l : Str) (L : List Str) : textOf (l :: L) = l ++ "\n" ++ textOf L := by
  unfold textOf
  cases L with
  | nil =>
    show l ++ "\n" = l ++ "\n" ++ Str.join "" []
    rw [show Str.join "" [] = Str.empty from rfl, app_emp]
  | cons m M =>
    show (l ++ "\n") ++ "" ++ Str.join "" ((m :: M).map (fun l : Str => l ++ "\n")) = _
    rw [emp_eq, app_emp]
theorem textOf_parts : ∀ L : List Str, textOf L = Str.join "\n" (L ++ [("" : Str)])
  | [] => emp_eq.symm
  | l :: L => by
    rw [textOf_cons, textOf_parts L]
    cases L with
    | nil => rfl
    | cons m M => rfl
theorem join_snoc (L : List Str) (x : Str) : Str.join "\n" (L ++ [x]) = textOf L ++ x := by
  induction L with
  | nil =>
    show x = Str.empty ++ x
    rw [emp_app]
  | cons l L ih =>
    rw [textOf_cons, app_assoc, ← ih]
    cases L with
    | nil => rfl
    | cons m M => rfl
theorem textOf_len : ∀ (L : List Str) (k : Nat), (∀ l ∈ L, l.length ≤ k) → (textOf L).length ≤ L.length * (k + 1)
  | [], k, _ => Nat.zero_le _
  | l :: L, k, h => by
    rw [textOf_cons, len_app, len_app, List.length_cons, Nat.succ_mul]
    have := h l (List.mem_cons_self ..)
    have := textOf_len L k fun x hx => h x (List.mem_cons_of_mem _ hx)
    have : ("\n" : Str).length = 1 := by decide +kernel
    omega
theorem sI_len : ∀ n : Nat, n < 100 → (sI n).length ≤ 2 := by decide +kernel
theorem sI_len' {n : Int} (h : 0 ≤ n ∧ n ≤ 50) : (sI n).length ≤ 2 := by
  have := sI_len n.toNat (by omega)
  rw [Int.toNat_of_nonneg h.1] at this
  exact this
def headOf (kind : Str) (s : Int) : Str := kind ++ " " ++ sI s
def lineOf (r : Int × Int) (g : Bool) : Str := sI r.1 ++ " " ++ sI r.2 ++ (if g = true then " gone" else "")
def partLine (rs : List (Int × Int)) (ns : List Int) (j : Nat) : Str := lineOf (rs.getD j (0, 0)) (decide ((j : Int) ∈ ns))
/-- the lines of a market -/
def mLines (kind : Str) (s : Int) (rs : List (Int × Int)) (ns : List Int) (i : Nat) : List Str := headOf kind s :: (List.range i).map (partLine rs ns)
theorem mLines_succ (kind : Str) (s : Int) (rs : List (Int × Int)) (ns : List Int) (i : Nat) : mLines kind s rs ns (i + 1) = mLines kind s rs ns i ++ [partLine rs ns i] := by
  unfold mLines
  rw [List.range_succ, List.map_append]
  rfl
theorem inV_ints (n : Int) (ns : List Int) : inV (.int n) (ns.map V.int) = decide (n ∈ ns) := by
  unfold inV
  induction ns with
  | nil => simp
  | cons m ns ih =>
    rw [List.map_cons, List.any_cons, ih]
    show ((m == n) || decide (n ∈ ns)) = _
    by_cases h : n = m
    · simp [h]
    · simp [h, Ne.symm h]
theorem flat_ints (ns : List Int) : (ns.map V.int).all flatV = true := by
  induction ns with
  | nil => rfl
  | cons m ns ih => rw [List.map_cons, List.all_cons, ih]; rfl
theorem log_small {n : Int} (h : 0 ≤ n ∧ n ≤ 50) : n.natAbs.log2 < 1920 := by
  have : n.natAbs ≤ 50 := by omega
  have h2 : n.natAbs.log2 ≤ n.natAbs := Nat.log2_le_self _
  omega

theorem kind_len {K : PySem.W.Frag} {C : Addr} {kind : Str} (h : IsM K C kind) : kind.length ≤ 4 := by
  rcases h with ⟨_, rfl⟩ | ⟨_, rfl⟩
  · decide +kernel
  · decide +kernel
theorem sz1000 {n : Nat} (h : n ≤ 1000) : n ≤ sizeLine := Nat.le_trans h (by decide)
theorem headOf_len {kind : Str} {s : Int} (h : kind.length ≤ 4) (hs : 0 ≤ s ∧ s ≤ 50) : (headOf kind s).length ≤ 10 := by
  unfold headOf
  rw [len_app, len_app]
  have := sI_len' hs
  have : (" " : Str).length = 1 := by decide +kernel
  omega
theorem lineOf_len {r : Int × Int} {g : Bool} (h : Fits 50 r) : (lineOf r g).length ≤ 10 := by
  unfold lineOf
  obtain ⟨h0, h1, h2⟩ := h
  rw [len_app, len_app, len_app]
  have := sI_len' (n := r.1) ⟨h0, by omega⟩
  have := sI_len' (n := r.2) ⟨by omega, h2⟩
  have : (" " : Str).length = 1 := by decide +kernel
  have : (" gone" : Str).length = 5 := by decide +kernel
  have : ("" : Str).length = 0 := by decide +kernel
  cases g <;> simp <;> omega
theorem Fits.mono {s s' : Int} {r : Int × Int} (h : Fits s r) (hs : s ≤ s') : Fits s' r := ⟨h.1, h.2.1, Int.le_trans h.2.2 hs⟩
theorem partLine_len {rs : List (Int × Int)} {ns : List Int} {j : Nat} (h : ∀ r ∈ rs, Fits 50 r) (hj : j < rs.length) : (partLine rs ns j).length ≤ 10 := by
  unfold partLine
  rw [List.getD_eq_getElem?_getD, List.getElem?_eq_getElem hj]
  exact lineOf_len (h _ (List.getElem_mem hj))
theorem mLines_len {kind : Str} {s : Int} {rs : List (Int × Int)} {ns : List Int} (hk : kind.length ≤ 4) (hs : 0 ≤ s ∧ s ≤ 50) (h : ∀ r ∈ rs, Fits 50 r) : ∀ l ∈ mLines kind s rs ns rs.length, l.length ≤ 10 := by
  intro l hl
  unfold mLines at hl
  rcases List.mem_cons.mp hl with rfl | hl
  · exact headOf_len hk hs
  · obtain ⟨j, hj, rfl⟩ := List.mem_map.mp hl
    exact partLine_len h (List.mem_range.mp hj)
theorem sum_len : ∀ (L : List Str) (k : Nat), (∀ l ∈ L, l.length ≤ k) → (L.map (·.length)).sum ≤ L.length * k
  | [], k, _ => Nat.zero_le _
  | l :: L, k, h => by
    rw [List.map_cons, List.sum_cons, List.length_cons, Nat.succ_mul]
    have := h l (List.mem_cons_self ..)
    have := sum_len L k fun x hx => h x (List.mem_cons_of_mem _ hx)
    omega
section
variable {w : World} {K : PySem.W.Frag} {mg : Str → Option Value} {base : Heap}
def spText (K : PySem.W.Frag) : Sp := fun vs H Q _ => ∃ (x : Addr) (kind : Str) (s : Int) (us : List V) (rs : List (Int × Int)) (ns : List Int), vs = [.ref x] ∧ Mkt K H x kind s us rs ns ∧ 0 ≤ s ∧ s ≤ 50 ∧ (∀ r ∈ rs, Fits 50 r) ∧ us.length ≤ 50 ∧
  ∀ H', Ex H H' → Q (.str (textOf (mLines kind s rs ns rs.length))) H'
theorem sc_market_text : FnScope ["market", "lines", "part", "begin", "end", "word"] ["market"] (defScope s_market_text) := ⟨rfl, rfl, rfl, by decide +kernel, rfl, by decide +kernel, by decide +kernel⟩
theorem has_market_text (T : Ctx K mg) : Has w K mg base CX0 "market_text" 1 ["market"] (spText K) := by
  refine has_of (st := s_market_text) (f := He.ga K "market_text") T.d_market_text T.g_market_text (fun _ _ _ _ _ _ us hl => match us, hl with | [_], _ => rfl) fun fd F => ?_
  refine ok0 F sc_market_text (fun vs H Q E h => ?_) (fun cdv A outer s0 H vs Q E hr h => ?_)
  · obtain ⟨x, kind, s, us, rs, ns, rfl, _⟩ := h
    rfl
  · obtain ⟨x, kind, s, us, rs, ns, rfl, M, hs0, hs1, hF, hfew, k⟩ := h
    obtain ⟨C, dx, pr, pg, hM, h1, h2, h3⟩ := M.ob
    obtain ⟨u, hu⟩ := hM.con T
    have hn : (mflds s pr pg).lookup ("KIND" : Str) = none := mf_no _ _ _ (by decide +kernel) (by decide +kernel) (by decide +kernel)
    have nd := sc_market_text.nd
    have hkl := kind_len hM
    have hsl := sI_len' (n := s) ⟨hs0, hs1⟩
    have b1 : (" " : Str).length = 1 := by decide +kernel
    have b2 : ("\n" : Str).length = 1 := by decide +kernel
    have b0 : Str.empty.length = 0 := rfl
    refine ⟨_, pss_cons (ps_set (i := 1) nd rfl (.inl rfl) (pe_lst (pa_cons (pe_joined (.cons (pe_fmt (pe_con (pv 0) rfl)) (.cons pe_str (.cons (pe_fmt (pe_fld (pv 0) rfl)) (.cons pe_str .nil))))) pa_nil)))
      (pss_cons (ps_for PassesOwn.never rfl (pi_enumT (by rfl) T.b_enumerate (pa_cons (pe_fld (pv 0) rfl) pa_nil)) (pg_tup (by rfl) (pgs_cons (pg_name (i := 2) nd rfl (.inl rfl)) (pgs_cons (pg_tup (by rfl) (pgs_cons (pg_name (i := 3) nd rfl (.inl rfl)) (pgs_cons (pg_name (i := 4) nd rfl (.inl rfl)) pgs_nil))) pgs_nil)))
        (pss_cons (ps_set (i := 5) nd rfl (.inl rfl) (pe_ifExp (pt_cmpR op_in_seq (pv 2) (pe_fld (pv 0) rfl) (by rfl)) pe_str pe_str))
        (pss_one (ps_expr (pe_bm PySem.F.plainAttrs_list PySem.F.slot_list_append PySem.F.type_list_append mt_append (pv 1) (pa_cons (pe_joined (.cons (pe_fmt (pv 3)) (.cons pe_str (.cons (pe_fmt (pv 4)) (.cons (pe_fmt (pv 5)) (.cons pe_str .nil)))))) pa_nil))))))
      (pss_one (ps_ret (pe_join pe_str (pv 1))))), ?_⟩
    -- lines = [..]
    refine ⟨_, rfl, x, C, dx, _, _, u, rfl, h1, hM.cl T, hu, hn, .inl ⟨kind, rfl, sz1000 (by omega), _, rfl, ?_, _, rfl, ?_, ?_⟩⟩
    · rw [len_app]; exact sz1000 (by omega)
    · rw [len_app, len_app]; exact sz1000 (by omega)
    refine ⟨_, rfl, x, C, dx, _, _, rfl, h1, hM.cl T, hM.nS T, mf_size _ _ _, .inr ⟨s, rfl, log_small ⟨hs0, hs1⟩, sI s, rfl, ?_, _, rfl, ?_, ?_⟩⟩
    · rw [len_app, len_app, len_app]; exact sz1000 (by omega)
    · rw [len_app, len_app, len_app, len_app]; exact sz1000 (by omega)
    refine ⟨(by show 1 ≤ sizeLine; decide), fun q hq => ?_⟩
    have eh : Str.empty ++ kind ++ " " ++ sI s ++ "\n" = headOf kind s ++ "\n" := by
      unfold headOf
      rw [emp_app]
    have hk0 : ∀ b o, H b = some o → upd H q (.lst [V.str (Str.empty ++ kind ++ " " ++ sI s ++ "\n")]) b = some o := Ex.new hq
    have hlen := M.runs.len
    refine ⟨_, rfl, x, C, dx, _, _, rfl, hk0 _ _ h1, hM.cl T, hM.nR T, mf_runs _ _ _, pr, us, rfl, SqT.of (hk0 _ _ h2), for_it walk_enumT (fun i σ H' => ∃ (v2 v3 v4 v5 : Option V), σ = [some (.ref x), some (.ref q), v2, v3, v4, v5] ∧ Ex H H' ∧ H' q = some (.lst ((mLines kind s rs ns i).map fun l : Str => V.str (l ++ "\n"))))
      ⟨none, none, none, none, rfl, hk0, ?_⟩ (fun i σ H' _ ⟨_, _, _, _, _, e, _⟩ => Ex.tup e h2) ?_ ?_⟩
    · rw [upd_same, eh]
      rfl
    · rintro i v σ H2 H3 hi ⟨v2, v3, v4, v5, rfl, e2, hq2⟩ ⟨t, y1, y2, rfl, ht, rfl, hx1, hy⟩
      cases hx1
      obtain ⟨t2, r, hr', rfl, ht2⟩ := (M.runs.ex e2).get hy
      have hf := hF r (List.mem_of_getElem? hr')
      have hil : i < rs.length := (List.getElem?_eq_some_iff.mp hr').1
      have e3 : Ex H2 (upd H2 t (.tup [V.int (i : Nat), .ref t2])) := Ex.new ht
      have ep := e2.trans e3
      refine ⟨t, _, rfl, SqT.of upd_same, rfl, _, _, rfl, _, _, rfl, t2, _, rfl, SqT.of (e3 _ _ ht2), rfl, _, _, rfl, _, _, rfl, rfl, rfl, ?_⟩
      refine ⟨_, rfl, _, rfl, x, C, dx, _, _, rfl, ep _ _ h1, hM.cl T, hM.nG T, mf_gone _ _ _, pg, _, rfl, .inr (Ex.tup ep h3), rfl, flat_ints _, _, rfl, ?_⟩
      rw [inV_ints]
      cases hg : decide ((i : Int) ∈ ns) with
      | false =>
        refine iteF ?_
        have hq3 := e3 _ _ hq2
        have l1 := sI_len' (n := r.1) ⟨hf.1, by have := hf.2.1; have := hf.2.2; omega⟩
        have l2 := sI_len' (n := r.2) ⟨by have := hf.1; have := hf.2.1; omega, hf.2.2⟩
        have lw : (("" : Str) : Str).length ≤ 5 := by decide +kernel
        have epl : Str.empty ++ sI r.1 ++ " " ++ sI r.2 ++ ("" : Str) ++ "\n" = partLine rs ns i ++ "\n" := by
          unfold partLine lineOf
          rw [List.getD_eq_getElem?_getD, hr', hg, emp_app]
          rfl
        refine ⟨_, rfl, .inl ⟨rfl, _, SqL.of hq3⟩, _, rfl, .inr ⟨r.1, rfl, log_small ⟨hf.1, by have := hf.2.1; have := hf.2.2; omega⟩, sI r.1, rfl, ?_, _, rfl, ?_, _, rfl, .inr ⟨r.2, rfl, log_small ⟨by have := hf.1; have := hf.2.1; omega, hf.2.2⟩, sI r.2, rfl, ?_, _, rfl, .inl ⟨("" : Str), rfl, sz1000 (by omega), _, rfl, ?_, _, rfl, ?_, q, _, _, rfl, rfl, hq3, ?_, ?_⟩⟩⟩⟩
        · rw [len_app]; exact sz1000 (by omega)
        · rw [len_app, len_app]; exact sz1000 (by omega)
        · rw [len_app, len_app, len_app]; exact sz1000 (by omega)
        · rw [len_app, len_app, len_app, len_app]; exact sz1000 (by omega)
        · rw [len_app, len_app, len_app, len_app, len_app]; exact sz1000 (by omega)
        · rw [List.length_map]
          unfold mLines
          rw [List.length_cons, List.length_map, List.length_range]
          exact small1000 (by omega)
        · refine ⟨_, _, _, _, rfl, Evl.Ex.mut ep hq, ?_⟩
          rw [upd_same, mLines_succ, List.map_append, epl]
          rfl
      | true =>
        refine iteT ?_
        have hq3 := e3 _ _ hq2
        have l1 := sI_len' (n := r.1) ⟨hf.1, by have := hf.2.1; have := hf.2.2; omega⟩
        have l2 := sI_len' (n := r.2) ⟨by have := hf.1; have := hf.2.1; omega, hf.2.2⟩
        have lw : ((" gone" : Str) : Str).length ≤ 5 := by decide +kernel
        have epl : Str.empty ++ sI r.1 ++ " " ++ sI r.2 ++ (" gone" : Str) ++ "\n" = partLine rs ns i ++ "\n" := by
          unfold partLine lineOf
          rw [List.getD_eq_getElem?_getD, hr', hg, emp_app]
          rfl
        refine ⟨_, rfl, .inl ⟨rfl, _, SqL.of hq3⟩, _, rfl, .inr ⟨r.1, rfl, log_small ⟨hf.1, by have := hf.2.1; have := hf.2.2; omega⟩, sI r.1, rfl, ?_, _, rfl, ?_, _, rfl, .inr ⟨r.2, rfl, log_small ⟨by have := hf.1; have := hf.2.1; omega, hf.2.2⟩, sI r.2, rfl, ?_, _, rfl, .inl ⟨(" gone" : Str), rfl, sz1000 (by omega), _, rfl, ?_, _, rfl, ?_, q, _, _, rfl, rfl, hq3, ?_, ?_⟩⟩⟩⟩
        · rw [len_app]; exact sz1000 (by omega)
        · rw [len_app, len_app]; exact sz1000 (by omega)
        · rw [len_app, len_app, len_app]; exact sz1000 (by omega)
        · rw [len_app, len_app, len_app, len_app]; exact sz1000 (by omega)
        · rw [len_app, len_app, len_app, len_app, len_app]; exact sz1000 (by omega)
        · rw [List.length_map]
          unfold mLines
          rw [List.length_cons, List.length_map, List.length_range]
          exact small1000 (by omega)
        · refine ⟨_, _, _, _, rfl, Evl.Ex.mut ep hq, ?_⟩
          rw [upd_same, mLines_succ, List.map_append, epl]
          rfl
    · rintro σ H2 ⟨v2, v3, v4, v5, rfl, e2, hq2⟩
      rw [hlen] at hq2
      have hmap : (mLines kind s rs ns rs.length).map (fun l : Str => V.str (l ++ "\n")) = ((mLines kind s rs ns rs.length).map (fun l : Str => l ++ "\n")).map V.str := by rw [List.map_map]; rfl
      rw [hmap] at hq2
      have hml := mLines_len (ns := ns) hkl ⟨hs0, hs1⟩ hF
      have hll : (mLines kind s rs ns rs.length).length ≤ 51 := by
        unfold mLines
        rw [List.length_cons, List.length_map, List.length_range]
        omega
      refine ⟨⟨_, rfl⟩, _, rfl, _, q, _, rfl, rfl, .inl (SqL.of hq2), ?_, ?_⟩
      · have := sum_len ((mLines kind s rs ns rs.length).map (fun l : Str => l ++ "\n")) 11 (fun l hl => by
          obtain ⟨m, hm, rfl⟩ := List.mem_map.mp hl
          rw [len_app]
          have := hml m hm
          omega)
        rw [List.length_map] at this ⊢
        have b3 : ("" : Str).length = 0 := by decide +kernel
        rw [b3]
        omega
      · rw [TL.join_eq]
        exact k _ e2
end
end K01


set_option Elab.async false
set_option linter.all false
set_option maxRecDepth 100000
set_option maxHeartbeats 4000000
namespace K01
open PySem PySem.Spec PyProof.Rows L2
open Evl (Ex)
abbrev Part : Type := (Int × Int) × Bool
/-- the first of the lines behind the row's are these parts -/
def Mids (s : Int) (mids : List Str) (xs : List Part) : Prop := ∀ (i : Nat) (x : Part), xs[i]? = some x → ∃ m, mids[i]? = some m ∧ partW s m = some (some x)
/-- what the pieces of a text tell: a wrong line, or a market -/
inductive Out : List Str → Sum Int (Str × Int × List Part) → Prop where
  | one (x : Str) : Out [x] (.inl 1)
  | row (l0 last : Str) (mids : List Str) : rowW l0 = some none → Out (l0 :: (mids ++ [last])) (.inl 1)
  | part (l0 last : Str) (mids : List Str) (k : Str) (s : Int) (xs : List Part) (m : Str) : rowW l0 = some (some (k, s)) → Mids s mids xs → mids[xs.length]? = some m → partW s m = some none → Out (l0 :: (mids ++ [last])) (.inl ((xs.length : Int) + 2))
  | last (l0 last : Str) (mids : List Str) (k : Str) (s : Int) (xs : List Part) : rowW l0 = some (some (k, s)) → Mids s mids xs → xs.length = mids.length → last ≠ "" → Out (l0 :: (mids ++ [last])) (.inl ((mids.length : Int) + 2))
  | ok (l0 : Str) (mids : List Str) (k : Str) (s : Int) (xs : List Part) : rowW l0 = some (some (k, s)) → Mids s mids xs → xs.length = mids.length → Out (l0 :: (mids ++ [("" : Str)])) (.inr (k, s, xs))
/-- the numbers of the gone ones among the first i -/
def gones (xs : List Part) (i : Nat) : List Int := ((List.range i).filter (fun j => (xs.getD j ((0, 0), false)).2)).map (fun j : Nat => (j : Int))
theorem gones_succ {xs : List Part} {i : Nat} {x : Part} (h : xs[i]? = some x) : gones xs (i + 1) = if x.2 = true then gones xs i ++ [(i : Int)] else gones xs i := by
  unfold gones
  rw [List.range_succ, List.filter_append, List.map_append]
  have e : xs.getD i ((0, 0), false) = x := by
    rw [List.getD_eq_getElem?_getD, h]
    rfl
  cases c : x.2 with
  | true =>
    rw [if_pos rfl]
    simp [h, c]
  | false =>
    rw [if_neg (by simp)]
    simp [h, c]
theorem gones_mem {xs : List Part} {i : Nat} {n : Int} (h : n ∈ gones xs i) : 0 ≤ n ∧ n < i := by
  obtain ⟨j, hj, rfl⟩ := List.mem_map.mp h
  have := List.mem_range.mp (List.mem_filter.mp hj).1
  omega
theorem gones_asc (xs : List Part) : ∀ i, (gones xs i).Pairwise (· < ·)
  | 0 => by simp [gones]
  | i + 1 => by
    have ih := gones_asc xs i
    by_cases hx : ∃ x, xs[i]? = some x
    · obtain ⟨x, hx⟩ := hx
      rw [gones_succ hx]
      split
      · rw [List.pairwise_append]
        refine ⟨ih, List.pairwise_singleton _ _, fun a ha b hb => ?_⟩
        have := gones_mem ha
        have : b = i := by simpa using hb
        omega
      · exact ih
    · have hn : xs[i]? = none := by
        cases c : xs[i]? with
        | none => rfl
        | some x => exact absurd ⟨x, c⟩ hx
      have e : gones xs (i + 1) = gones xs i := by
        unfold gones
        rw [List.range_succ, List.filter_append, List.map_append]
        have : xs.getD i ((0, 0), false) = ((0, 0), false) := by
          rw [List.getD_eq_getElem?_getD, hn]
          rfl
        simp [hn]
      rw [e]
      exact ih
theorem row_in {l k : Str} {s : Int} (h : rowW l = some (some (k, s))) : inKinds k = true ∧ 1 ≤ s ∧ s ≤ 30 := by
  unfold rowW at h
  split at h
  · split at h
    · rename_i hk
      split at h
      · cases h
      · cases h
      · split at h
        · rename_i hs
          cases h
          exact ⟨hk, hs⟩
        · cases h
    · cases h
  · cases h
theorem two_in {s : Int} {a b : Str} {g : Bool} {x : Part} (h : twoW s a b g = some (some x)) : Fits s x.1 := by
  obtain ⟨ra, rb, _, _, e⟩ := twoW_inv h
  cases ra with
  | none => cases e
  | some u =>
    cases rb with
    | none => cases e
    | some v =>
      have e' : some x = if 0 ≤ u ∧ u < v ∧ v ≤ s then some ((u, v), g) else none := e
      by_cases c : 0 ≤ u ∧ u < v ∧ v ≤ s
      · rw [if_pos c] at e'
        cases e'
        exact c
      · rw [if_neg c] at e'
        cases e'
theorem part_in {s : Int} {l : Str} {x : Part} (h : partW s l = some (some x)) : Fits s x.1 := by
  unfold partW at h
  split at h
  · exact two_in h
  · split at h
    · exact two_in h
    · cases h
  · cases h
theorem split_len {l x : Str} (h : x ∈ Txt.split l " ") : x.length ≤ l.length := by
  have := StrLaws.join_split l " "
  have h2 := join_mem_le " " _ _ h
  rw [this] at h2
  exact h2
end K01


set_option Elab.async false
set_option linter.all false
set_option maxRecDepth 100000
set_option maxHeartbeats 4000000
namespace K01
open PySem PySem.Spec PyProof.Rows L2
open Evl (Ex)
theorem cutV_mid (a b : V) (xs : List V) : cutV (a :: (xs ++ [b])) (some 1) (some (-1)) = xs := by
  unfold cutV HT.sIx
  simp
  have e : (-1 + ((xs.length : Int) + 1 + 1)).toNat - 1 = xs.length := by omega
  rw [e]
  simp
theorem Runs.snoc {H : Hp} {us : List V} {rs : List (Int × Int)} {t : Addr} {r : Int × Int} (h : Runs H us rs) (ht : H t = some (.tup [.int r.1, .int r.2])) : Runs H (us ++ [.ref t]) (rs ++ [r]) := by
  refine ⟨by simp [h.len], fun i q hq => ?_⟩
  by_cases c : i < rs.length
  · rw [List.getElem?_append_left c] at hq
    obtain ⟨t', a, b⟩ := h.at_ i q hq
    exact ⟨t', by rw [List.getElem?_append_left (by rw [h.len]; exact c)]; exact a, b⟩
  · have e : i = rs.length := by
      have := (List.getElem?_eq_some_iff.mp hq).1
      simp at this
      omega
    subst e
    rw [List.getElem?_concat_length] at hq
    cases hq
    exact ⟨t, by rw [← h.len, List.getElem?_concat_length], ht⟩
theorem Runs.nil {H : Hp} : Runs H [] [] := ⟨rfl, fun i r h => by simp at h⟩
/-- a wrong or a whole text, by its pieces -/
theorem Out.cases' {ws : List Str} {o : Sum Int (Str × Int × List Part)} (h : Out ws o) : ((∃ x, ws = [x]) ∧ o = .inl 1) ∨ ∃ (l0 last : Str) (mids : List Str), ws = l0 :: (mids ++ [last]) ∧ ((rowW l0 = some none ∧ o = .inl 1) ∨ ∃ k s xs, rowW l0 = some (some (k, s)) ∧ Mids s mids xs ∧
    ((∃ m, mids[xs.length]? = some m ∧ partW s m = some none ∧ o = .inl ((xs.length : Int) + 2)) ∨ (xs.length = mids.length ∧ ((last ≠ "" ∧ o = .inl ((mids.length : Int) + 2)) ∨ (last = "" ∧ o = .inr (k, s, xs)))))) := by
  cases h with
  | one x => exact .inl ⟨⟨x, rfl⟩, rfl⟩
  | row l0 last mids h => exact .inr ⟨l0, last, mids, rfl, .inl ⟨h, rfl⟩⟩
  | part l0 last mids k s xs m h1 h2 h3 h4 => exact .inr ⟨l0, last, mids, rfl, .inr ⟨k, s, xs, h1, h2, .inl ⟨m, h3, h4, rfl⟩⟩⟩
  | last l0 last mids k s xs h1 h2 h3 h4 => exact .inr ⟨l0, last, mids, rfl, .inr ⟨k, s, xs, h1, h2, .inr ⟨h3, .inl ⟨h4, rfl⟩⟩⟩⟩
  | ok l0 mids k s xs h1 h2 h3 => exact .inr ⟨l0, "", mids, rfl, .inr ⟨k, s, xs, h1, h2, .inr ⟨h3, .inr ⟨rfl, rfl⟩⟩⟩⟩
def bodies (xs : List Part) : List (Int × Int) := xs.map (·.1)
section
variable {w : World} {K : PySem.W.Frag} {mg : Str → Option Value} {base : Heap}
/-- none of these is a text -/
def NoText (H : Hp) : V → Prop
  | .non => True
  | .int _ => True
  | .ref a => ∃ xs, H a = some (.lst xs)
  | _ => False
def spFrom (K : PySem.W.Frag) : Sp := fun vs H Q E =>
  (∃ v, vs = [v] ∧ NoText H v ∧ Bad K H E 0) ∨
  ∃ (x : Str) (o : Sum Int (Str × Int × List Part)), vs = [.str x] ∧ x.length ≤ 1000 ∧ (Txt.split x "\n").length ≤ 50 ∧ (∀ l ∈ Txt.split x "\n", l.length ≤ 100) ∧ Out (Txt.split x "\n") o ∧
    (∀ n, o = .inl n → Bad K H E n) ∧ ∀ k s xs, o = .inr (k, s, xs) → ∀ H' y us, Ex H H' → H y = none → Mkt K H' y k s us (bodies xs) (gones xs xs.length) → Q (.ref y) H'
theorem sc_market_from : FnScope ["text", "lines", "kind", "size", "runs", "gone", "part", "line", "run", "is_gone"] ["text"] (defScope s_market_from) := ⟨rfl, rfl, rfl, by decide +kernel, rfl, by decide +kernel, by decide +kernel⟩
theorem Bad.ex {H H1 : Hp} {E : XK} {n : Int} (h : Bad K H E n) (e : Ex H H1) : Bad K H1 E n := fun H' d e' hd hq => h H' d (e.trans e') (Evl.fresh_back e hd) hq
theorem has_market_from (T : Ctx K mg) : Has w K mg base (L2.CX PP w) "market_from" 8 ["text"] (spFrom K) := by
  obtain ⟨f1, fd1, m1, kp1, F1, b1⟩ := has_row_line (w := w) (base := base) T
  obtain ⟨f2, fd2, m2, kp2, F2, b2⟩ := has_part_line (w := w) (base := base) T
  obtain ⟨fj, Fj, bj⟩ := ok_Join_init (w := w) (base := base) T
  obtain ⟨fl, Fl, bl⟩ := ok_Lap_init (w := w) (base := base) T
  refine has_of (st := s_market_from) (f := He.ga K "market_from") T.d_market_from T.g_market_from (fun _ _ _ _ _ _ us hl => match us, hl with | [_], _ => rfl) fun fd F => ?_
  refine okX F sc_market_from (fun vs H Q E h => ?_) (fun cdv A outer s0 H vs Q E hr h => ?_)
  · rcases h with ⟨v, rfl, _⟩ | ⟨x, o, rfl, _⟩
    · rfl
    · rfl
  · have nd := sc_market_from.nd
    have hr3 := hr.mono (show 3 ≤ 7 by decide)
    have hr4 := hr.mono (show 4 ≤ 7 by decide)
    have hr6 := hr.mono (show 6 + 1 ≤ 7 by decide)
    refine ⟨_, pss_cons (ps_if (pt_not (pt_val (pe_callB call_isi (by rfl) T.b_isinstance (by decide +kernel) (pa_cons (pv 0) (pa_cons (pe_bltn (by rfl) T.b_str (by decide +kernel) (v := .ty "str") rfl) pa_nil)))))
        (pss_one (ps_raiseBadText (W := fun cls d _ H => E cls d H) rfl T.bt hr (takes_of rfl rfl rfl rfl) (pa_cons pe_int pa_nil))) pss_nil)
      (pss_cons (ps_set (i := 1) nd rfl (.inl rfl) (pe_split (pv 0) pe_str))
      (pss_cons (ps_if (pt_cmpR op_eq (pe_callB call_len_seq (by rfl) T.b_len PySem.boot_len (pa_cons (pv 1) pa_nil)) pe_int (nomark _))
        (pss_one (ps_raiseBadText (W := fun cls d _ H => E cls d H) rfl T.bt hr (takes_of rfl rfl rfl rfl) (pa_cons pe_int pa_nil))) pss_nil)
      (pss_cons (ps_asg (pe_call F1 hr3 (by rfl) m1 kp1 b1 .nil (E := E) (passes_call (E := E) (takes_of rfl rfl rfl rfl) (fun _ _ _ _ h => h)) (pa_cons (pe_ix ix_list (pv 1) pe_int (fun _ _ => rfl)) pa_nil)) (pg_tup (by rfl) (pgs_cons (pg_name (i := 2) nd rfl (.inl rfl)) (pgs_cons (pg_name (i := 3) nd rfl (.inl rfl)) pgs_nil))))
      (pss_cons (ps_set (i := 4) nd rfl (.inl rfl) (pe_lst pa_nil))
      (pss_cons (ps_set (i := 5) nd rfl (.inl rfl) (pe_lst pa_nil))
      (pss_cons (ps_for (passes_of rfl) rfl (pi_enum (by rfl) T.b_enumerate (pa_cons (pe_slice sl_list (pv 1) (po_some pe_int) (po_some (pe_un un_neg pe_int))) pa_nil)) (pg_tup (by rfl) (pgs_cons (pg_name (i := 6) nd rfl (.inl rfl)) (pgs_cons (pg_name (i := 7) nd rfl (.inl rfl)) pgs_nil)))
        (pss_cons (ps_asg (pe_call F2 hr4 (by rfl) m2 kp2 b2 .nil (E := E) (passes_call (E := E) (takes_of rfl rfl rfl rfl) (fun _ _ _ _ h => h)) (pa_cons (pv 3) (pa_cons (pv 6) (pa_cons (pv 7) pa_nil)))) (pg_tup (by rfl) (pgs_cons (pg_name (i := 8) nd rfl (.inl rfl)) (pgs_cons (pg_name (i := 9) nd rfl (.inl rfl)) pgs_nil))))
        (pss_cons (ps_expr (pe_bm PySem.F.plainAttrs_list PySem.F.slot_list_append PySem.F.type_list_append mt_append (pv 4) (pa_cons (pv 8) pa_nil)))
        (pss_one (ps_if (pt_val (pv 9)) (pss_one (ps_expr (pe_bm PySem.F.plainAttrs_list PySem.F.slot_list_append PySem.F.type_list_append mt_append (pv 5) (pa_cons (pv 6) pa_nil)))) pss_nil)))))
      (pss_cons (ps_if (pt_cmpR op_ne (pe_ix ix_list (pv 1) (pe_un un_neg pe_int) (fun _ _ => rfl)) pe_str (nomark _))
        (pss_one (ps_raiseBadText (W := fun cls d _ H => E cls d H) rfl T.bt hr (takes_of rfl rfl rfl rfl) (pa_cons (pe_callB call_len_seq (by rfl) T.b_len PySem.boot_len (pa_cons (pv 1) pa_nil)) pa_nil))) pss_nil)
      (pss_cons (ps_if (pt_cmpR op_eq (pv 2) pe_str (nomark _)) (pss_one (ps_ret (pe_makeK T.mk_Join Fj hr6 (by rfl) T.g_Join bj pass0 (pa_cons (pv 3) (pa_cons (pv 4) pa_nil)) (pk_cons (pv 5) pk_nil)))) pss_nil)
      (pss_one (ps_ret (pe_makeK T.mk_Lap Fl hr6 (by rfl) T.g_Lap bl pass0 (pa_cons (pv 3) (pa_cons (pv 4) pa_nil)) (pk_cons (pv 5) pk_nil)))))))))))), ?_⟩
    rcases h with ⟨v, rfl, hv, hB⟩ | ⟨x, o, rfl, hx, hfew, hll, hO, hB, k⟩
    · suffices go : ∃ t, TyX K H v (.type t) ∧ kitB t "str" = some false by
        obtain ⟨t, h1, h2⟩ := go
        exact ⟨_, rfl, _, _, _, _, false, rfl, .ty "str", h1, kit_ty h2, false, rfl, iteT ⟨_, rfl, fun d hd => hB.go (Ex.refl _) hd⟩⟩
      cases v with
      | non => exact ⟨"NoneType", .base .non, by decide +kernel⟩
      | int n => exact ⟨"int", .base (.int n), by decide +kernel⟩
      | ref a =>
        obtain ⟨xs, e⟩ := hv
        exact ⟨"list", .base (.lst e), by decide +kernel⟩
      | _ => exact hv.elim
    · refine ⟨_, rfl, _, _, _, _, true, rfl, .ty "str", .base (.str x), kit_ty (by decide +kernel : kitB "str" "str" = some true), true, rfl, iteF ?_⟩
      refine ⟨_, rfl, ⟨_, rfl⟩, x, "\n", rfl, rfl, by decide +kernel, Nat.le_trans (by omega) (show 2000 ≤ sizeLine by decide), fun p hp => ?_⟩
      have e1 : Ex H (upd H p (.lst ((Txt.split x "\n").map V.str))) := Ex.new hp
      have hO' := hO.cases'
      clear hO
      generalize Txt.split x "\n" = ws at *
      have hp1 : upd H p (.lst (ws.map V.str)) p = some (.lst (ws.map V.str)) := upd_same
      generalize upd H p (.lst (ws.map V.str)) = H1 at *
      refine ⟨_, rfl, p, _, rfl, .inl (SqL.of hp1), rfl, _, rfl, ?_⟩
      rcases hO' with ⟨⟨x1, rfl⟩, rfl⟩ | ⟨l0, last, mids, rfl, hO'⟩
      · exact iteT ⟨_, rfl, fun d hd => (hB _ rfl).go e1 hd⟩
      rw [decide_eq_false (show ¬ (V.int (((l0 :: (mids ++ [last])).map V.str).length : Int) = V.int 1) from fun z => by
        have : (((l0 :: (mids ++ [last])).map V.str).length : Int) = 1 := by injection z
        simp at this
        omega)]
      refine iteF ?_
      have hmap : (l0 :: (mids ++ [last])).map V.str = V.str l0 :: (mids.map V.str ++ [V.str last]) := by simp
      rw [hmap] at hp1
      have hl0 : l0.length ≤ 100 := hll _ (by simp)
      have hl0' : ∀ z ∈ Txt.split l0 " ", z.length ≤ 300 := fun z hz => Nat.le_trans (split_len hz) (by omega)
      have ha0 : atI (V.str l0 :: (mids.map V.str ++ [V.str last])) 0 = some (V.str l0) := atI_nat (j := 0) rfl
      rcases hO' with ⟨hrow, rfl⟩ | ⟨kd, s, xs, hrow, hM, hO'⟩
      · exact ⟨_, rfl, p, _, 0, _, rfl, rfl, SqL.of hp1, ha0, l0, none, rfl, hrow, hl0, hl0', fun _ => (hB _ rfl).ex e1, fun _ _ z => by cases z⟩
      refine ⟨_, rfl, p, _, 0, _, rfl, rfl, SqL.of hp1, ha0, l0, some (kd, s), rfl, hrow, hl0, hl0', (fun z => by cases z), fun kd' s' z H2 t e2 ht ht2 => ?_⟩
      cases z
      refine ⟨t, _, rfl, SqT.of ht2, rfl, _, _, rfl, _, _, rfl, rfl, ?_⟩
      have e12 := e1.trans e2
      have hp2 := e2 _ _ hp1
      obtain ⟨hkd, hs1, hs30⟩ := row_in hrow
      refine ⟨(by show 0 ≤ sizeLine; decide), fun a ha => ?_⟩
      refine ⟨(by show 0 ≤ sizeLine; decide), fun g hg => ?_⟩
      have hga : g ≠ a := fun z => by rw [z, upd_same] at hg; cases hg
      have hg0 : H2 g = none := Evl.fresh_back (Ex.new ha) hg
      have ea : Ex H2 (upd (upd H2 a (.lst [])) g (.lst [])) := (Ex.new ha).trans (Ex.new hg)
      have ha3 : upd (upd H2 a (.lst [])) g (.lst []) a = some (.lst []) := by rw [upd_ne (Ne.symm hga), upd_same]
      have hg3 : upd (upd H2 a (.lst [])) g (.lst []) g = some (.lst []) := upd_same
      generalize upd (upd H2 a (.lst [])) g (.lst []) = H3 at *
      refine ⟨_, rfl, _, rfl, _, rfl, _, rfl, p, _, rfl, SqL.of (ea _ _ hp2), fun q hq => ?_⟩
      rw [cutV_mid]
      have hqa : q ≠ a := fun z => by rw [z, ha3] at hq; cases hq
      have hqg : q ≠ g := fun z => by rw [z, hg3] at hq; cases hq
      have hq3 : upd H3 q (.lst (mids.map V.str)) q = some (.lst (mids.map V.str)) := upd_same
      have e23 : Ex H2 (upd H3 q (.lst (mids.map V.str))) := ea.trans (Ex.new hq)
      have ha4 := (Ex.new (o := .lst (mids.map V.str)) hq) _ _ ha3
      have hg4 := (Ex.new (o := .lst (mids.map V.str)) hq) _ _ hg3
      generalize upd H3 q (.lst (mids.map V.str)) = H4 at *
      have hlm : (mids.map V.str).length = mids.length := List.length_map ..
      refine ⟨q, _, rfl, SqL.of hq3, for_it walk_enum (fun i σ H' => ∃ (v6 v7 v8 v9 : Option V) (us : List V), σ = [some (.str x), some (.ref p), some (.str kd), some (.int s), some (.ref a), some (.ref g), v6, v7, v8, v9] ∧ Ex H2 H' ∧ i ≤ xs.length ∧ H' q = some (.lst (mids.map V.str)) ∧ H' a = some (.lst us) ∧ Runs H' us ((bodies xs).take i) ∧ H' g = some (.lst ((gones xs i).map V.int)))
        ⟨none, none, none, none, [], rfl, e23, Nat.zero_le _, hq3, ha4, Runs.nil, hg4⟩ (fun i σ H' _ ⟨_, _, _, _, _, _, _, _, hq', _⟩ => SqL.of hq') ?_ ?_⟩
      · rintro i v σ H5 H6 hi ⟨v6, v7, v8, v9, us, rfl, e5, hix, hq5, ha5, hR5, hg5⟩ ⟨t6, y1, y2, rfl, ht6, rfl, hx1, hy⟩
        have hy' : (mids.map V.str)[i]? = some y2 := hy
        rw [List.getElem?_map] at hy'
        obtain ⟨m, hm, rfl⟩ : ∃ m, mids[i]? = some m ∧ y2 = V.str m := by
          cases c : mids[i]? with
          | none => rw [c] at hy'; cases hy'
          | some m => rw [c] at hy'; cases hy'; exact ⟨m, rfl, rfl⟩
        cases hx1
        have hml : m ∈ l0 :: (mids ++ [last]) := List.mem_cons_of_mem _ (List.mem_append_left _ (List.mem_of_getElem? hm))
        have hm0 : m.length ≤ 100 := hll _ hml
        have hm0' : ∀ z ∈ Txt.split m " ", z.length ≤ 300 := fun z hz => Nat.le_trans (split_len hz) (by omega)
        have hil : i < mids.length := (List.getElem?_eq_some_iff.mp hm).1
        have hcase : (∃ x, xs[i]? = some x ∧ partW s m = some (some x)) ∨ (partW s m = some none ∧ o = .inl ((i : Int) + 2)) := by
          by_cases c : i < xs.length
          · obtain ⟨m', hm', hp'⟩ := hM i _ (List.getElem?_eq_getElem c)
            rw [hm] at hm'
            cases hm'
            exact .inl ⟨_, List.getElem?_eq_getElem c, hp'⟩
          · have ei : i = xs.length := by omega
            rcases hO' with ⟨m', hm', hp', ho⟩ | ⟨hl, _⟩
            · rw [← ei, hm] at hm'
              cases hm'
              rw [← ei] at ho
              exact .inr ⟨hp', ho⟩
            · omega
        have e56 : Ex H5 (upd H5 t6 (.tup [V.int (i : Nat), V.str m])) := Ex.new ht6
        have ht6' : upd H5 t6 (.tup [V.int (i : Nat), V.str m]) t6 = some (.tup [V.int (i : Nat), V.str m]) := upd_same
        have hq6 := e56 _ _ hq5
        have ha6 := e56 _ _ ha5
        have hg6 := e56 _ _ hg5
        have hR6 := hR5.ex e56
        have e26 := e5.trans e56
        generalize upd H5 t6 (.tup [V.int (i : Nat), V.str m]) = H6 at *
        refine ⟨t6, _, rfl, SqT.of ht6', rfl, _, _, rfl, _, _, rfl, rfl, ?_⟩
        rcases hcase with ⟨⟨r, gn⟩, hxi, hpw⟩ | ⟨hpw, ho⟩
        rotate_left
        · exact ⟨_, rfl, _, rfl, _, rfl, s, i, m, none, rfl, hpw, hm0, hm0', fun _ => (hB _ ho).ex (e12.trans e26), fun _ _ _ z => by cases z⟩
        refine ⟨_, rfl, _, rfl, _, rfl, s, i, m, some (r, gn), rfl, hpw, hm0, hm0', (fun z => by cases z), fun x7 y7 g7 z H7 p7 t7 e7 hp7 ht7 hp7' ht7' => ?_⟩
        cases z
        refine ⟨p7, _, rfl, SqT.of hp7', rfl, _, _, rfl, _, _, rfl, rfl, ?_⟩
        have ha7 := e7 _ _ ha6
        have hg7 := e7 _ _ hg6
        have hq7 := e7 _ _ hq6
        have e27 := e26.trans e7
        have hR7 := hR6.ex e7
        have hul : us.length = i := by
          rw [hR5.len, List.length_take]
          unfold bodies
          rw [List.length_map]
          have := (List.getElem?_eq_some_iff.mp hxi).1
          omega
        simp at hfew
        refine ⟨_, rfl, .inl ⟨rfl, _, SqL.of ha7⟩, _, rfl, a, _, _, rfl, rfl, ha7, small1000 (by omega), ?_⟩
        have hta : t7 ≠ a := ne_of ht7' ha7 (by intro z; cases z)
        have hR8 : Runs (upd H7 a (.lst (us ++ [.ref t7]))) (us ++ [.ref t7]) ((bodies xs).take i ++ [(x7, y7)]) := Runs.snoc (hR7.mono fun t ys e => by rw [upd_ne (ne_of e ha7 (by intro z; cases z))]; exact e) (by rw [upd_ne hta]; exact ht7')
        have etk : (bodies xs).take (i + 1) = (bodies xs).take i ++ [(x7, y7)] := by
          rw [List.take_add_one]
          unfold bodies
          rw [List.getElem?_map, hxi]
          rfl
        have e28 : Ex H2 (upd H7 a (.lst (us ++ [.ref t7]))) := Evl.Ex.mut e27 ha
        have hg8 : upd H7 a (.lst (us ++ [.ref t7])) g = some (.lst ((gones xs i).map V.int)) := by rw [upd_ne hga]; exact hg7
        have hq8 : upd H7 a (.lst (us ++ [.ref t7])) q = some (.lst (mids.map V.str)) := by rw [upd_ne hqa]; exact hq7
        have ha8 : upd H7 a (.lst (us ++ [.ref t7])) a = some (.lst (us ++ [.ref t7])) := upd_same
        generalize upd H7 a (.lst (us ++ [.ref t7])) = H8 at *
        have hix' : i + 1 ≤ xs.length := (List.getElem?_eq_some_iff.mp hxi).1
        cases gn with
        | false =>
          refine ⟨_, rfl, _, rfl, iteF ?_⟩
          exact ⟨_, _, _, _, _, rfl, e28, hix', hq8, ha8, by rw [etk]; exact hR8, by rw [gones_succ hxi]; exact hg8⟩
        | true =>
          refine ⟨_, rfl, _, rfl, iteT ?_⟩
          refine ⟨_, rfl, .inl ⟨rfl, _, SqL.of hg8⟩, _, rfl, g, _, _, rfl, rfl, hg8, ?_, ?_⟩
          · rw [List.length_map]
            have := asc_few (gones_asc xs i) (fun n hn => gones_mem hn) (by omega)
            exact small1000 (by omega)
          · refine ⟨_, _, _, _, _, rfl, Evl.Ex.mut e28 hg0, hix', by rw [upd_ne hqg]; exact hq8, by rw [upd_ne (Ne.symm hga)]; exact ha8, ?_, ?_⟩
            · rw [etk]
              exact hR8.mono fun t ys e => by rw [upd_ne (ne_of e hg8 (by intro z; cases z))]; exact e
            · rw [upd_same, gones_succ hxi]
              simp
      · rintro σ H5 ⟨v6, v7, v8, v9, us, rfl, e5, hix, hq5, ha5, hR5, hg5⟩
        rw [hlm] at hix hR5 hg5
        rcases hO' with ⟨m', hm', _⟩ | ⟨hl, hO'⟩
        · have := (List.getElem?_eq_some_iff.mp hm').1
          omega
        rw [← hl] at hR5 hg5
        have etk : (bodies xs).take xs.length = bodies xs := by
          rw [List.take_of_length_le]
          unfold bodies
          rw [List.length_map]
          exact Nat.le_refl _
        rw [etk] at hR5
        have hp5 := e5 _ _ hp2
        have e15 := e12.trans e5
        have hlast : atI (V.str l0 :: (mids.map V.str ++ [V.str last])) (-1) = some (V.str last) := atI_last (V.str l0 :: mids.map V.str) (V.str last)
        refine ⟨_, rfl, _, rfl, p, _, -1, _, rfl, rfl, SqL.of hp5, hlast, rfl, _, rfl, ?_⟩
        rcases hO' with ⟨hne, ho⟩ | ⟨rfl, ho⟩
        · rw [decide_eq_false (show ¬ (V.str last = V.str "") from fun z => hne (by cases z; rfl))]
          refine iteT ⟨_, rfl, p, _, rfl, .inl (SqL.of hp5), _, rfl, fun d hd => ?_⟩
          have el : ((V.str l0 :: (mids.map V.str ++ [V.str last])).length : Int) = (mids.length : Int) + 2 := by simp; omega
          rw [el]
          exact (hB _ ho).go e15 hd
        · refine iteF ?_
          have hlen := hR5.len
          have hbl : (bodies xs).length = xs.length := by unfold bodies; rw [List.length_map]
          simp at hfew
          have A0 : MArg H5 s a g us (bodies xs) (gones xs xs.length) := ⟨ha5, hR5, fun r hr => by
            obtain ⟨y, hy, rfl⟩ := List.mem_map.mp hr
            obtain ⟨j, hj⟩ := List.mem_iff_getElem?.mp hy
            obtain ⟨m', _, hp'⟩ := hM j y hj
            exact part_in hp', by omega, hg5, gones_asc _ _, fun n hn => by
            have := gones_mem hn
            rw [hlen, hbl]
            exact this, hs1, hs30⟩
          refine ⟨_, rfl, rfl, _, rfl, ?_⟩
          by_cases ck : kd = "join"
          · subst ck
            refine iteT' (by simp) ⟨_, rfl, _, rfl, _, rfl, rfl, rfl, fun y dx hy hdx hne => made (.inl ⟨rfl, rfl⟩) A0 hy hdx hne fun H6 e6 hMk => ?_⟩
            exact k _ _ _ ho _ _ _ (e15.trans e6) (Evl.fresh_back e15 hy) hMk
          · have ck2 : kd = "lap" := by
              unfold inKinds at hkd
              simp [ck] at hkd
              exact hkd
            subst ck2
            refine iteF ⟨_, rfl, _, rfl, _, rfl, rfl, rfl, fun y dx hy hdx hne => made (.inr ⟨rfl, rfl⟩) A0 hy hdx hne fun H6 e6 hMk => ?_⟩
            exact k _ _ _ ho _ _ _ (e15.trans e6) (Evl.fresh_back e15 hy) hMk
end
end K01


set_option Elab.async false
set_option linter.all false
set_option maxRecDepth 100000
set_option maxHeartbeats 4000000
namespace K01
open PySem PySem.Spec PyProof.Rows L2
open Evl (Ex)
/-! ### draws -/
/-- all but D stays -/
def Kp (D : Addr) (H H' : Hp) : Prop := ∀ b o, b ≠ D → H b = some o → H' b = some o
/-- the draws stand at D -/
def Dr (D : Addr) (H : Hp) : Prop := ∃ ns : List Int, H D = some (.lst (ns.map V.int))
theorem Kp.refl (D : Addr) (H : Hp) : Kp D H H := fun _ _ _ h => h
theorem Kp.trans {D : Addr} {H H1 H2 : Hp} (a : Kp D H H1) (b : Kp D H1 H2) : Kp D H H2 := fun x o n h => b x o n (a x o n h)
theorem Kp.of {D : Addr} {H H' : Hp} (e : Ex H H') : Kp D H H' := fun b o _ h => e b o h
theorem Dr.ex {D : Addr} {H H' : Hp} (d : Dr D H) (e : Ex H H') : Dr D H' := by
  obtain ⟨ns, h⟩ := d
  exact ⟨ns, e _ _ h⟩
theorem Kp.fresh {D : Addr} {H H' : Hp} {p : Addr} (k : Kp D H H') (d : Dr D H') (h : H' p = none) : H p = none := by
  cases c : H p with
  | none => rfl
  | some o =>
    by_cases e : p = D
    · obtain ⟨ns, q⟩ := d
      rw [← e, h] at q
      cases q
    · rw [k p o e c] at h
      cases h
theorem Kp.tup {D : Addr} {H H' : Hp} {t : Addr} {xs : List V} (k : Kp D H H') (d : Dr D H) (h : H t = some (.tup xs)) : H' t = some (.tup xs) := by
  obtain ⟨ns, q⟩ := d
  exact k _ _ (ne_of h q (by intro z; cases z)) h
theorem Kp.runs {D : Addr} {H H' : Hp} {us : List V} {rs : List (Int × Int)} (k : Kp D H H') (d : Dr D H) (h : Runs H us rs) : Runs H' us rs := h.mono fun _ _ q => k.tup d q
theorem Kp.ne {D p : Addr} {H : Hp} (d : Dr D H) (h : H p = none) : p ≠ D := by
  obtain ⟨ns, q⟩ := d
  intro z
  rw [z, q] at h
  cases h
theorem iteF' {c : Bool} {A B : Prop} (hc : c = false) (h : B) : if c = true then A else B := by
  rw [if_neg (by rw [hc]; exact Bool.false_ne_true)]
  exact h
theorem abs_if {D : Ends} {l0 l1 l2 l4 l5 : Option V} {c0 : Int} {H : Hp} (go : ∀ c1 : Int, D.nx [l0, l1, l2, some (.int c1), l4, l5] H) :
    tIfS (tTest (tOp (rI0 fun i j => .bl (decide (i < j))) (tVar 3) (tC (.int 0)))) (tAsg (tOp (rI0 fun i j => .int (i - j)) (tC (.int 1)) (tVar 3)) (gName 3)) tNext D [l0, l1, l2, some (.int c0), l4, l5] H := by
  refine ⟨_, rfl, _, _, rfl, rfl, _, rfl, ?_⟩
  by_cases cz : c0 < 0
  · exact iteT' (decide_eq_true cz) ⟨_, rfl, _, _, rfl, rfl, go (1 - c0)⟩
  · exact iteF' (decide_eq_false cz) (go c0)
section
variable {w : World} {K : PySem.W.Frag} {mg : Str → Option Value} {base : Heap}
def spTake : Sp := fun vs H Q _ => ∃ (D : Addr) (m : Int), vs = [.ref D, .int m] ∧ Dr D H ∧ 0 < m ∧ ∀ r H', 0 ≤ r → r < m → Kp D H H' → Dr D H' → Q (.int r) H'
theorem sc_take : FnScope ["_law_draws_here", "_law_many"] ["_law_draws_here", "_law_many"] (defScope s__law_take) := ⟨rfl, rfl, rfl, by decide +kernel, rfl, by decide +kernel, by decide +kernel⟩
theorem has_take (T : Ctx K mg) : Has w K mg base CX0 "_law_take" 1 ["_law_draws_here", "_law_many"] spTake := by
  refine has_of (st := s__law_take) (f := He.ga K "_law_take") T.d__law_take T.g__law_take (fun _ _ _ _ _ _ us hl => match us, hl with | [_, _], _ => rfl) fun fd F => ?_
  refine ok0 F sc_take (fun vs H Q E h => ?_) (fun cdv A outer s0 H vs Q E hr h => ?_)
  · obtain ⟨D, m, rfl, _⟩ := h
    rfl
  · obtain ⟨D, m, rfl, ⟨ns, hD⟩, hm, k⟩ := h
    have nd := sc_take.nd
    refine ⟨_, pss_cons (ps_if (pt_cmpR op_eq (pe_callB call_len_seq (by rfl) T.b_len PySem.boot_len (pa_cons (pv 0) pa_nil)) pe_int (nomark _)) (pss_one (ps_ret pe_int)) pss_nil)
      (pss_one (ps_ret (pe_op op_mod (pe_callTy call_int1 (by rfl) T.b_int (by decide +kernel) (pa_cons (pe_bm0 PySem.F.plainAttrs_list PySem.F.slot_list_pop PySem.F.type_list_pop mt_pop (pv 0)) pa_nil)) (pv 1)))), ?_⟩
    refine ⟨_, rfl, D, _, rfl, .inl (SqL.of hD), rfl, _, rfl, ?_⟩
    by_cases c : ns = []
    · subst c
      refine iteT (k 0 H (Int.le_refl _) hm (Kp.refl _ _) ⟨[], hD⟩)
    · have hl : ns.length ≠ 0 := fun z => c (List.length_eq_zero_iff.mp z)
      rw [decide_eq_false (show ¬ (V.int ((ns.map V.int).length : Int) = V.int 0) from fun z => by
        have : ((ns.map V.int).length : Int) = 0 := by injection z
        rw [List.length_map] at this
        omega)]
      refine iteF ?_
      have hb : ns.length - 1 < ns.length := by omega
      refine ⟨_, rfl, .inl ⟨rfl, _, SqL.of hD⟩, D, _, .int ns[ns.length - 1], rfl, rfl, hD, ?_, .inl ⟨_, rfl, _, rfl, _, _, rfl, rfl, hm, ?_⟩⟩
      · rw [List.length_map, List.getElem?_map, List.getElem?_eq_getElem hb]
        rfl
      · refine k _ _ (Int.emod_nonneg _ (by omega)) (Int.emod_lt_of_pos _ hm) (fun b o n h => by rw [upd_ne n]; exact h) ⟨ns.dropLast, ?_⟩
        rw [upd_same, List.map_dropLast]
/-! ### _law_draws -/
def spDraws (K : PySem.W.Frag) : Sp := fun vs H Q _ => ∃ (a : Addr) (ns : List Int), vs = [.ref a] ∧ SqL K H a (ns.map V.int) ∧ ns.length ≤ 63 ∧ ∀ H' D, Ex H H' → H D = none → Dr D H' → Q (.ref D) H'
theorem sc_draws : FnScope ["_law_script", "_law_draws_here", "_law_at", "_law_cell", "_law_k", "_law_number"] ["_law_script"] (defScope s__law_draws) := ⟨rfl, rfl, rfl, by decide +kernel, rfl, by decide +kernel, by decide +kernel⟩
theorem has_draws (T : Ctx K mg) : Has w K mg base CX0 "_law_draws" 1 ["_law_script"] (spDraws K) := by
  refine has_of (st := s__law_draws) (f := He.ga K "_law_draws") T.d__law_draws T.g__law_draws (fun _ _ _ _ _ _ us hl => match us, hl with | [_], _ => rfl) fun fd F => ?_
  refine ok0 F sc_draws (fun vs H Q E h => ?_) (fun cdv A outer s0 H vs Q E hr h => ?_)
  · obtain ⟨a, ns, rfl, _⟩ := h
    rfl
  · obtain ⟨a, ns, rfl, hS, h63, k⟩ := h
    have nd := sc_draws.nd
    refine ⟨_, pss_cons (ps_set (i := 1) nd rfl (.inl rfl) (pe_lst pa_nil))
      (pss_cons (ps_for PassesOwn.never rfl (pi_range1 (by rfl) T.b_range (pa_cons (pe_callB (call_min2 rfl) (by rfl) T.b_min (by decide +kernel) (pa_cons (pe_callB call_len_seq (by rfl) T.b_len PySem.boot_len (pa_cons (pv 0) pa_nil)) (pa_cons pe_int pa_nil))) pa_nil)) (pg_name (i := 2) nd rfl (.inl rfl))
        (pss_cons (ps_set (i := 3) nd rfl (.inl rfl) (pe_callTy call_int1 (by rfl) T.b_int (by decide +kernel) (pa_cons (pe_ix ix_list (pv 0) (pv 2) (fun _ _ => rfl)) pa_nil)))
        (pss_cons (ps_if (pt_cmpR op_lt (pv 3) pe_int (nomark _)) (pss_one (ps_set (i := 3) nd rfl (.inl rfl) (pe_op op_sub pe_int (pv 3)))) pss_nil)
        (pss_one (ps_if (pt_cmpR op_ge (pv 3) (pe_op op_pow pe_int pe_int) (nomark _))
          (pss_one (ps_for PassesOwn.never rfl (pi_range1 (by rfl) T.b_range (pa_cons pe_int pa_nil)) (pg_name (i := 4) nd rfl (.inl rfl))
            (pss_one (ps_if (pt_cmpR op_gt (pv 3) pe_int (nomark _)) (pss_cons (ps_expr (pe_bm PySem.F.plainAttrs_list PySem.F.slot_list_append PySem.F.type_list_append mt_append (pv 1) (pa_cons (pe_op op_mod (pe_callTy call_int1 (by rfl) T.b_int (by decide +kernel) (pa_cons (pv 3) pa_nil)) pe_int) pa_nil)))
              (pss_one (ps_set (i := 3) nd rfl (.inl rfl) (pe_op op_fdiv (pv 3) pe_int)))) pss_nil))))
          (pss_cons (ps_set (i := 5) nd rfl (.inl rfl) (pe_op op_mod (pe_callTy call_int1 (by rfl) T.b_int (by decide +kernel) (pa_cons (pe_op op_add (pe_op op_add (pe_op op_mul (pv 3) pe_int) (pe_op op_mul (pv 2) pe_int)) pe_int) pa_nil)) pe_int))
          (pss_one (ps_for PassesOwn.never rfl (pi_range1 (by rfl) T.b_range (pa_cons pe_int pa_nil)) (pg_name (i := 4) nd rfl (.inl rfl))
            (pss_cons (ps_set (i := 5) nd rfl (.inl rfl) (pe_op op_mod (pe_callTy call_int1 (by rfl) T.b_int (by decide +kernel) (pa_cons (pe_op op_add (pe_op op_add (pe_op op_add (pe_op op_mul (pv 5) (pv 5)) (pe_op op_mul (pv 4) pe_int)) (pv 2)) pe_int) pa_nil)) pe_int))
            (pss_one (ps_expr (pe_bm PySem.F.plainAttrs_list PySem.F.slot_list_append PySem.F.type_list_append mt_append (pv 1) (pa_cons (pv 5) pa_nil)))))))))))))
      (pss_cons (ps_expr (pe_bm0 PySem.F.plainAttrs_list PySem.F.slot_list_reverse PySem.F.type_list_reverse mt_reverse (pv 1)))
      (pss_one (ps_ret (pv 1))))), ?_⟩
    refine ⟨(by show 0 ≤ sizeLine; decide), fun D hD => ?_⟩
    have e1 : Ex H (upd H D (.lst [])) := Ex.new hD
    have hD1 : upd H D (.lst []) D = some (.lst []) := upd_same
    generalize upd H D (.lst []) = H1 at *
    refine ⟨_, rfl, a, _, rfl, .inl (Evl.ex_l e1 hS), _, _, rfl, ?_⟩
    have hjn : (if (63 : Int) < ((ns.map V.int).length : Int) then 63 else ((ns.map V.int).length : Int)) ≤ (ns.length : Int) ∧ (if (63 : Int) < ((ns.map V.int).length : Int) then 63 else ((ns.map V.int).length : Int)) ≤ 63 ∧ 0 ≤ (if (63 : Int) < ((ns.map V.int).length : Int) then 63 else ((ns.map V.int).length : Int)) := by
      rw [List.length_map]
      split <;> omega
    generalize (if (63 : Int) < ((ns.map V.int).length : Int) then 63 else ((ns.map V.int).length : Int)) = j at *
    refine ⟨_, rfl, ?_, ?_, for_it walk_range (fun i σ H' => ∃ (v2 v3 v4 v5 : Option V) (ms : List Int), σ = [some (.ref a), some (.ref D), v2, v3, v4, v5] ∧ Ex H H' ∧ H' D = some (.lst (ms.map V.int)) ∧ ms.length ≤ 60 * i) ⟨none, none, none, none, [], rfl, e1, hD1, Nat.zero_le _⟩ (fun _ _ _ _ _ => trivial) ?_ ?_⟩
    · omega
    · omega
    · rintro i v σ H2 H3 hi ⟨v2, v3, v4, v5, ms, rfl, e2, hD2, hms⟩ ⟨rfl, rfl⟩
      have hin : i < ns.length := by omega
      have hi63 : i < 63 := by omega
      have hix : atI (ns.map V.int) (0 + (i : Nat)) = some (V.int ns[i]) := by
        rw [Int.zero_add]
        exact atI_nat (by rw [List.getElem?_map, List.getElem?_eq_getElem hin]; rfl)
      refine ⟨_, rfl, _, rfl, a, _, _, _, rfl, rfl, Evl.ex_l e2 hS, hix, .inl ⟨_, rfl, ?_⟩⟩
      generalize ns[i] = c0
      refine abs_if fun c1 => ?_
      clear hix
      refine ⟨_, rfl, _, _, rfl, rfl, (by refine ⟨?_, ?_, ?_⟩ <;> decide), _, _, rfl, rfl, _, rfl, ?_⟩
      by_cases cg : (10 : Int) ^ (18 : Int).toNat ≤ c1
      · refine iteT' (decide_eq_true cg) ⟨_, rfl, ?_, ?_, for_it walk_range (fun j σ H' => ∃ (c2 : Int) (v4 : Option V) (ms2 : List Int), σ = [some (.ref a), some (.ref D), some (.int (0 + (i : Nat))), some (.int c2), v4, v5] ∧ Ex H H' ∧ H' D = some (.lst (ms2.map V.int)) ∧ ms2.length ≤ 60 * i + j)
          ⟨c1, v4, ms, rfl, e2, hD2, by omega⟩ (fun _ _ _ _ _ => trivial) ?_ ?_⟩
        · decide
        · decide
        · rintro j' v σ H4 H5 hj ⟨c2, v4, ms2, rfl, e4, hD4, hm4⟩ ⟨rfl, rfl⟩
          have hj60 : j' < 60 := hj
          refine ⟨_, rfl, _, _, rfl, rfl, _, rfl, ?_⟩
          by_cases cc : 0 < c2
          · rw [decide_eq_true cc]
            refine iteT ⟨_, rfl, .inl ⟨rfl, _, SqL.of hD4⟩, _, rfl, .inl ⟨_, rfl, _, _, rfl, rfl, (show (0 : Int) < 24 by decide), D, _, _, rfl, rfl, hD4, ?_, ?_⟩⟩
            · rw [List.length_map]
              exact Evl.sz_lt (by omega)
            · refine ⟨_, rfl, _, _, rfl, rfl, ⟨by decide, by decide⟩, ?_⟩
              refine ⟨_, _, ms2 ++ [c2 % 24], rfl, Evl.Ex.mut e4 hD, ?_, ?_⟩
              · rw [upd_same, List.map_append]
                rfl
              · rw [List.length_append]
                have : [c2 % 24].length = 1 := rfl
                omega
          · rw [decide_eq_false cc]
            exact iteF ⟨_, _, ms2, rfl, e4, hD4, by omega⟩
        · rintro σ H4 ⟨c2, v4, ms2, rfl, e4, hD4, hm4⟩
          have : ((60 : Int) - 0).toNat = 60 := rfl
          refine ⟨_, _, _, _, ms2, rfl, e4, hD4, ?_⟩
          have h60 : (Int.toNat 60) = 60 := rfl
          omega
      · refine iteF' (decide_eq_false cg) ?_
        refine ⟨_, rfl, _, _, rfl, rfl, .inr ⟨by decide, by decide⟩, _, rfl, _, _, rfl, rfl, .inr ⟨by decide, by decide⟩, _, _, rfl, rfl, _, _, rfl, rfl, .inl ⟨_, rfl, _, _, rfl, rfl, (show (0 : Int) < 2147483647 by decide), ?_⟩⟩
        have hb0 := Int.emod_nonneg (c1 * 48271 + (0 + (i : Nat)) * 69621 + 1) (show (2147483647 : Int) ≠ 0 by decide)
        have hb1 := Int.emod_lt_of_pos (c1 * 48271 + (0 + (i : Nat)) * 69621 + 1) (show (0 : Int) < 2147483647 by decide)
        refine ⟨_, rfl, ?_, ?_, for_it walk_range (fun j σ H' => ∃ (nn : Int) (v4 : Option V) (ms2 : List Int), σ = [some (.ref a), some (.ref D), some (.int (0 + (i : Nat))), some (.int c1), v4, some (.int nn)] ∧ (0 ≤ nn ∧ nn < 2147483647) ∧ Ex H H' ∧ H' D = some (.lst (ms2.map V.int)) ∧ ms2.length ≤ 60 * i + j)
          ⟨_, v4, ms, rfl, ⟨hb0, hb1⟩, e2, hD2, by omega⟩ (fun _ _ _ _ _ => trivial) ?_ ?_⟩
        · decide
        · decide
        · rintro j' v σ H4 H5 hj ⟨nn, v4, ms2, rfl, hnn, e4, hD4, hm4⟩ ⟨rfl, rfl⟩
          have hj60 : j' < 6 := hj
          refine ⟨_, rfl, _, rfl, _, _, rfl, rfl, .inl ⟨by omega, by omega⟩, _, rfl, _, _, rfl, rfl, .inr ⟨by decide, by decide⟩, _, _, rfl, rfl, _, rfl, _, _, rfl, rfl, _, _, rfl, rfl, .inl ⟨_, rfl, _, _, rfl, rfl, (show (0 : Int) < 2147483563 by decide), ?_⟩⟩
          have hc0 := Int.emod_nonneg (nn * nn + (0 + (j' : Nat)) * 40692 + (0 + (i : Nat)) + 7) (show (2147483563 : Int) ≠ 0 by decide)
          have hc1 := Int.emod_lt_of_pos (nn * nn + (0 + (j' : Nat)) * 40692 + (0 + (i : Nat)) + 7) (show (0 : Int) < 2147483563 by decide)
          refine ⟨_, rfl, .inl ⟨rfl, _, SqL.of hD4⟩, _, rfl, D, _, _, rfl, rfl, hD4, ?_, ?_⟩
          · rw [List.length_map]
            exact Evl.sz_lt (by omega)
          · refine ⟨_, _, ms2 ++ [(nn * nn + (0 + (j' : Nat)) * 40692 + (0 + (i : Nat)) + 7) % 2147483563], rfl, ⟨hc0, by omega⟩, Evl.Ex.mut e4 hD, ?_, ?_⟩
            · rw [upd_same, List.map_append]
              rfl
            · rw [List.length_append]
              have : [(nn * nn + (0 + (j' : Nat)) * 40692 + (0 + (i : Nat)) + 7) % 2147483563].length = 1 := rfl
              omega
        · rintro σ H4 ⟨nn, v4, ms2, rfl, hnn, e4, hD4, hm4⟩
          refine ⟨_, _, _, _, ms2, rfl, e4, hD4, ?_⟩
          have h6 : (Int.toNat 6) = 6 := rfl
          omega
    · rintro σ H2 ⟨v2, v3, v4, v5, ms, rfl, e2, hD2, hms⟩
      refine ⟨_, rfl, .inl ⟨rfl, _, SqL.of hD2⟩, D, _, rfl, rfl, hD2, _, rfl, ?_⟩
      refine k _ _ (Evl.Ex.mut e2 hD) hD ⟨ms.reverse, ?_⟩
      rw [upd_same, List.map_reverse]
end
end K01


set_option Elab.async false
set_option linter.all false
set_option maxRecDepth 100000
set_option maxHeartbeats 4000000
namespace K01
open PySem PySem.Spec PyProof.Rows L2
open Evl (Ex)
theorem _root_.L2.PS.imp {X : Cx} {st : Stmt} {t t' : TS} (h : PS X st t) (i : ∀ D σ H, t' D σ H → t D σ H) : PS X st t' := ⟨fun pins s σ H D I q => h.run pins s σ H D I (i D σ H q)⟩
theorem _root_.L2.PE.imp {X : Cx} {e : Expr} {t t' : TE} (h : PE X e t) (i : ∀ σ H Q, t' σ H Q → t σ H Q) : PE X e t' := ⟨fun pins s σ H Q I q => h.run pins s σ H Q I (i σ H Q q)⟩
theorem _root_.L2.PT.imp {X : Cx} {e : Expr} {t t' : TT} (h : PT X e t) (i : ∀ σ H Q, t' σ H Q → t σ H Q) : PT X e t' := ⟨fun pins s σ H Q I q => h.run pins s σ H Q I (i σ H Q q)⟩
theorem Kp.mut {D R : Addr} {H H' : Hp} {o : HO} (k : Kp D H H') (h : H R = none) : Kp D H (upd H' R o) := fun b u n hb => by
  rw [upd_ne (ne_of_none hb h)]
  exact k b u n hb
/-- a list of runs under work: at R, at most b of them -/
structure LI (D R : Addr) (H : Hp) (s : Int) (b : Nat) (H' : Hp) : Prop where
  kp : Kp D H H'
  dr : Dr D H'
  li : ∃ us rs, H' R = some (.lst us) ∧ Runs H' us rs ∧ (∀ r ∈ rs, Fits s r) ∧ rs.length ≤ b
theorem LI.go {D R : Addr} {H : Hp} {s : Int} {b : Nat} {H1 H2 : Hp} (h : LI D R H s b H1) (hR : R ≠ D) (k : Kp D H1 H2) (d : Dr D H2) : LI D R H s b H2 := by
  obtain ⟨us, rs, a1, a2, a3, a4⟩ := h.li
  exact ⟨h.kp.trans k, d, us, rs, k _ _ hR a1, k.runs h.dr a2, a3, a4⟩
theorem LI.le {D R : Addr} {H : Hp} {s : Int} {b b' : Nat} {H1 : Hp} (h : LI D R H s b H1) (hb : b ≤ b') : LI D R H s b' H1 := by
  obtain ⟨us, rs, a1, a2, a3, a4⟩ := h.li
  exact ⟨h.kp, h.dr, us, rs, a1, a2, a3, Nat.le_trans a4 hb⟩
/-- (x, y) goes on the list -/
theorem LI.app {D R : Addr} {H : Hp} {s : Int} {b : Nat} {H1 : Hp} {x y : Int} (h : LI D R H s b H1) (hR : R ≠ D) (hR0 : H R = none) (hb : b ≤ 1000) (hf : Fits s (x, y)) {t : Addr} (ht : H1 t = none) :
    ∃ us, upd H1 t (.tup [.int x, .int y]) R = some (.lst us) ∧ us.length < sizeLine ∧ LI D R H s (b + 1) (upd (upd H1 t (.tup [.int x, .int y])) R (.lst (us ++ [.ref t]))) := by
  obtain ⟨us, rs, a1, a2, a3, a4⟩ := h.li
  have e1 : Ex H1 (upd H1 t (.tup [.int x, .int y])) := Ex.new ht
  have hl := a2.len
  have htR : t ≠ R := Ne.symm (ne_of_none a1 ht)
  refine ⟨us, e1 _ _ a1, small1000 (by omega), ⟨(h.kp.trans (Kp.of e1)).mut hR0, ?_, us ++ [.ref t], rs ++ [(x, y)], upd_same, ?_, ?_, ?_⟩⟩
  · obtain ⟨ms, hms⟩ := h.dr
    exact ⟨ms, by rw [upd_ne (Ne.symm hR)]; exact e1 _ _ hms⟩
  · refine Runs.snoc ((a2.ex e1).mono fun t' ys e => by rw [upd_ne (ne_of e (e1 _ _ a1) (by intro z; cases z))]; exact e) ?_
    rw [upd_ne htR, upd_same]
  · intro r hr
    rcases List.mem_append.mp hr with hr | hr
    · exact a3 r hr
    · rw [List.mem_singleton.mp hr]
      exact hf
  · rw [List.length_append]
    have : [(x, y)].length = 1 := rfl
    omega
section
variable {w : World} {K : PySem.W.Frag} {mg : Str → Option Value} {base : Heap}
def spChains : Sp := fun vs H Q _ => ∃ (D : Addr) (s : Int), vs = [.ref D, .int s] ∧ Dr D H ∧ 1 ≤ s ∧ s ≤ 8 ∧ ∀ R H', H R = none → LI D R H s 27 H' → Q (.ref R) H'
theorem sc_chains : FnScope ["_law_draws_here", "_law_size", "_law_runs", "_law_copy", "_law_start", "_law_k", "_law_stop"] ["_law_draws_here", "_law_size"] (defScope s__law_chains) := ⟨rfl, rfl, rfl, by decide +kernel, rfl, by decide +kernel, by decide +kernel⟩
theorem has_chains (T : Ctx K mg) : Has w K mg base CX0 "_law_chains" 2 ["_law_draws_here", "_law_size"] spChains := by
  obtain ⟨f1, fd1, m1, kp1, F1, b1⟩ := has_take (w := w) (base := base) T
  refine has_of (st := s__law_chains) (f := He.ga K "_law_chains") T.d__law_chains T.g__law_chains (fun _ _ _ _ _ _ us hl => match us, hl with | [_, _], _ => rfl) fun fd F => ?_
  refine ok0 F sc_chains (fun vs H Q E h => ?_) (fun cdv A outer s0 H vs Q E hr h => ?_)
  · obtain ⟨D, s, rfl, _⟩ := h
    rfl
  · obtain ⟨D, s, rfl, hD, hs1, hs8, k⟩ := h
    have nd := sc_chains.nd
    refine ⟨_, pss_cons (ps_set (i := 2) nd rfl (.inl rfl) (pe_lst pa_nil))
      (pss_cons (ps_for PassesOwn.never rfl (pi_range1 (by rfl) T.b_range (pa_cons (pe_op op_add pe_int (pe_call F1 hr (by rfl) m1 kp1 b1 .nil pass0 (pa_cons (pv 0) (pa_cons pe_int pa_nil)))) pa_nil)) (pg_name (i := 3) nd rfl (.inl rfl))
        (pss_cons (ps_set (i := 4) nd rfl (.inl rfl) pe_int)
        (pss_one (ps_for PassesOwn.never rfl (pi_range1 (by rfl) T.b_range (pa_cons (pv 1) pa_nil)) (pg_name (i := 5) nd rfl (.inl rfl))
          (pss_one (ps_if (pt_cmpR op_lt (pv 4) (pv 1) (nomark _))
            (pss_cons (ps_set (i := 6) nd rfl (.inl rfl) (pe_callB (call_min2 rfl) (by rfl) T.b_min (by decide +kernel) (pa_cons (pv 1) (pa_cons (pe_op op_add (pe_op op_add (pv 4) pe_int) (pe_call F1 hr (by rfl) m1 kp1 b1 .nil pass0 (pa_cons (pv 0) (pa_cons (pv 1) pa_nil)))) pa_nil))))
            (pss_cons (ps_expr (pe_bm PySem.F.plainAttrs_list PySem.F.slot_list_append PySem.F.type_list_append mt_append (pv 2) (pa_cons (pe_tup (pa_cons (pv 4) (pa_cons (pv 6) pa_nil))) pa_nil)))
            (pss_one (ps_set (i := 4) nd rfl (.inl rfl) (pv 6))))) pss_nil))))))
      (pss_cons (ps_for PassesOwn.never rfl (pi_range1 (by rfl) T.b_range (pa_cons (pe_call F1 hr (by rfl) m1 kp1 b1 .nil pass0 (pa_cons (pv 0) (pa_cons pe_int pa_nil))) pa_nil)) (pg_name (i := 5) nd rfl (.inl rfl))
        (pss_cons (ps_set (i := 4) nd rfl (.inl rfl) (pe_call F1 hr (by rfl) m1 kp1 b1 .nil pass0 (pa_cons (pv 0) (pa_cons (pv 1) pa_nil))))
        (pss_one (ps_expr (pe_bm PySem.F.plainAttrs_list PySem.F.slot_list_append PySem.F.type_list_append mt_append (pv 2) (pa_cons (pe_tup (pa_cons (pv 4) (pa_cons (pe_op op_add (pe_op op_add (pv 4) pe_int) (pe_call F1 hr (by rfl) m1 kp1 b1 .nil pass0 (pa_cons (pv 0) (pa_cons (pe_op op_sub (pv 1) (pv 4)) pa_nil)))) pa_nil))) pa_nil))))))
      (pss_one (ps_ret (pv 2))))), ?_⟩
    refine ⟨(by show 0 ≤ sizeLine; decide), fun R hR0 => ?_⟩
    have hRD : R ≠ D := Kp.ne hD hR0
    have L0 : LI D R H s 0 (upd H R (.lst [])) := ⟨Kp.of (Ex.new hR0), hD.ex (Ex.new hR0), [], [], upd_same, Runs.nil, (fun _ h => by cases h), Nat.le_refl _⟩
    generalize upd H R (.lst []) = H1 at *
    refine ⟨_, rfl, D, 3, rfl, L0.dr, by decide, fun r1 H2 h0 h1 k1 d1 => ⟨_, _, rfl, rfl, _, rfl, ?_, ?_, for_it walk_range (fun i σ H' => ∃ v3 v4 v5 v6 : Option V, σ = [some (.ref D), some (.int s), some (.ref R), v3, v4, v5, v6] ∧ LI D R H s (8 * i) H') ⟨_, _, _, _, rfl, L0.go hRD k1 d1⟩ (fun _ _ _ _ _ => trivial) ?_ ?_⟩⟩
    · omega
    · omega
    · rintro i v σ H3 H4 hi ⟨v3, v4, v5, v6, rfl, L3⟩ ⟨rfl, rfl⟩
      have hi3 : i < 3 := by omega
      refine ⟨_, rfl, _, rfl, ?_, ?_, for_it walk_range (fun j σ H' => ∃ (v3 v5 v6 : Option V) (st : Int), σ = [some (.ref D), some (.int s), some (.ref R), v3, some (.int st), v5, v6] ∧ 0 ≤ st ∧ LI D R H s (8 * i + j) H') ⟨_, _, _, 0, rfl, Int.le_refl _, L3⟩ (fun _ _ _ _ _ => trivial) ?_ ?_⟩
      · omega
      · omega
      · rintro j v σ H5 H6 hj ⟨v3, v5, v6, st, rfl, hst, L5⟩ ⟨rfl, rfl⟩
        refine ⟨_, rfl, _, rfl, _, _, rfl, rfl, _, rfl, ?_⟩
        by_cases c : st < s
        rotate_left
        · exact iteF' (decide_eq_false c) ⟨_, _, _, st, rfl, hst, L5.le (by omega)⟩
        refine iteT' (decide_eq_true c) ⟨_, rfl, _, rfl, _, _, rfl, rfl, _, rfl, _, rfl, D, s, rfl, L5.dr, by omega, fun r H7 h0 h1 k7 d7 => ⟨_, _, rfl, rfl, _, _, rfl, ?_⟩⟩
        have L7 := L5.go hRD k7 d7
        have hstop : st < (if (st + 1 + r : Int) < s then st + 1 + r else s) ∧ (if (st + 1 + r : Int) < s then st + 1 + r else s) ≤ s := by split <;> omega
        generalize hse : (if (st + 1 + r : Int) < s then st + 1 + r else s) = sp at *
        refine ⟨_, rfl, .inl ⟨rfl, ?_⟩, _, rfl, _, rfl, (by show 2 ≤ sizeLine; decide), fun t ht => ?_⟩
        · obtain ⟨us, rs, a1, _⟩ := L7.li
          exact ⟨_, SqL.of a1⟩
        · obtain ⟨us, q1, q2, L8⟩ := L7.app (x := st) (y := sp) hRD hR0 (by omega) ⟨hst, hstop.1, hstop.2⟩ ht
          exact ⟨R, us, .ref t, rfl, rfl, q1, q2, _, rfl, _, _, _, sp, rfl, by omega, L8⟩
      · rintro σ H5 ⟨v3, v5, v6, st, rfl, hst, L5⟩
        exact ⟨_, _, _, _, rfl, L5.le (by omega)⟩
    · rintro σ H3 ⟨v3, v4, v5, v6, rfl, L3⟩
      refine ⟨_, rfl, D, 4, rfl, L3.dr, by decide, fun r2 H4 h2 h3 k4 d4 => ⟨_, rfl, ?_, ?_, for_it walk_range (fun i σ H' => ∃ v3 v4 v5 v6 : Option V, σ = [some (.ref D), some (.int s), some (.ref R), v3, v4, v5, v6] ∧ LI D R H s (24 + i) H') ⟨_, _, _, _, rfl, (L3.go hRD k4 d4).le (by omega)⟩ (fun _ _ _ _ _ => trivial) ?_ ?_⟩⟩
      · omega
      · omega
      · rintro i v σ H5 H6 hi ⟨v3, v4, v5, v6, rfl, L5⟩ ⟨rfl, rfl⟩
        have hi3 : i < 3 := by omega
        refine ⟨_, rfl, _, rfl, D, s, rfl, L5.dr, by omega, fun st H7 h4 h5 k7 d7 => ?_⟩
        have L7 := L5.go hRD k7 d7
        refine ⟨_, rfl, .inl ⟨rfl, ?_⟩, _, rfl, _, rfl, _, _, rfl, rfl, _, rfl, _, rfl, _, rfl, _, _, rfl, rfl, D, s - st, rfl, L7.dr, by omega, fun r H8 h6 h7 k8 d8 => ⟨_, _, rfl, rfl, (by show 2 ≤ sizeLine; decide), fun t ht => ?_⟩⟩
        · obtain ⟨us, rs, a1, _⟩ := L7.li
          exact ⟨_, SqL.of a1⟩
        · obtain ⟨us, q1, q2, L9⟩ := (L7.go hRD k8 d8).app (x := st) (y := st + 1 + r) hRD hR0 (by omega) ⟨h4, by show st < st + 1 + r; omega, by show st + 1 + r ≤ s; omega⟩ ht
          exact ⟨R, us, .ref t, rfl, rfl, q1, q2, _, _, _, _, rfl, L9⟩
      · rintro σ H5 ⟨v3, v4, v5, v6, rfl, L5⟩
        exact ⟨_, rfl, k _ _ hR0 (L5.le (by omega))⟩
end
end K01


set_option Elab.async false
set_option linter.all false
set_option maxRecDepth 100000
set_option maxHeartbeats 4000000
namespace K01
open PySem PySem.Spec PyProof.Rows L2
open Evl (Ex)
theorem Runs.cons {H : Hp} {us : List V} {rs : List (Int × Int)} {t : Addr} {r : Int × Int} (h : Runs H us rs) (ht : H t = some (.tup [.int r.1, .int r.2])) : Runs H (.ref t :: us) (r :: rs) := by
  refine ⟨by simp [h.len], fun i q hq => ?_⟩
  cases i with
  | zero =>
    cases hq
    exact ⟨t, rfl, ht⟩
  | succ i => exact h.at_ i q hq
theorem Runs.drop {H : Hp} {us : List V} {rs : List (Int × Int)} (h : Runs H us rs) (n : Nat) : Runs H (us.drop n) (rs.drop n) := by
  refine ⟨by simp [h.len], fun i q hq => ?_⟩
  rw [List.getElem?_drop] at hq ⊢
  exact h.at_ _ q hq
theorem Runs.take {H : Hp} {us : List V} {rs : List (Int × Int)} (h : Runs H us rs) (n : Nat) : Runs H (us.take n) (rs.take n) := by
  refine ⟨by simp [h.len], fun i q hq => ?_⟩
  rw [List.getElem?_take] at hq ⊢
  split at hq
  · rename_i c
    rw [if_pos c]
    exact h.at_ _ q hq
  · cases hq
theorem Runs.app {H : Hp} {us us' : List V} {rs rs' : List (Int × Int)} (h : Runs H us rs) (h' : Runs H us' rs') : Runs H (us ++ us') (rs ++ rs') := by
  refine ⟨by simp [h.len, h'.len], fun i q hq => ?_⟩
  by_cases c : i < rs.length
  · rw [List.getElem?_append_left c] at hq
    rw [List.getElem?_append_left (by rw [h.len]; exact c)]
    exact h.at_ i q hq
  · rw [List.getElem?_append_right (by omega)] at hq
    rw [List.getElem?_append_right (by rw [h.len]; omega), h.len]
    exact h'.at_ _ q hq
theorem Runs.cut {H : Hp} {us : List V} {rs : List (Int × Int)} (h : Runs H us rs) (lo hi : Option Int) : ∃ rs', Runs H (cutV us lo hi) rs' ∧ (∀ r ∈ rs', r ∈ rs) ∧ rs'.length ≤ rs.length := by
  unfold cutV
  refine ⟨_, (h.drop _).take _, fun r hr => List.mem_of_mem_drop (List.mem_of_mem_take hr), ?_⟩
  rw [List.length_take, List.length_drop]
  omega
def tPairs : List (Int × Int) → TA
  | [] => tNil
  | r :: rs => tCons (tTup (tCons (tC (.int r.1)) (tCons (tC (.int r.2)) tNil))) (tPairs rs)
theorem pairs_ok : ∀ (rs : List (Int × Int)) {σ : L2.St} {H : Hp} {Q : List V → Hp → Prop}, (∀ us H', Ex H H' → Runs H' us rs → Q us H') → tPairs rs σ H Q
  | [], σ, H, Q, k => k [] H (Ex.refl H) Runs.nil
  | r :: rs, σ, H, Q, k => by
    refine ⟨by show 2 ≤ sizeLine; decide, fun p hp => pairs_ok rs fun us H' e R => ?_⟩
    refine k _ _ ((Ex.new hp).trans e) (R.cons (e _ _ upd_same))
theorem menu_ok (rs : List (Int × Int)) {σ : L2.St} {H : Hp} {Q : VK} (hl : rs.length ≤ 1000) (k : ∀ M us H', Ex H H' → H M = none → H' M = some (.lst us) → Runs H' us rs → Q (.ref M) H') : tLst (tPairs rs) σ H Q :=
  pairs_ok rs fun us H' e R => ⟨Nat.le_trans (by rw [R.len]; exact hl) (by decide), fun p hp => k p us _ (e.trans (Ex.new hp)) (Evl.fresh_back e hp) upd_same (R.ex (Ex.new hp))⟩
theorem menu_set (rs : List (Int × Int)) {De : Ends} {s : Int} {v0 v1 v2 v3 v4 v5 : Option V} {H : Hp} (hl : rs.length ≤ 1000) (k : ∀ M us H', Ex H H' → H M = none → H' M = some (.lst us) → Runs H' us rs → De.nx [v0, v1, some (.int s), some (.ref M), v4, v5] H') :
    tSeq (tAsg (tC (.int s)) (gName 2)) (tAsg (tLst (tPairs rs)) (gName 3)) De [v0, v1, v2, v3, v4, v5] H :=
  menu_ok (Q := fun v H' => gName 3 v [v0, v1, some (.int s), v3, v4, v5] H' De.nx) rs hl fun M us H' e h1 h2 h3 => k M us H' e h1 h2 h3
section
variable {w : World} {K : PySem.W.Frag} {mg : Str → Option Value} {base : Heap}
def spSpecial : Sp := fun vs H Q _ => ∃ (D : Addr), vs = [.ref D] ∧ Dr D H ∧ ∀ L M s us rs H', Kp D H H' → Dr D H' → H M = none → H' L = some (.lst [.int s, .ref M]) → L ≠ D → H' M = some (.lst us) → Runs H' us rs → (∀ r ∈ rs, Fits s r) → 1 ≤ s → s ≤ 8 → rs.length ≤ 9 → Q (.ref L) H'
theorem sc_special : FnScope ["_law_draws_here", "_law_word", "_law_size", "_law_menu", "_law_runs", "_law_run"] ["_law_draws_here"] (defScope s__law_special) := ⟨rfl, rfl, rfl, by decide +kernel, rfl, by decide +kernel, by decide +kernel⟩
theorem has_special (T : Ctx K mg) : Has w K mg base CX0 "_law_special" 2 ["_law_draws_here"] spSpecial := by
  obtain ⟨f1, fd1, m1, kp1, F1, b1⟩ := has_take (w := w) (base := base) T
  refine has_of (st := s__law_special) (f := He.ga K "_law_special") T.d__law_special T.g__law_special (fun _ _ _ _ _ _ us hl => match us, hl with | [_], _ => rfl) fun fd F => ?_
  refine ok0 F sc_special (fun vs H Q E h => ?_) (fun cdv A outer s0 H vs Q E hr h => ?_)
  · obtain ⟨D, rfl, _⟩ := h
    rfl
  · obtain ⟨D, rfl, hD, k⟩ := h
    have nd := sc_special.nd
    refine ⟨_, pss_cons (ps_set (i := 1) nd rfl (.inl rfl) (pe_call F1 hr (by rfl) m1 kp1 b1 .nil pass0 (pa_cons (pv 0) (pa_cons pe_int pa_nil))))
      (pss_cons ((ps_if (pt_cmpR op_eq (pv 1) pe_int (nomark _))
          (pss_cons (ps_set (i := 2) nd rfl (.inl rfl) pe_int) (pss_one (ps_set (i := 3) nd rfl (.inl rfl) (pe_lst (t := tPairs [(0, 1), (0, 2), (1, 2), (1, 3), (2, 3), (0, 3), (1, 2)]) (by repeat first | exact pa_nil | refine pa_cons (pe_tup (pa_cons pe_int (pa_cons pe_int pa_nil))) ?_)))))
          (pss_one (ps_if (pt_cmpR op_eq (pv 1) pe_int (nomark _))
            (pss_cons (ps_set (i := 2) nd rfl (.inl rfl) pe_int) (pss_one (ps_set (i := 3) nd rfl (.inl rfl) (pe_lst (t := tPairs [(0, 1), (1, 2), (1, 3), (2, 3), (2, 4), (3, 4), (4, 5), (0, 1), (4, 5)]) (by repeat first | exact pa_nil | refine pa_cons (pe_tup (pa_cons pe_int (pa_cons pe_int pa_nil))) ?_)))))
            (pss_cons (ps_set (i := 2) nd rfl (.inl rfl) pe_int) (pss_one (ps_set (i := 3) nd rfl (.inl rfl) (pe_lst (t := tPairs [(0, 4), (0, 2), (2, 4), (0, 1), (1, 2), (2, 3), (3, 4), (1, 2), (0, 4)]) (by repeat first | exact pa_nil | refine pa_cons (pe_tup (pa_cons pe_int (pa_cons pe_int pa_nil))) ?_)))))))).imp
            (t' := fun De σ H => ∃ v0 wd v2 v3 v4 v5, σ = [v0, some (.int wd), v2, v3, v4, v5] ∧ ∀ s M us rs H', Ex H H' → H M = none → 1 ≤ s → s ≤ 8 → H' M = some (.lst us) → Runs H' us rs → (∀ r ∈ rs, Fits s r) → rs.length ≤ 9 → De.nx [v0, some (.int wd), some (.int s), some (.ref M), v4, v5] H') ?c1)
      (pss_cons (ps_setLc (own := [("_law_run", 5)]) (i := 4) (g := gName 5) rfl nd rfl rfl rfl (pi_list (pv 3)) (blkOk_by (own := [("_law_run", 5)]) (N := ["_law_draws_here", "_law_word", "_law_size", "_law_menu", "_law_runs", "_law_run"]) (sc := defScope s__law_special) (by decide +kernel)) (fun _ _ _ _ _ => pg_name (i := 5) nd rfl (Or.inl rfl))
        (fun _ _ _ _ _ => pts_one (pt_cmpR op_lt (pe_call F1 hr (by rfl) m1 kp1 b1 .nil pass0 (pa_cons (pv 0) (pa_cons pe_int pa_nil))) pe_int (nomark _))) (fun _ _ _ _ _ => pv 5))
      (pss_one (ps_ret (pe_lst (pa_cons (pv 2) (pa_cons (pv 4) pa_nil))))))), ?_⟩
    case c1 =>
      rintro De σ H ⟨v0, wd, v2, v3, v4, v5, rfl, k⟩
      refine ⟨_, rfl, rfl, _, rfl, ?_⟩
      by_cases c : V.int wd = V.int 0
      · refine iteT' (decide_eq_true c) (menu_set _ (by decide) fun M us H' e hM hM' R => ?_)
        exact k 3 M us _ H' e hM (by decide) (by decide) hM' R (by show ∀ r ∈ [((0 : Int), (1 : Int)), (0, 2), (1, 2), (1, 3), (2, 3), (0, 3), (1, 2)], 0 ≤ r.1 ∧ r.1 < r.2 ∧ r.2 ≤ 3; decide) (by decide)
      refine iteF' (decide_eq_false c) ⟨_, rfl, rfl, _, rfl, ?_⟩
      by_cases c : V.int wd = V.int 1
      · refine iteT' (decide_eq_true c) (menu_set _ (by decide) fun M us H' e hM hM' R => ?_)
        exact k 5 M us _ H' e hM (by decide) (by decide) hM' R (by show ∀ r ∈ [((0 : Int), (1 : Int)), (1, 2), (1, 3), (2, 3), (2, 4), (3, 4), (4, 5), (0, 1), (4, 5)], 0 ≤ r.1 ∧ r.1 < r.2 ∧ r.2 ≤ 5; decide) (by decide)
      · refine iteF' (decide_eq_false c) (menu_set _ (by decide) fun M us H' e hM hM' R => ?_)
        exact k 4 M us _ H' e hM (by decide) (by decide) hM' R (by show ∀ r ∈ [((0 : Int), (4 : Int)), (0, 2), (2, 4), (0, 1), (1, 2), (2, 3), (3, 4), (1, 2), (0, 4)], 0 ≤ r.1 ∧ r.1 < r.2 ∧ r.2 ≤ 4; decide) (by decide)
    refine ⟨_, rfl, D, 3, rfl, hD, by decide, fun wd H1 h0 h1 k1 d1 => ⟨_, wd, _, _, _, _, rfl, fun s M us rs H2 e2 hM hs1 hs8 hM2 R2 hF hl => ?_⟩⟩
    have k2 := k1.trans (Kp.of e2)
    have d2 := d1.ex e2
    have hM0 : H M = none := k1.fresh d1 hM
    have hMD : M ≠ D := Kp.ne hD hM0
    refine ⟨_, rfl, M, rfl, ⟨_, SqL.of hM2⟩, fun L hL => lc_it walk_list (fun i H' => Kp D H H' ∧ Dr D H' ∧ H' M = some (.lst us) ∧ Runs H' us rs ∧ ∃ us' rs', H' L = some (.lst us') ∧ Runs H' us' rs' ∧ (∀ r ∈ rs', Fits s r) ∧ rs'.length ≤ i)
      ⟨k2.trans (Kp.of (Ex.new hL)), d2.ex (Ex.new hL), Ex.new hL _ _ hM2, R2.ex (Ex.new hL), [], [], upd_same, Runs.nil, (fun _ h => by cases h), Nat.le_refl _⟩ (fun i H' _ q => SqL.of q.2.2.1) ?_ ?_⟩
    · rintro i x H3 H4 hi ⟨k3, d3, hM3, R3, us', rs', hL3, R3', hF', hl'⟩ ⟨rfl, hx⟩
      have hL0 : H L = none := k2.fresh d2 hL
      have hLD : L ≠ D := Kp.ne hD hL0
      obtain ⟨t, r, hr', rfl, ht⟩ := R3.get hx
      refine ⟨rfl, ?_⟩
      refine ⟨_, rfl, D, 8, rfl, d3, by decide, fun q H5 h4 h5 k5 d5 => ⟨_, _, rfl, rfl, _, rfl, ?_⟩⟩
      have hL5 := k5 _ _ hLD hL3
      have hM5 := k5 _ _ hMD hM3
      have R5 := k5.runs d3 R3
      have R5' := k5.runs d3 R3'
      have ht5 := k5.tup d3 ht
      have k05 := k3.trans k5
      have hlen := R5'.len
      have hil : i < 1000 := by rw [R2.len] at hi; omega
      by_cases c : q < 7
      · refine iteT' (decide_eq_true c) ⟨_, rfl, us', hL5, small1000 (by omega), k05.mut hL0, ?_, ?_, ?_, us' ++ [.ref t], rs' ++ [r], upd_same, ?_, ?_, ?_⟩
        · obtain ⟨ms, hms⟩ := d5
          exact ⟨ms, by rw [upd_ne (Ne.symm hLD)]; exact hms⟩
        · rw [upd_ne (ne_of_none hM2 hL)]
          exact hM5
        · exact R5.mono fun t' ys e => by rw [upd_ne (ne_of e hL5 (by intro z; cases z))]; exact e
        · refine Runs.snoc (R5'.mono fun t' ys e => by rw [upd_ne (ne_of e hL5 (by intro z; cases z))]; exact e) ?_
          rw [upd_ne (ne_of ht5 hL5 (by intro z; cases z))]
          exact ht5
        · intro r' hr
          rcases List.mem_append.mp hr with hr | hr
          · exact hF' r' hr
          · rw [List.mem_singleton.mp hr]
            exact hF r (List.mem_of_getElem? hr')
        · rw [List.length_append]
          have : [r].length = 1 := rfl
          omega
      · exact iteF' (decide_eq_false c) ⟨k05, d5, hM5, R5, us', rs', hL5, R5', hF', by omega⟩
    · rintro H3 ⟨k3, d3, hM3, R3, us', rs', hL3, R3', hF', hl'⟩
      have hL0 : H L = none := k2.fresh d2 hL
      refine ⟨_, rfl, _, rfl, (by show 2 ≤ sizeLine; decide), fun q hq => ?_⟩
      exact k q L s us' rs' _ (k3.trans (Kp.of (Ex.new hq))) (d3.ex (Ex.new hq)) hL0 upd_same (Kp.ne d3 hq) (Ex.new hq _ _ hL3) (R3'.ex (Ex.new hq)) hF' hs1 hs8 (by rw [R2.len] at hl'; omega)
end
end K01


set_option Elab.async false
set_option linter.all false
set_option maxRecDepth 100000
set_option maxHeartbeats 4000000
namespace K01
open PySem PySem.Spec PyProof.Rows L2
open Evl (Ex)
theorem cutV_nine (xs : List V) : (cutV xs none (some 9)).length ≤ 9 := by
  unfold cutV HT.sIx
  simp
  omega
section
variable {w : World} {K : PySem.W.Frag} {mg : Str → Option Value} {base : Heap}
def spMk : Sp := fun vs H Q _ => ∃ (D : Addr), vs = [.ref D, .int 9] ∧ Dr D H ∧ ∀ L M a s us rs H', Kp D H H' → Dr D H' → H M = none → H L = none → H' L = some (.lst [.int s, .ref M, .ref a]) → H' M = some (.lst us) → Runs H' us rs → (∀ r ∈ rs, Fits s r) → 1 ≤ s → s ≤ 8 → rs.length ≤ 9 → Q (.ref L) H'
theorem sc_mk : FnScope ["_law_draws_here", "_law_most", "_law_word", "_law_drawn", "_law_size", "_law_runs", "_law_turn", "_law_absent"] ["_law_draws_here", "_law_most"] (defScope s__law_market) := ⟨rfl, rfl, rfl, by decide +kernel, rfl, by decide +kernel, by decide +kernel⟩
theorem has_mk (T : Ctx K mg) : Has w K mg base CX0 "_law_market" 3 ["_law_draws_here", "_law_most"] spMk := by
  obtain ⟨f1, fd1, m1, kp1, F1, b1⟩ := has_take (w := w) (base := base) T
  obtain ⟨f2, fd2, m2, kp2, F2, b2⟩ := has_special (w := w) (base := base) T
  obtain ⟨f3, fd3, m3, kp3, F3, b3⟩ := has_chains (w := w) (base := base) T
  refine has_of (st := s__law_market) (f := He.ga K "_law_market") T.d__law_market T.g__law_market (fun _ _ _ _ _ _ us hl => match us, hl with | [_, _], _ => rfl) fun fd F => ?_
  refine ok0 F sc_mk (fun vs H Q E h => ?_) (fun cdv A outer s0 H vs Q E hr h => ?_)
  · obtain ⟨D, rfl, _⟩ := h
    rfl
  · obtain ⟨D, rfl, hD, k⟩ := h
    have nd := sc_mk.nd
    have hr1 := hr.mono (show 1 ≤ 2 by decide)
    refine ⟨_, pss_cons (ps_set (i := 2) nd rfl (.inl rfl) (pe_call F1 hr1 (by rfl) m1 kp1 b1 .nil pass0 (pa_cons (pv 0) (pa_cons pe_int pa_nil))))
      (pss_cons ((ps_if (pt_cmpR op_ge (pv 2) pe_int (nomark _))
          (pss_cons (ps_set (i := 3) nd rfl (.inl rfl) (pe_call F2 hr (by rfl) m2 kp2 b2 .nil pass0 (pa_cons (pv 0) pa_nil)))
          (pss_cons (ps_set (i := 4) nd rfl (.inl rfl) (pe_ix ix_list (pv 3) pe_int (fun _ _ => rfl)))
          (pss_one (ps_set (i := 5) nd rfl (.inl rfl) (pe_ix ix_list (pv 3) pe_int (fun _ _ => rfl))))))
          (pss_cons (ps_set (i := 4) nd rfl (.inl rfl) (pe_ix ix_list (pe_lst (pa_cons pe_int (pa_cons pe_int (pa_cons pe_int (pa_cons pe_int (pa_cons pe_int (pa_cons pe_int (pa_cons pe_int (pa_cons pe_int (pa_cons pe_int (pa_cons pe_int pa_nil))))))))))) (pe_call F1 hr1 (by rfl) m1 kp1 b1 .nil pass0 (pa_cons (pv 0) (pa_cons pe_int pa_nil))) (fun _ _ => rfl)))
          (pss_cons (ps_if (pt_cmpR op_eq (pe_call F1 hr1 (by rfl) m1 kp1 b1 .nil pass0 (pa_cons (pv 0) (pa_cons pe_int pa_nil))) pe_int (nomark _)) (pss_one (ps_set (i := 4) nd rfl (.inl rfl) pe_int)) pss_nil)
          (pss_one (ps_set (i := 5) nd rfl (.inl rfl) (pe_call F3 hr (by rfl) m3 kp3 b3 .nil pass0 (pa_cons (pv 0) (pa_cons (pv 4) pa_nil)))))))).imp
            (t' := fun De σ H => ∃ wd v3 v4 v5 v6 v7, σ = [some (.ref D), some (.int 9), some (.int wd), v3, v4, v5, v6, v7] ∧ Dr D H ∧ ∀ w3 s M us rs H', Kp D H H' → Dr D H' → H M = none → 1 ≤ s → s ≤ 8 → H' M = some (.lst us) → Runs H' us rs → (∀ r ∈ rs, Fits s r) → rs.length ≤ 27 → De.nx [some (.ref D), some (.int 9), some (.int wd), w3, some (.int s), some (.ref M), v6, v7] H') ?c1)
      (pss_cons (ps_set (i := 6) nd rfl (.inl rfl) (pe_call F1 hr1 (by rfl) m1 kp1 b1 .nil pass0 (pa_cons (pv 0) (pa_cons pe_int pa_nil))))
      (pss_cons ((ps_if (pt_cmpR op_lt (pv 6) (pe_callB call_len_seq (by rfl) T.b_len PySem.boot_len (pa_cons (pv 5) pa_nil)) (nomark _))
          (pss_one (ps_set (i := 5) nd rfl (.inl rfl) (pe_op op_cat (pe_slice sl_list (pv 5) (po_some (pv 6)) po_none) (pe_slice sl_list (pv 5) po_none (po_some (pv 6)))))) pss_nil).imp
            (t' := fun De σ H => ∃ v0 v1 v2 v3 v4 v7 M us rs tn, σ = [v0, v1, v2, v3, v4, some (.ref M), some (.int tn), v7] ∧ H M = some (.lst us) ∧ Runs H us rs ∧ rs.length ≤ 27 ∧ ∀ M' us' rs' H', Ex H H' → (M' = M ∨ H M' = none) → H' M' = some (.lst us') → Runs H' us' rs' → (∀ r ∈ rs', r ∈ rs) → rs'.length ≤ 54 → De.nx [v0, v1, v2, v3, v4, some (.ref M'), some (.int tn), v7] H') ?c2)
      (pss_cons (ps_set (i := 5) nd rfl (.inl rfl) (pe_slice sl_list (pv 5) po_none (po_some (pv 1))))
      (pss_cons (ps_set (i := 7) nd rfl (.inl rfl) (pe_lst pa_nil))
      (pss_cons ((ps_if (PW.pt (pw_and (pt_cmpR op_eq (pe_call F1 hr1 (by rfl) m1 kp1 b1 .nil pass0 (pa_cons (pv 0) (pa_cons pe_int pa_nil))) pe_int (nomark _)) (pw_and1 (pt_cmpR op_gt (pe_callB call_len_seq (by rfl) T.b_len PySem.boot_len (pa_cons (pv 5) pa_nil)) pe_int (nomark _)))))
          (pss_one (ps_set (i := 7) nd rfl (.inl rfl) (pe_lst (pa_cons (pe_call F1 hr1 (by rfl) m1 kp1 b1 .nil pass0 (pa_cons (pv 0) (pa_cons (pe_callB call_len_seq (by rfl) T.b_len PySem.boot_len (pa_cons (pv 5) pa_nil)) pa_nil))) pa_nil)))) pss_nil).imp
            (t' := fun De σ H => ∃ v1 v2 v3 v4 v6 a M us, σ = [some (.ref D), v1, v2, v3, v4, some (.ref M), v6, some (.ref a)] ∧ Dr D H ∧ M ≠ D ∧ H M = some (.lst us) ∧ ∀ a' H', Kp D H H' → Dr D H' → De.nx [some (.ref D), v1, v2, v3, v4, some (.ref M), v6, some (.ref a')] H') ?c3)
      (pss_one (ps_ret (pe_lst (pa_cons (pv 4) (pa_cons (pv 5) (pa_cons (pv 7) pa_nil)))))))))))), ?_⟩
    case c1 =>
      rintro De σ H ⟨wd, v3, v4, v5, v6, v7, rfl, hD, k⟩
      refine ⟨_, rfl, _, _, rfl, rfl, _, rfl, ?_⟩
      by_cases c : 3 ≤ wd
      · refine iteT' (decide_eq_true c) ⟨_, rfl, D, rfl, hD, fun L M s us rs H1 k1 d1 hM hL hLD hM1 R1 hF hs1 hs8 hl => ?_⟩
        refine ⟨_, rfl, L, _, 0, _, rfl, rfl, SqL.of hL, atI_nat (j := 0) rfl, ?_⟩
        refine ⟨_, rfl, L, _, 1, _, rfl, rfl, SqL.of hL, atI_nat (j := 1) rfl, ?_⟩
        exact k _ s M us rs H1 k1 d1 hM hs1 hs8 hM1 R1 hF (by omega)
      · refine iteF' (decide_eq_false c) ⟨(by show 10 ≤ sizeLine; decide), fun p hp => ⟨_, rfl, D, 10, rfl, hD.ex (Ex.new hp), by decide, fun q H1 h0 h1 k1 d1 => ?_⟩⟩
        have hp1 := k1 _ _ (Kp.ne hD hp) (upd_same (H := H) (a := p))
        obtain ⟨s, hs, hs1, hs8⟩ : ∃ s : Int, atI [V.int 3, .int 1, .int 2, .int 4, .int 5, .int 3, .int 4, .int 3, .int 6, .int 2] q = some (.int s) ∧ 1 ≤ s ∧ s ≤ 8 := by
          have hq : ∃ n : Nat, n < 10 ∧ q = (n : Int) := ⟨q.toNat, by omega, by omega⟩
          obtain ⟨n, hn, rfl⟩ := hq
          have z : ∀ n : Nat, n < 10 → ∃ s : Int, [V.int 3, .int 1, .int 2, .int 4, .int 5, .int 3, .int 4, .int 3, .int 6, .int 2][n]? = some (.int s) ∧ 1 ≤ s ∧ s ≤ 8 := fun n hn => by
            match n, hn with
            | 0, _ => exact ⟨3, rfl, by decide, by decide⟩
            | 1, _ => exact ⟨1, rfl, by decide, by decide⟩
            | 2, _ => exact ⟨2, rfl, by decide, by decide⟩
            | 3, _ => exact ⟨4, rfl, by decide, by decide⟩
            | 4, _ => exact ⟨5, rfl, by decide, by decide⟩
            | 5, _ => exact ⟨3, rfl, by decide, by decide⟩
            | 6, _ => exact ⟨4, rfl, by decide, by decide⟩
            | 7, _ => exact ⟨3, rfl, by decide, by decide⟩
            | 8, _ => exact ⟨6, rfl, by decide, by decide⟩
            | 9, _ => exact ⟨2, rfl, by decide, by decide⟩
          obtain ⟨s, a, b⟩ := z n hn
          exact ⟨s, atI_nat a, b⟩
        refine ⟨p, _, q, _, rfl, rfl, SqL.of hp1, hs, ?_⟩
        have k01 := (Kp.of (Ex.new (o := .lst [V.int 3, .int 1, .int 2, .int 4, .int 5, .int 3, .int 4, .int 3, .int 6, .int 2]) hp)).trans k1
        refine ⟨_, rfl, D, 12, rfl, d1, by decide, fun q2 H2 h2 h3 k2 d2 => ⟨rfl, _, rfl, ?_⟩⟩
        have k02 := k01.trans k2
        have fin : ∀ s' : Int, 1 ≤ s' → s' ≤ 8 → spChains ([V.ref D, .int s'] ++ []) H2 (fun v H' => De.nx [some (.ref D), some (.int 9), some (.int wd), v3, some (.int s'), some v, v6, v7] H') E := fun s' h4 h5 =>
          ⟨D, s', rfl, d2, h4, h5, fun R H3 hR L3 => by
            obtain ⟨us, rs, a1, a2, a3, a4⟩ := L3.li
            exact k _ s' R us rs H3 (k02.trans L3.kp) L3.dr (k02.fresh d2 hR) h4 h5 a1 a2 a3 a4⟩
        by_cases c2 : V.int q2 = V.int 11
        · exact iteT' (decide_eq_true c2) ⟨_, rfl, _, rfl, fin 8 (by decide) (by decide)⟩
        · exact iteF' (decide_eq_false c2) ⟨_, rfl, _, rfl, fin s hs1 hs8⟩
    case c2 =>
      rintro De σ H ⟨v0, v1, v2, v3, v4, v7, M, us, rs, tn, rfl, hM, R, hl, k⟩
      refine ⟨_, rfl, _, rfl, M, us, rfl, .inl (SqL.of hM), _, _, rfl, rfl, _, rfl, ?_⟩
      by_cases c : tn < (us.length : Int)
      · refine iteT' (decide_eq_true c) ⟨_, rfl, _, rfl, _, rfl, M, us, rfl, SqL.of hM, fun p hp => ?_⟩
        have e1 : Ex H (upd H p (.lst (cutV us (some tn) none))) := Ex.new hp
        refine ⟨_, rfl, _, rfl, _, rfl, M, us, rfl, SqL.of (e1 _ _ hM), fun p2 hp2 => ?_⟩
        have e2 := e1.trans (Ex.new (o := .lst (cutV us none (some tn))) hp2)
        obtain ⟨ra, Ra, ma, la⟩ := R.cut (some tn) none
        obtain ⟨rb, Rb, mb, lb⟩ := R.cut none (some tn)
        have l1 := Ra.len
        have l2 := Rb.len
        refine ⟨p, p2, _, _, rfl, rfl, Ex.new hp2 _ _ upd_same, upd_same, Nat.le_trans (by omega) (show 1000 ≤ sizeLine by decide), fun p3 hp3 => ?_⟩
        exact k p3 _ (ra ++ rb) _ (e2.trans (Ex.new hp3)) (.inr (Evl.fresh_back e2 hp3)) upd_same ((Ra.app Rb).ex (e2.trans (Ex.new hp3))) (fun r hr => by
          rcases List.mem_append.mp hr with hr | hr
          · exact ma r hr
          · exact mb r hr) (by rw [List.length_append]; omega)
      · exact iteF' (decide_eq_false c) (k M us rs H (Ex.refl H) (.inl rfl) hM R (fun r hr => hr) (by omega))
    case c3 =>
      rintro De σ H ⟨v1, v2, v3, v4, v6, a, M, us, rfl, hD, hMD, hM, k⟩
      refine ⟨_, rfl, D, 10, rfl, hD, by decide, fun q H1 h0 h1 k1 d1 => ⟨rfl, _, rfl, ?_⟩⟩
      have hM1 := k1 _ _ hMD hM
      by_cases c : V.int q = V.int 9
      · refine iteT' (decide_eq_true c) ⟨_, rfl, M, us, rfl, .inl (SqL.of hM1), _, _, rfl, rfl, _, rfl, ?_⟩
        by_cases c2 : (1 : Int) < (us.length : Int)
        · refine iteT' (decide_eq_true c2) ⟨_, rfl, _, rfl, M, us, rfl, .inl (SqL.of hM1), D, _, rfl, d1, by omega, fun q2 H2 h2 h3 k2 d2 => ⟨(by show 1 ≤ sizeLine; decide), fun p hp => ?_⟩⟩
          exact k p _ ((k1.trans k2).trans (Kp.of (Ex.new hp))) (d2.ex (Ex.new hp))
        · exact iteF' (decide_eq_false c2) (k a H1 k1 d1)
      · exact iteF' (decide_eq_false c) (k a H1 k1 d1)
    refine ⟨_, rfl, D, 5, rfl, hD, by decide, fun wd H1 h0 h1 k1 d1 => ⟨wd, _, _, _, _, _, rfl, d1, fun w3 s M us rs H2 k2 d2 hM hs1 hs8 hM2 R2 hF hl => ?_⟩⟩
    have k02 := k1.trans k2
    have hM0 := k1.fresh d1 hM
    have hMD : M ≠ D := Kp.ne hD hM0
    refine ⟨_, rfl, D, 9, rfl, d2, by decide, fun tn H3 h2 h3 k3 d3 => ⟨_, _, _, _, _, _, M, us, rs, tn, rfl, k3 _ _ hMD hM2, k3.runs d2 R2, hl, fun M' us' rs' H4 e4 hM' hM4 R4 hF' hl' => ?_⟩⟩
    have k04 := (k02.trans k3).trans (Kp.of e4)
    have d4 := d3.ex e4
    refine ⟨_, rfl, _, rfl, _, rfl, M', us', rfl, SqL.of hM4, fun p hp => ?_⟩
    have e5 : Ex H4 (upd H4 p (.lst (cutV us' none (some 9)))) := Ex.new hp
    obtain ⟨rc, Rc, mc, lc⟩ := R4.cut none (some 9)
    have l9 := cutV_nine us'
    have lc' := Rc.len
    have hp5 : upd H4 p (.lst (cutV us' none (some 9))) p = some (.lst (cutV us' none (some 9))) := upd_same
    have hp0 : H p = none := k04.fresh d4 hp
    have Rc5 := Rc.ex e5
    have k05 := k04.trans (Kp.of e5)
    have d5 := d4.ex e5
    generalize cutV us' none (some 9) = uc at *
    generalize upd H4 p (.lst uc) = H5 at *
    have hpD : p ≠ D := Kp.ne hD hp0
    refine ⟨(by show 0 ≤ sizeLine; decide), fun a ha => ⟨_, _, _, _, _, a, p, uc, rfl, d5.ex (Ex.new ha), hpD, Ex.new ha _ _ hp5, fun a' H6 k6 d6 => ?_⟩⟩
    have hp6 := k6 _ _ hpD (Ex.new ha _ _ hp5)
    have R6 := k6.runs (d5.ex (Ex.new ha)) (Rc5.ex (Ex.new ha))
    have k06 := (k05.trans (Kp.of (Ex.new ha))).trans k6
    refine ⟨_, rfl, _, rfl, _, rfl, (by show 3 ≤ sizeLine; decide), fun L hL => ?_⟩
    exact k L p a' s uc rc _ (k06.trans (Kp.of (Ex.new hL))) (d6.ex (Ex.new hL)) hp0 (k06.fresh d6 hL) upd_same (Ex.new hL _ _ hp6) (R6.ex (Ex.new hL)) (fun r hr => hF r (hF' r (mc r hr))) hs1 hs8 (by omega)
end
end K01


set_option Elab.async false
set_option linter.all false
set_option maxRecDepth 100000
set_option maxHeartbeats 4000000
namespace K01
open PySem PySem.Spec PyProof.Rows L2
open Evl (Ex)
section
variable {w : World} {K : PySem.W.Frag} {mg : Str → Option Value} {base : Heap}
def spKind : Sp := fun vs H Q _ => ∃ (D : Addr), vs = [.ref D] ∧ Dr D H ∧ ∀ kd H', (kd = ("join" : Str) ∨ kd = ("lap" : Str)) → Kp D H H' → Dr D H' → Q (.str kd) H'
theorem sc_kind : FnScope ["_law_draws_here"] ["_law_draws_here"] (defScope s__law_kind) := ⟨rfl, rfl, rfl, by decide +kernel, rfl, by decide +kernel, by decide +kernel⟩
theorem has_kind (T : Ctx K mg) : Has w K mg base CX0 "_law_kind" 2 ["_law_draws_here"] spKind := by
  obtain ⟨f1, fd1, m1, kp1, F1, b1⟩ := has_take (w := w) (base := base) T
  refine has_of (st := s__law_kind) (f := He.ga K "_law_kind") T.d__law_kind T.g__law_kind (fun _ _ _ _ _ _ us hl => match us, hl with | [_], _ => rfl) fun fd F => ?_
  refine ok0 F sc_kind (fun vs H Q E h => ?_) (fun cdv A outer s0 H vs Q E hr h => ?_)
  · obtain ⟨D, rfl, _⟩ := h
    rfl
  · obtain ⟨D, rfl, hD, k⟩ := h
    refine ⟨_, pss_cons (ps_if (pt_cmpR op_eq (pe_call F1 hr (by rfl) m1 kp1 b1 .nil pass0 (pa_cons (pv 0) (pa_cons pe_int pa_nil))) pe_int (nomark _)) (pss_one (ps_ret pe_str)) pss_nil) (pss_one (ps_ret pe_str)), ?_⟩
    refine ⟨_, rfl, D, 3, rfl, hD, by decide, fun q H1 h0 h1 k1 d1 => ⟨rfl, _, rfl, ?_⟩⟩
    by_cases c : V.int q = V.int 2
    · exact iteT' (decide_eq_true c) (k _ H1 (.inr rfl) k1 d1)
    · exact iteF' (decide_eq_false c) (k _ H1 (.inl rfl) k1 d1)
/-- the law makes a market -/
def spBuilt (K : PySem.W.Frag) : Sp := fun vs H Q _ => ∃ (kd : Str) (s : Int) (a g : Addr) (us : List V) (rs : List (Int × Int)) (ns : List Int), vs = [.str kd, .int s, .ref a, .ref g] ∧ (kd = "join" ∨ kd = "lap") ∧ MArg H s a g us rs ns ∧
  ∀ x H', Ex H H' → H x = none → Mkt K H' x kd s us rs ns → Q (.ref x) H'
theorem sc_built : FnScope ["_law_kind_here", "_law_size", "_law_runs", "_law_absent"] ["_law_kind_here", "_law_size", "_law_runs", "_law_absent"] (defScope s__law_built) := ⟨rfl, rfl, rfl, by decide +kernel, rfl, by decide +kernel, by decide +kernel⟩
theorem has_built (T : Ctx K mg) : Has w K mg base CX0 "_law_built" 8 ["_law_kind_here", "_law_size", "_law_runs", "_law_absent"] (spBuilt K) := by
  obtain ⟨fj, Fj, bj⟩ := ok_Join_init (w := w) (base := base) T
  obtain ⟨fl, Fl, bl⟩ := ok_Lap_init (w := w) (base := base) T
  refine has_of (st := s__law_built) (f := He.ga K "_law_built") T.d__law_built T.g__law_built (fun _ _ _ _ _ _ us hl => match us, hl with | [_, _, _, _], _ => rfl) fun fd F => ?_
  refine ok0 F sc_built (fun vs H Q E h => ?_) (fun cdv A outer s0 H vs Q E hr h => ?_)
  · obtain ⟨kd, s, a, g, us, rs, ns, rfl, _⟩ := h
    rfl
  · obtain ⟨kd, s, a, g, us, rs, ns, rfl, hkd, A0, k⟩ := h
    have hr6 := hr.mono (show 6 + 1 ≤ 7 by decide)
    refine ⟨_, pss_cons (ps_if (pt_cmpR op_eq (pv 0) pe_str (nomark _)) (pss_one (ps_ret (pe_makeK T.mk_Join Fj hr6 (by rfl) T.g_Join bj pass0 (pa_cons (pv 1) (pa_cons (pv 2) pa_nil)) (pk_cons (pv 3) pk_nil)))) pss_nil)
      (pss_one (ps_ret (pe_makeK T.mk_Lap Fl hr6 (by rfl) T.g_Lap bl pass0 (pa_cons (pv 1) (pa_cons (pv 2) pa_nil)) (pk_cons (pv 3) pk_nil)))), ?_⟩
    refine ⟨_, rfl, rfl, _, rfl, ?_⟩
    rcases hkd with rfl | rfl
    · exact iteT' (by simp) ⟨_, rfl, _, rfl, _, rfl, rfl, rfl, fun y dx hy hdx hne => made (.inl ⟨rfl, rfl⟩) A0 hy hdx hne fun H6 e6 hMk => k _ _ e6 hy hMk⟩
    · exact iteF ⟨_, rfl, _, rfl, _, rfl, rfl, rfl, fun y dx hy hdx hne => made (.inr ⟨rfl, rfl⟩) A0 hy hdx hne fun H6 e6 hMk => k _ _ e6 hy hMk⟩
/-- the lines of a market, by hand -/
def spLines : Sp := fun vs H Q _ => ∃ (kd : Str) (s : Int) (a g : Addr) (us : List V) (rs : List (Int × Int)) (ns : List Int), vs = [.str kd, .int s, .ref a, .ref g] ∧ (kd = "join" ∨ kd = "lap") ∧ MArg H s a g us rs ns ∧
  ∀ l H', Ex H H' → H l = none → H' l = some (.lst ((mLines kd s rs ns rs.length).map V.str)) → Q (.ref l) H'
theorem sc_lines : FnScope ["_law_kind_here", "_law_size", "_law_runs", "_law_absent", "_law_lines_here", "_law_part", "_law_line"] ["_law_kind_here", "_law_size", "_law_runs", "_law_absent"] (defScope s__law_lines) := ⟨rfl, rfl, rfl, by decide +kernel, rfl, by decide +kernel, by decide +kernel⟩
theorem has_lines (T : Ctx K mg) : Has w K mg base CX0 "_law_lines" 1 ["_law_kind_here", "_law_size", "_law_runs", "_law_absent"] spLines := by
  refine has_of (st := s__law_lines) (f := He.ga K "_law_lines") T.d__law_lines T.g__law_lines (fun _ _ _ _ _ _ us hl => match us, hl with | [_, _, _, _], _ => rfl) fun fd F => ?_
  refine ok0 F sc_lines (fun vs H Q E h => ?_) (fun cdv A outer s0 H vs Q E hr h => ?_)
  · obtain ⟨kd, s, a, g, us, rs, ns, rfl, _⟩ := h
    rfl
  · obtain ⟨kd, s, a, g, us, rs, ns, rfl, hkd, A0, k⟩ := h
    have nd := sc_lines.nd
    refine ⟨_, pss_cons (ps_set (i := 4) nd rfl (.inl rfl) (pe_lst (pa_cons (pe_op op_add_str (pe_op op_add_str (pv 0) pe_str) (pe_callTy call_str_int (by rfl) T.b_str (by decide +kernel) (pa_cons (pv 1) pa_nil))) pa_nil)))
      (pss_cons (ps_for PassesOwn.never rfl (pi_range1 (by rfl) T.b_range (pa_cons (pe_callB call_len_seq (by rfl) T.b_len PySem.boot_len (pa_cons (pv 2) pa_nil)) pa_nil)) (pg_name (i := 5) nd rfl (.inl rfl))
        (pss_cons (ps_set (i := 6) nd rfl (.inl rfl) (pe_op op_add_str (pe_op op_add_str (pe_callTy call_str_int (by rfl) T.b_str (by decide +kernel) (pa_cons (pe_ix ix_tup (pe_ix ix_list (pv 2) (pv 5) (fun _ _ => rfl)) pe_int (fun _ _ => rfl)) pa_nil)) pe_str) (pe_callTy call_str_int (by rfl) T.b_str (by decide +kernel) (pa_cons (pe_ix ix_tup (pe_ix ix_list (pv 2) (pv 5) (fun _ _ => rfl)) pe_int (fun _ _ => rfl)) pa_nil))))
        (pss_cons (ps_if (pt_cmpR op_in_seq (pv 5) (pv 3) (by rfl)) (pss_one (ps_set (i := 6) nd rfl (.inl rfl) (pe_op op_add_str (pv 6) pe_str))) pss_nil)
        (pss_one (ps_expr (pe_bm PySem.F.plainAttrs_list PySem.F.slot_list_append PySem.F.type_list_append mt_append (pv 4) (pa_cons (pv 6) pa_nil)))))))
      (pss_one (ps_ret (pv 4)))), ?_⟩
    have hs50 : 0 ≤ s ∧ s ≤ 50 := by have := A0.size; omega
    have hkl : kd.length ≤ 4 := by rcases hkd with rfl | rfl <;> decide +kernel
    have hsl := sI_len' hs50
    have b1 : (" " : Str).length = 1 := by decide +kernel
    have b5 : (" gone" : Str).length = 5 := by decide +kernel
    refine ⟨_, rfl, _, _, rfl, rfl, sz1000 (by omega), _, rfl, s, rfl, log_small hs50, _, _, rfl, rfl, sz1000 (by rw [len_app]; show kd.length + (" " : Str).length + (sI s).length ≤ 1000; omega), (by show 1 ≤ sizeLine; decide), fun p hp => ?_⟩
    have e1 : Ex H (upd H p (.lst [V.str (kd ++ " " ++ sI s)])) := Ex.new hp
    have hp1 : upd H p (.lst [V.str (kd ++ " " ++ sI s)]) p = some (.lst [V.str (kd ++ " " ++ sI s)]) := upd_same
    have few := A0.few
    have hlen := A0.runs.len
    show tSeq _ _ _ _ (upd H p (.lst [V.str (kd ++ " " ++ sI s)]))
    generalize upd H p (.lst [V.str (kd ++ " " ++ sI s)]) = H1 at *
    refine ⟨_, rfl, a, us, rfl, .inl (SqL.of (e1 _ _ A0.ha)), _, rfl, ?_, ?_, for_it walk_range (fun i σ H' => ∃ v5 v6 : Option V, σ = [some (.str kd), some (.int s), some (.ref a), some (.ref g), some (.ref p), v5, v6] ∧ Ex H H' ∧ H' p = some (.lst ((mLines kd s rs ns i).map V.str))) ⟨_, _, rfl, e1, hp1⟩ (fun _ _ _ _ _ => trivial) ?_ ?_⟩
    · omega
    · omega
    · rintro i v σ H2 H3 hi ⟨v5, v6, rfl, e2, hp2⟩ ⟨rfl, rfl⟩
      have hil : i < us.length := by omega
      have hir : i < rs.length := by omega
      obtain ⟨t, ht, htt⟩ := (A0.runs.ex e2).at_ i _ (List.getElem?_eq_getElem hir)
      have hf := A0.fits _ (List.getElem_mem hir)
      have epl : partLine rs ns i = lineOf rs[i] (decide ((i : Int) ∈ ns)) := by
        unfold partLine
        rw [List.getD_eq_getElem?_getD, List.getElem?_eq_getElem hir]
        rfl
      generalize rs[i] = r at *
      have ez : (0 + (i : Nat) : Int) = (i : Int) := Int.zero_add _
      have hix : atI us (0 + (i : Nat)) = some (.ref t) := by
        rw [ez]
        exact atI_nat ht
      have hr1 : 0 ≤ r.1 ∧ r.1 ≤ 50 := ⟨hf.1, by have := hf.2.1; have := hf.2.2; omega⟩
      have hr2 : 0 ≤ r.2 ∧ r.2 ≤ 50 := ⟨by have := hf.1; have := hf.2.1; omega, by have := hf.2.2; omega⟩
      have l1 := sI_len' hr1
      have l2 := sI_len' hr2
      have ha2 := e2 _ _ A0.ha
      refine ⟨_, rfl, _, rfl, a, us, _, _, rfl, rfl, SqL.of ha2, hix, t, _, 0, _, rfl, rfl, SqT.of htt, atI_nat (j := 0) rfl, r.1, rfl, log_small hr1, _, _, rfl, rfl, sz1000 (by show (sI r.1).length + (" " : Str).length ≤ 1000; omega), ?_⟩
      refine ⟨_, rfl, _, rfl, a, us, _, _, rfl, rfl, SqL.of ha2, hix, t, _, 1, _, rfl, rfl, SqT.of htt, atI_nat (j := 1) rfl, r.2, rfl, log_small hr2, _, _, rfl, rfl, sz1000 (by rw [len_app]; show (sI r.1).length + (" " : Str).length + (sI r.2).length ≤ 1000; omega), ?_⟩
      refine ⟨_, rfl, _, rfl, g, _, rfl, .inl (SqL.of (e2 _ _ A0.hg)), rfl, flat_ints _, _, rfl, ?_⟩
      rw [inV_ints, ez]
      have hml : ((mLines kd s rs ns i).map V.str).length < sizeLine := by
        rw [List.length_map]
        unfold mLines
        rw [List.length_cons, List.length_map, List.length_range]
        exact small1000 (by omega)
      cases hg : decide ((i : Int) ∈ ns) with
      | false =>
        refine iteF ⟨_, rfl, .inl ⟨rfl, _, SqL.of hp2⟩, _, rfl, p, _, _, rfl, rfl, hp2, hml, _, _, rfl, Evl.Ex.mut e2 hp, ?_⟩
        rw [upd_same, mLines_succ, List.map_append, epl, hg]
        have : lineOf r false = sI r.1 ++ " " ++ sI r.2 := by
          unfold lineOf
          rw [if_neg (by simp), emp_eq, app_emp]
        rw [this]
        rfl
      | true =>
        refine iteT ⟨_, rfl, _, _, rfl, rfl, sz1000 (by rw [len_app, len_app]; show (sI r.1).length + (" " : Str).length + (sI r.2).length + (" gone" : Str).length ≤ 1000; omega), ?_⟩
        refine ⟨_, rfl, .inl ⟨rfl, _, SqL.of hp2⟩, _, rfl, p, _, _, rfl, rfl, hp2, hml, _, _, rfl, Evl.Ex.mut e2 hp, ?_⟩
        rw [upd_same, mLines_succ, List.map_append, epl, hg]
        rfl
    · rintro σ H2 ⟨v5, v6, rfl, e2, hp2⟩
      refine ⟨_, rfl, k _ _ e2 hp ?_⟩
      rw [hp2]
      have : (us.length : Int).toNat = rs.length := by omega
      rw [this]
/-- the lines with a LF behind each -/
def spJoined : Sp := fun vs H Q _ => ∃ (l : Addr) (L : List Str), vs = [.ref l] ∧ H l = some (.lst (L.map V.str)) ∧ L.length ≤ 100 ∧ (∀ x ∈ L, x.length ≤ 100) ∧ ∀ H', Ex H H' → Q (.str (textOf L)) H'
theorem sc_joined : FnScope ["_law_lines_here", "_law_line"] ["_law_lines_here"] (defScope s__law_joined) := ⟨rfl, rfl, rfl, by decide +kernel, rfl, by decide +kernel, by decide +kernel⟩
theorem has_joined (T : Ctx K mg) : Has w K mg base CX0 "_law_joined" 1 ["_law_lines_here"] spJoined := by
  refine has_of (st := s__law_joined) (f := He.ga K "_law_joined") T.d__law_joined T.g__law_joined (fun _ _ _ _ _ _ us hl => match us, hl with | [_], _ => rfl) fun fd F => ?_
  refine ok0 F sc_joined (fun vs H Q E h => ?_) (fun cdv A outer s0 H vs Q E hr h => ?_)
  · obtain ⟨l, L, rfl, _⟩ := h
    rfl
  · obtain ⟨l, L, rfl, hl, hL, hx, k⟩ := h
    have nd := sc_joined.nd
    refine ⟨_, pss_one (ps_ret (pe_join pe_str (pe_lc (own := [("_law_line", 1)]) (g := gName 1) (tt := tYes) rfl nd (pi_list (pv 0)) (blkOk_by (own := [("_law_line", 1)]) (N := ["_law_lines_here", "_law_line"]) (sc := defScope s__law_joined) (by decide +kernel)) (fun _ _ _ _ _ => pg_name (i := 1) nd rfl (Or.inl rfl)) (fun _ _ _ _ _ => pts_nil)
      (fun _ _ _ _ _ => pe_op op_add_str (pv 1) pe_str)))), ?_⟩
    have b2 : ("\n" : Str).length = 1 := by decide +kernel
    refine ⟨⟨_, rfl⟩, _, rfl, l, rfl, ⟨_, SqL.of hl⟩, fun D hD => lc_it walk_list (fun i H' => Ex H H' ∧ H' D = some (.lst ((L.take i).map fun l : Str => V.str (l ++ "\n")))) ⟨Ex.new hD, upd_same⟩ (fun i H' _ q => SqL.of (q.1 _ _ hl)) ?_ ?_⟩
    · rintro i x H2 H3 hi ⟨e2, hD2⟩ ⟨rfl, hx1⟩
      have hx2 : (L.map V.str)[i]? = some x := hx1
      rw [List.getElem?_map] at hx2
      obtain ⟨m, hm, rfl⟩ : ∃ m, L[i]? = some m ∧ x = V.str m := by
        cases c : L[i]? with
        | none => rw [c] at hx2; cases hx2
        | some m => rw [c] at hx2; cases hx2; exact ⟨m, rfl, rfl⟩
      have hml := hx _ (List.mem_of_getElem? hm)
      refine ⟨rfl, tYesI ⟨_, rfl, _, _, rfl, rfl, sz1000 (by omega), _, hD2, ?_, Evl.Ex.mut e2 hD, ?_⟩⟩
      · rw [List.length_map, List.length_take]
        exact small1000 (by omega)
      · rw [upd_same, List.take_add_one, hm]
        simp
    · rintro H2 ⟨e2, hD2⟩
      rw [List.length_map, List.take_length] at hD2
      have hmap : (L.map fun l : Str => V.str (l ++ "\n")) = (L.map (fun l : Str => l ++ "\n")).map V.str := by rw [List.map_map]; rfl
      rw [hmap] at hD2
      refine ⟨_, D, _, rfl, rfl, .inl (SqL.of hD2), ?_, ?_⟩
      · have := sum_len (L.map (fun l : Str => l ++ "\n")) 101 (fun l hl => by
          obtain ⟨m, hm, rfl⟩ := List.mem_map.mp hl
          rw [len_app]
          have := hx m hm
          omega)
        rw [List.length_map] at this ⊢
        have b3 : ("" : Str).length = 0 := by decide +kernel
        rw [b3]
        omega
      · rw [TL.join_eq]
        exact k _ e2
end
end K01


set_option Elab.async false
set_option linter.all false
set_option maxRecDepth 100000
set_option maxHeartbeats 4000000
/-! isinstance of a caught error that has a dict of its own: the library asks for none -/
namespace K01
open PySem PySem.Spec PySem.Calls PyProof.Rows L2
section
variable {pr : Program} {wd : World} {Ar : Around} {Er : Value → Shared → Prop} {F : PySem.W.Frag} {e T : Addr} {oe : Obj} {dct : Option Obj}
/-- the class's own «__class__», whatever the error's dict holds -/
theorem class_found (Z : ExcC F T) : PySem.W.findObj F T dct "__class__" = some (.bind (.builtin "getset_descriptor.__get__") (.builtin "object.__class__")) := by
  obtain ⟨cd, isC, _⟩ := PySem.W.any_some Z.hd
  unfold PySem.W.findObj
  rw [isC, Option.bind_some, Z.ha, Option.bind_some] <;> simp [Z.hn, Z.ht]
/-- e.__class__ of such an error -/
theorem class_asked (Z : ExcC F T) {st : Shared} {G : Option Value → Shared → Prop} (XI : F.In st.heap) (at_ : PySem.W.InstAt st.heap e oe T dct) (fin : G (some (.ref T)) { st with toks := st.toks + 1 }) :
    wpAny (model pr wd) Ar (getAttr? (.ref e) "__class__") G Er st := by
  obtain ⟨hh, gg, dd, tt, oo⟩ := st
  have isT := at_.type (M := model pr wd)
  have own := PySem.W.looks_find (M := model pr wd) XI at_ (class_found Z)
  have noB : (Value.builtin "BaseException.__getattribute__" == Value.builtin "object.__getattribute__") = false := by decide +kernel
  unfold getAttr? getAttrBy? getAttrBy
  refine wpAny_bind (wpAny_mkText (wpAny_bind (wpAny_attempt (wpAny_holding (wpAny_bind (isT.at (wpAny_bind ((PySem.W.looks_findIn (M := model pr wd) XI Z.hg).at ?_))))))))
  show wpAny _ _ (ite ((onTheHeap (Value.ref T) && Value.builtin "BaseException.__getattribute__" == Value.builtin "object.__getattribute__") = true) _ _) _ _ _
  rw [show (onTheHeap (Value.ref T) && Value.builtin "BaseException.__getattribute__" == Value.builtin "object.__getattribute__") = false from by rw [noB]; rfl, if_neg Bool.false_ne_true]
  unfold getAttrByItsOwn hookBefore
  refine wpAny_bind (by
    rw [if_pos (show onTheHeap (Value.ref T) = true from rfl)]
    exact (PySem.W.looks_findIn (M := model pr wd) XI Z.hk).at (wpAny_bind (wpAny_attempt (wpAny_holding (by
      unfold callGetattribute
      rw [show (false && onTheHeap (Value.builtin "BaseException.__getattribute__")) = false from rfl, if_neg Bool.false_ne_true]
      unfold boundAndCalled
      rw [PySem.F.excAttr_ValueError.ga.bind (.ref e)]
      refine wpAny_bind (wpAny_pure (wpAny_call (codeAny_call_builtin PySem.F.excAttr_ValueError.ga.plain PySem.F.entry_bexc_ga ?_)))
      refine @PySem.W.check_slot (model pr wd) _ _ ⟨hh, gg, dd, tt + 1, oo⟩ "BaseException.__getattribute__" "BaseException" "__getattribute__" (.ref e) [.str "__class__" tt] [] _ (by decide +kernel) (by decide +kernel) (isT.andThen (PySem.W.looks_subIn XI Z.hs)) (PySem.F.args_bexc_ga (.ref e) (.str "__class__" tt)) ?_
      unfold Builtin.«object.__getattribute__»
      refine wpAny_bind (wpAny_of_eq (a := ((Value.ref e : Value), [Value.str "__class__" tt])) (by first | rfl | (simp only [slotArgs] <;> rfl)) (wpAny_bind (wpAny_pure (wpAny_bind (isT.at (wpAny_bind (own.at ?_)))))))
      refine wpAny_bind (wpAny_holding (wpAny_call (PySem.W.class_get (s := ⟨hh, gg, dd, tt + 1, oo⟩) (ox := oe) (od := dct) XI at_ Z.hm (wpAny_pure ?_))))
      show wpAny _ _ (handedOut (.ref T)) _ _ _
      rw [PySem.W.handedOut_of (v := .ref T) rfl]
      first
        | exact wpAny_pure (wpAny_pure fin)
        | exact wpAny_pure (wpAny_bind (wpAny_pure (wpAny_pure fin)))
        | exact wpAny_pure fin)))))
theorem kit_err (Z : ExcC F T) : PySem.W.KitX F (.ref e) (.ref T) (fun h => PySem.W.InstAt h e oe T dct) := by
  obtain ⟨cd, isC, _⟩ := PySem.W.any_some Z.hd
  obtain ⟨ob, hob, hcl⟩ : ∃ ob, F.lookup T = some ob ∧ ob.data = .cls cd := by
    unfold PySem.W.clsIn at isC
    split at isC
    · rename_i q
      cases isC
      exact ⟨_, q, rfl⟩
    · cases isC
  obtain ⟨oc, od', odt, osl⟩ := ob
  cases hcl
  refine ⟨fun _ _ _ I => I.type, fun _ _ X _ A' Q' E' s' k q => ?_, fun h tp d its n sl X htp => Bool.eq_false_iff.mpr fun q => ?_, fun X I k => class_asked Z X I k⟩
  · unfold isType loadHead
    exact wpAny_bind (wpAny_loadPart (k _ _ (X _ _ hob)) (wpAny_pure q))
  · obtain rfl : T = tp := Value.ref.inj (beq_iff_eq.mp q)
    cases (X _ _ hob).symm.trans htp
end
end K01
namespace K01
open PySem PySem.Spec PyProof.Rows L2
open Evl (Ex)
/-- isinstance(e, c), e the exception that the suite holds, with a dict of its own -/
def rIsO (K : PySem.W.Frag) (D a : Addr) (cls : Value) (d : Option Addr) : List V → Hp → VK → Prop := fun xs H Q => ∃ (c : V) (cv : Value) (b : Bool) (dd : Addr) (fs : List (Str × V)), xs = [.ref a, c] ∧ cls = .ref D ∧ d = some dd ∧ H dd = some (.xd fs) ∧ (∀ u, RelV c u → u = cv) ∧ PySem.W.kitOne K (.ref D) cv = some b ∧ Q (.bl b) H
theorem call_isO {X : Cx} {a D : Addr} {oe : Obj} {cls : Value} {d : Option Addr} {pn : List (Addr × Obj)} (C : ExcC X.K D) (hz : Zc cls d oe) (hf : ∃ vs, oe.data = .fields vs) : CallR (X.suite a ((a, oe) :: pn)) (.builtin "isinstance") (rIsO X.K D a cls d) := by
  intro pins s σ H xs us Q I r h
  obtain ⟨c, cv, b, dd, fs, rfl, rfl, rfl, ea, hcv, e, q⟩ := h
  cases r with
  | cons rx rr =>
    cases rr with
    | cons rt rr =>
      cases rr
      cases rx
      have ec := hcv _ rt
      subst ec
      obtain ⟨hget, _⟩ := I.pin (a, oe) (List.mem_append.mpr (.inl List.mem_cons_self))
      obtain ⟨vs, hv⟩ := hf
      have hx : ObjOk X.prog X.w H s.heap dd (.xd fs) := I.hok dd _ ea
      obtain ⟨mA, hns, hr⟩ := hx
      obtain ⟨od, ho, hl⟩ := lookIn_ns hns
      have J : PySem.W.InstAt s.heap a oe D (some od) := ⟨hget, hz.1, by unfold PySem.W.notCls; rw [hv] <;> rfl, by rw [hz.2]; exact ho⟩
      exact PySem.W.kia_one (kit_err C) I.kIn J e (fun z => nomatch z) fun tk => ⟨.bl b, H, I.kept (t' := tk) fun _ _ z => z, rfl, q⟩
section
variable {w : World} {K : PySem.W.Frag} {mg : Str → Option Value} {base : Heap}
theorem Ctx.ec (T : Ctx K mg) : ExcC K (He.ga K "BadText") := ⟨T.xga_BadText, T.xgg_BadText, T.xs_BadText, T.xd_BadText, T.xcc_BadText, T.gs, T.tk, T.xo_BadText⟩
theorem Ctx.xf (T : Ctx K mg) : XfC K (He.ga K "BadText") := ⟨T.xga_BadText, T.xgg_BadText, T.xs_BadText, T.xd_BadText⟩
/-- what is refused, and at which line -/
def Wrong (H : Hp) (v : V) (n : Int) : Prop := (NoText H v ∧ n = 0) ∨ ∃ x : Str, v = .str x ∧ x.length ≤ 1000 ∧ (Txt.split x "\n").length ≤ 50 ∧ (∀ l ∈ Txt.split x "\n", l.length ≤ 100) ∧ Out (Txt.split x "\n") (.inl n)
theorem NoText.ex {H H1 : Hp} {v : V} (h : NoText H v) (e : Ex H H1) : NoText H1 v := by
  cases v with
  | ref a =>
    obtain ⟨xs, q⟩ := h
    exact ⟨xs, e _ _ q⟩
  | _ => exact h
theorem from_wrong {H H1 : Hp} {v : V} {n : Int} {Q : VK} {E : XK} (hW : Wrong H v n) (e : Ex H H1) (hb : Bad K H1 E n) : spFrom K [v] H1 Q E := by
  rcases hW with ⟨hv, rfl⟩ | ⟨x, rfl, hx, hw1, hw2, hO⟩
  · exact .inl ⟨v, rfl, hv.ex e, hb⟩
  · exact .inr ⟨x, .inl n, rfl, hx, hw1, hw2, hO, (fun m z => by cases z; exact hb), fun _ _ _ z => by cases z⟩
def spRefused : Sp := fun vs H Q _ => ∃ (v : V) (n : Int), vs = [v] ∧ Wrong H v n ∧ ∀ H' p, Ex H H' → H p = none → H' p = some (.lst [.int n, .bl true, .bl false]) → Q (.ref p) H'
theorem sc_refused : FnScope ["_law_text", "_law_told", "error"] ["_law_text"] (defScope s__law_refused) := ⟨rfl, rfl, rfl, by decide +kernel, rfl, by decide +kernel, by decide +kernel⟩
theorem okZ {x : Str} {st : Stmt} {f : Addr} {fd : FuncData} {N ps : List Str} {k : Nat} {sp : Sp} {dvs : List V} {kws : List (Str × V)} {qual : Str} (F : FunD K x qual (defArgs st) (defBody st) (defScope st) dvs kws f fd) (S : FnScope N ps (defScope st)) (len : ∀ vs H Q E, sp vs H Q E → vs.length = ps.length)
    (hbody : ∀ (cdv : Value) (A : Around) (outer : List Env) (s : Shared) (H : Hp) (vs : List V) (Q : VK) (E : XK), Room k (A.deeper (envOfC qual (defScope st) s.heap.objs.size f cdv)) → sp vs H Q E →
      ∃ t, PSs (cxOf CX0 PP w K mg base N qual (defScope st) f cdv A outer s H E) (defBody st) t ∧ t { nx := fun _ H' => Q .non H', rt := Q } (start N vs) H) : FnOk PP w K mg base CX0 (k + 1) f fd ps sp := F.ok S len hbody
theorem has_refused (T : Ctx K mg) : Has w K mg base CX0 "_law_refused" 9 ["_law_text"] spRefused := by
  obtain ⟨f1, fd1, m1, kp1, F1, b1⟩ := has_market_from (w := w) (base := base) T
  refine has_of (st := s__law_refused) (f := He.ga K "_law_refused") T.d__law_refused T.g__law_refused (fun _ _ _ _ _ _ us hl => match us, hl with | [_], _ => rfl) fun fd F => ?_
  refine okZ F sc_refused (fun vs H Q E h => ?_) (fun cdv A outer s0 H vs Q E hr h => ?_)
  · obtain ⟨v, n, rfl, _⟩ := h
    rfl
  · obtain ⟨v, n, rfl, hW, k⟩ := h
    have nd := sc_refused.nd
    refine ⟨_, pss_cons (ps_set (i := 1) nd rfl (.inl rfl) (pe_lst (pa_cons (pe_un un_neg pe_int) (pa_cons pe_bl (pa_cons pe_bl pa_nil)))))
      (pss_cons (ps_try_as (i := 2) (c := .ref (He.ga K "BadText")) (Wout := fun _ _ _ _ => False) rfl rfl nd rfl rfl ⟨by rfl, by decide, .inl T.g_BadText⟩ takes0
        (fun W pn xe tk hp => pss_one (ps_expr (pe_callS F1 (hr.mono (show 8 ≤ 8 by decide)) (by rfl) m1 kp1 b1 (fun σ => passAt tk σ) (pa_cons (pv 0) pa_nil))))
        (fun a oe cls d pn hz hf => pss_one (ps_set (i := 1) nd rfl (.inl rfl) (pe_lst (pa_cons (pe_xf T.xf T.xnn_BadText hz hf (pv 2)) (pa_cons (pe_callB (call_isO T.ec hz hf) (by rfl) T.b_isinstance (by decide +kernel) (pa_cons (pv 2) (pa_cons (pe_glob (v := .ref (He.ga K "PartsError")) rfl T.g_PartsError rfl) pa_nil)))
          (pa_cons (pe_callB (call_isO T.ec hz hf) (by rfl) T.b_isinstance (by decide +kernel) (pa_cons (pv 2) (pa_cons (pe_glob (v := .ref (He.ga K "BadRun")) rfl T.g_BadRun rfl) pa_nil))) pa_nil)))))))
      (pss_one (ps_ret (pv 1)))), ?_⟩
    refine ⟨_, rfl, (by show 3 ≤ sizeLine; decide), fun p hp => ?_⟩
    have e1 := Ex.new (o := .lst [V.int (-7), V.bl false, V.bl false]) hp
    refine ⟨_, rfl, ?_⟩
    simp only [tNil]
    refine from_wrong hW (Ex.new hp) ?_
    rintro H' d e' hd hq
    refine ⟨true, T.te_BadText, fun _ a0 ha0 => ?_, fun q => Bool.noConfusion q⟩
    refine ⟨_, rfl, rfl, rfl, d, _, .int n, rfl, hq, rfl, ?_⟩
    refine ⟨_, rfl, _, _, true, d, _, rfl, rfl, rfl, hq, fun u r => r, T.kp, ?_⟩
    refine ⟨_, rfl, _, _, false, d, _, rfl, rfl, rfl, hq, fun u r => r, T.kr, ?_⟩
    refine ⟨(by show 3 ≤ sizeLine; decide), fun p2 hp2 => ⟨_, rfl, ?_⟩⟩
    exact k _ p2 ((e1.trans e').trans (Ex.new hp2)) (Evl.fresh_back (e1.trans e') hp2) upd_same
end
end K01


set_option Elab.async false
set_option linter.all false
set_option maxRecDepth 100000
set_option maxHeartbeats 4000000
namespace K01
open PySem PySem.Spec PyProof.Rows L2
open Evl (Ex)
def partMenu (s : Int) : List Str := ["0 " ++ sI (s + 1), "1 0", "0 0", "0", "01 2", "0  1", " 0 1", "0 1 ", "00 1", "0 01", "0 1 lost", "0 1 gone ", "0 1  gone", "0 1 gone gone", "a 1", "-0 1", "0 1 2"]
def headMenu (k : Str) (s : Int) : List Str := [k ++ "s " ++ sI s, k ++ "  " ++ sI s, k ++ " 0" ++ sI s, k ++ " 0", k ++ " 31", k, " " ++ k ++ " " ++ sI s, k ++ " " ++ sI s ++ " ", k ++ " -" ++ sI s, "", "joinlap " ++ sI s, k ++ " " ++ sI s ++ " gone", k ++ " +" ++ sI s]
/-- no LF, few signs -/
def plainB (w : Str) : Bool := decide (w.length ≤ 30) && !(decide (10 ∈ tl w)) && decide (∀ x ∈ tl w, x < 256)
theorem part_menu : ∀ s : Nat, s < 26 → (partMenu (s : Int)).all (fun w => decide (partW s w = some none ∧ w ≠ "") && plainB w) = true := by decide +kernel
theorem head_menu_j : ∀ s : Nat, s < 26 → (headMenu "join" (s : Int)).all (fun w => decide (rowW w = some none) && plainB w) = true := by decide +kernel
theorem head_menu_l : ∀ s : Nat, s < 26 → (headMenu "lap" (s : Int)).all (fun w => decide (rowW w = some none) && plainB w) = true := by decide +kernel
theorem atI_map {L : List Str} {r : Int} (h0 : 0 ≤ r) (h1 : r < (L.length : Int)) : ∃ x, x ∈ L ∧ atI (L.map V.str) r = some (.str x) := by
  obtain ⟨n, rfl⟩ : ∃ n : Nat, r = (n : Int) := ⟨r.toNat, by omega⟩
  have hn : n < L.length := by omega
  exact ⟨L[n], List.getElem_mem hn, atI_nat (by rw [List.getElem?_map, List.getElem?_eq_getElem hn]; rfl)⟩
theorem part_wrong {s : Int} (h : 0 ≤ s ∧ s ≤ 25) {x : Str} (hx : x ∈ partMenu s) : (partW s x = some none ∧ x ≠ "") ∧ plainB x = true := by
  have := part_menu s.toNat (by omega)
  rw [Int.toNat_of_nonneg h.1] at this
  have := List.all_eq_true.mp this x hx
  rw [Bool.and_eq_true, decide_eq_true_iff] at this
  exact this
theorem head_wrong {k : Str} {s : Int} (hk : k = "join" ∨ k = "lap") (h : 0 ≤ s ∧ s ≤ 25) {x : Str} (hx : x ∈ headMenu k s) : rowW x = some none ∧ plainB x = true := by
  rcases hk with rfl | rfl
  · have := head_menu_j s.toNat (by omega)
    rw [Int.toNat_of_nonneg h.1] at this
    have := List.all_eq_true.mp this x hx
    rw [Bool.and_eq_true, decide_eq_true_iff] at this
    exact this
  · have := head_menu_l s.toNat (by omega)
    rw [Int.toNat_of_nonneg h.1] at this
    have := List.all_eq_true.mp this x hx
    rw [Bool.and_eq_true, decide_eq_true_iff] at this
    exact this
section
variable {w : World} {K : PySem.W.Frag} {mg : Str → Option Value} {base : Heap}
def spWPart : Sp := fun vs H Q _ => ∃ (D : Addr) (s : Int), vs = [.ref D, .int s] ∧ Dr D H ∧ 0 ≤ s ∧ s ≤ 25 ∧ ∀ x H', partW s x = some none → x ≠ "" → plainB x = true → Kp D H H' → Dr D H' → Q (.str x) H'
theorem sc_wpart : FnScope ["_law_draws_here", "_law_size", "_law_menu"] ["_law_draws_here", "_law_size"] (defScope s__law_wrong_part) := ⟨rfl, rfl, rfl, by decide +kernel, rfl, by decide +kernel, by decide +kernel⟩
theorem has_wpart (T : Ctx K mg) : Has w K mg base CX0 "_law_wrong_part" 2 ["_law_draws_here", "_law_size"] spWPart := by
  obtain ⟨f1, fd1, m1, kp1, F1, b1⟩ := has_take (w := w) (base := base) T
  refine has_of (st := s__law_wrong_part) (f := He.ga K "_law_wrong_part") T.d__law_wrong_part T.g__law_wrong_part (fun _ _ _ _ _ _ us hl => match us, hl with | [_, _], _ => rfl) fun fd F => ?_
  refine ok0 F sc_wpart (fun vs H Q E h => ?_) (fun cdv A outer s0 H vs Q E hr h => ?_)
  · obtain ⟨D, s, rfl, _⟩ := h
    rfl
  · obtain ⟨D, s, rfl, hD, hs0, hs1, k⟩ := h
    have nd := sc_wpart.nd
    refine ⟨_, pss_cons (ps_set (i := 2) nd rfl (.inl rfl) (pe_lst (pa_cons (pe_op op_add_str pe_str (pe_callTy call_str_int (by rfl) T.b_str (by decide +kernel) (pa_cons (pe_op op_add (pv 1) pe_int) pa_nil))) (pa_cons pe_str (pa_cons pe_str (pa_cons pe_str (pa_cons pe_str (pa_cons pe_str (pa_cons pe_str (pa_cons pe_str (pa_cons pe_str (pa_cons pe_str pa_nil))))))))))))
      (pss_cons (ps_set (i := 2) nd rfl (.inl rfl) (pe_op op_cat (pv 2) (pe_lst (pa_cons pe_str (pa_cons pe_str (pa_cons pe_str (pa_cons pe_str (pa_cons pe_str (pa_cons pe_str (pa_cons pe_str pa_nil))))))))))
      (pss_one (ps_ret (pe_ix ix_list (pv 2) (pe_call F1 hr (by rfl) m1 kp1 b1 .nil pass0 (pa_cons (pv 0) (pa_cons pe_int pa_nil))) (fun _ _ => rfl))))), ?_⟩
    have l2 := sI_len' (n := s + 1) (by omega)
    have l3 : ("0 " : Str).length = 2 := by decide +kernel
    refine ⟨_, rfl, _, _, rfl, rfl, s + 1, rfl, log_small (by omega), _, _, rfl, rfl, sz1000 (by show ("0 " : Str).length + (sI (s + 1)).length ≤ 1000; omega), (by show 10 ≤ sizeLine; decide), fun p hp => ?_⟩
    refine ⟨_, rfl, (by show 7 ≤ sizeLine; decide), fun p2 hp2 => ⟨p, p2, _, _, rfl, rfl, Ex.new hp2 _ _ upd_same, upd_same, (by show 17 ≤ sizeLine; decide), fun p3 hp3 => ?_⟩⟩
    have e3 := ((Ex.new (o := .lst ((partMenu s).take 10 |>.map V.str)) hp).trans (Ex.new (o := .lst ((partMenu s).drop 10 |>.map V.str)) hp2)).trans (Ex.new (o := .lst ((partMenu s).map V.str)) hp3)
    refine ⟨_, rfl, _, rfl, D, 17, rfl, hD.ex e3, by decide, fun r H4 h0 h1 k4 d4 => ?_⟩
    have hp30 : H p3 = none := Evl.fresh_back ((Ex.new (o := .lst ((partMenu s).take 10 |>.map V.str)) hp).trans (Ex.new (o := .lst ((partMenu s).drop 10 |>.map V.str)) hp2)) hp3
    obtain ⟨x, hx, hat⟩ := atI_map (L := partMenu s) h0 h1
    have hw := part_wrong ⟨hs0, hs1⟩ hx
    refine ⟨p3, (partMenu s).map V.str, r, _, rfl, rfl, SqL.of (k4 _ _ (Kp.ne hD hp30) upd_same), hat, k x H4 hw.1.1 hw.1.2 hw.2 ((Kp.of e3).trans k4) d4⟩
def spWHead : Sp := fun vs H Q _ => ∃ (D : Addr) (kd : Str) (s : Int), vs = [.ref D, .str kd, .int s] ∧ (kd = "join" ∨ kd = "lap") ∧ Dr D H ∧ 0 ≤ s ∧ s ≤ 25 ∧ ∀ x H', rowW x = some none → plainB x = true → Kp D H H' → Dr D H' → Q (.str x) H'
theorem sc_whead : FnScope ["_law_draws_here", "_law_kind_here", "_law_size", "_law_word", "_law_menu"] ["_law_draws_here", "_law_kind_here", "_law_size"] (defScope s__law_wrong_head) := ⟨rfl, rfl, rfl, by decide +kernel, rfl, by decide +kernel, by decide +kernel⟩
theorem has_whead (T : Ctx K mg) : Has w K mg base CX0 "_law_wrong_head" 2 ["_law_draws_here", "_law_kind_here", "_law_size"] spWHead := by
  obtain ⟨f1, fd1, m1, kp1, F1, b1⟩ := has_take (w := w) (base := base) T
  refine has_of (st := s__law_wrong_head) (f := He.ga K "_law_wrong_head") T.d__law_wrong_head T.g__law_wrong_head (fun _ _ _ _ _ _ us hl => match us, hl with | [_, _, _], _ => rfl) fun fd F => ?_
  refine ok0 F sc_whead (fun vs H Q E h => ?_) (fun cdv A outer s0 H vs Q E hr h => ?_)
  · obtain ⟨D, kd, s, rfl, _⟩ := h
    rfl
  · obtain ⟨D, kd, s, rfl, hkd, hD, hs0, hs1, k⟩ := h
    have nd := sc_whead.nd
    refine ⟨_, pss_cons (ps_set (i := 3) nd rfl (.inl rfl) (pe_callTy call_str_int (by rfl) T.b_str (by decide +kernel) (pa_cons (pv 2) pa_nil)))
      (pss_cons (ps_set (i := 4) nd rfl (.inl rfl) (pe_lst (pa_cons (pe_op op_add_str (pe_op op_add_str (pv 1) pe_str) (pv 3)) (pa_cons (pe_op op_add_str (pe_op op_add_str (pv 1) pe_str) (pv 3)) (pa_cons (pe_op op_add_str (pe_op op_add_str (pv 1) pe_str) (pv 3)) (pa_cons (pe_op op_add_str (pv 1) pe_str) (pa_cons (pe_op op_add_str (pv 1) pe_str) pa_nil)))))))
      (pss_cons (ps_set (i := 4) nd rfl (.inl rfl) (pe_op op_cat (pv 4) (pe_lst (pa_cons (pv 1) (pa_cons (pe_op op_add_str (pe_op op_add_str (pe_op op_add_str pe_str (pv 1)) pe_str) (pv 3)) (pa_cons (pe_op op_add_str (pe_op op_add_str (pe_op op_add_str (pv 1) pe_str) (pv 3)) pe_str) (pa_cons (pe_op op_add_str (pe_op op_add_str (pv 1) pe_str) (pv 3)) (pa_cons pe_str pa_nil))))))))
      (pss_cons (ps_set (i := 4) nd rfl (.inl rfl) (pe_op op_cat (pv 4) (pe_lst (pa_cons (pe_op op_add_str pe_str (pv 3)) (pa_cons (pe_op op_add_str (pe_op op_add_str (pe_op op_add_str (pv 1) pe_str) (pv 3)) pe_str) (pa_cons (pe_op op_add_str (pe_op op_add_str (pv 1) pe_str) (pv 3)) pa_nil))))))
      (pss_one (ps_ret (pe_ix ix_list (pv 4) (pe_call F1 hr (by rfl) m1 kp1 b1 .nil pass0 (pa_cons (pv 0) (pa_cons pe_int pa_nil))) (fun _ _ => rfl))))))), ?_⟩
    have ls := sI_len' (n := s) (by omega)
    have ls' : (Str.ofString (toString s)).length ≤ 2 := ls
    have lk : kd.length ≤ 4 := by rcases hkd with rfl | rfl <;> decide +kernel
    have c1 : ∀ a : Str, a ∈ [("s " : Str), "  ", " 0", " 31", " ", " -", " gone", " +"] → a.length ≤ 5 := by decide +kernel
    have z2 : ∀ a : Str, a.length ≤ 5 → kd.length + a.length ≤ sizeLine := fun a h => sz1000 (by omega)
    have z3 : ∀ a : Str, a.length ≤ 5 → (kd ++ a).length + (sI s).length ≤ sizeLine := fun a h => sz1000 (by rw [len_app]; omega)
    refine ⟨_, rfl, s, rfl, log_small (by omega), ?_⟩
    refine ⟨_, rfl, _, _, rfl, rfl, z2 _ (c1 _ (by simp)), _, rfl, _, _, rfl, rfl, z3 _ (c1 _ (by simp)), ?_⟩
    refine ⟨_, rfl, _, _, rfl, rfl, z2 _ (c1 _ (by simp)), _, rfl, _, _, rfl, rfl, z3 _ (c1 _ (by simp)), ?_⟩
    refine ⟨_, rfl, _, _, rfl, rfl, z2 _ (c1 _ (by simp)), _, rfl, _, _, rfl, rfl, z3 _ (c1 _ (by simp)), ?_⟩
    refine ⟨_, rfl, _, _, rfl, rfl, z2 _ (c1 _ (by simp)), ?_⟩
    refine ⟨_, rfl, _, _, rfl, rfl, z2 _ (c1 _ (by simp)), ?_⟩
    refine ⟨(by show 5 ≤ sizeLine; decide), fun p hp => ?_⟩
    refine ⟨_, rfl, _, rfl, ?_⟩
    refine ⟨_, rfl, _, _, rfl, rfl, sz1000 (by have := c1 " " (by simp); omega), _, _, rfl, rfl, sz1000 (by rw [len_app]; have := c1 " " (by simp); omega), _, rfl, _, _, rfl, rfl, sz1000 (by rw [len_app, len_app]; have := c1 " " (by simp); omega), ?_⟩
    refine ⟨_, rfl, _, _, rfl, rfl, z2 _ (c1 _ (by simp)), _, rfl, _, _, rfl, rfl, z3 _ (c1 _ (by simp)), _, _, rfl, rfl, sz1000 (by rw [len_app, len_app]; have := c1 " " (by simp); omega), ?_⟩
    refine ⟨_, rfl, _, _, rfl, rfl, z2 _ (c1 _ (by simp)), _, rfl, _, _, rfl, rfl, z3 _ (c1 _ (by simp)), ?_⟩
    refine ⟨(by show 5 ≤ sizeLine; decide), fun p2 hp2 => ?_⟩
    refine ⟨p, p2, _, _, rfl, rfl, Ex.new hp2 _ _ upd_same, upd_same, (by show 10 ≤ sizeLine; decide), fun p3 hp3 => ?_⟩
    have e3 := ((Ex.new (o := .lst ((headMenu kd s).take 5 |>.map V.str)) hp).trans (Ex.new (o := .lst (((headMenu kd s).drop 5).take 5 |>.map V.str)) hp2)).trans (Ex.new (o := .lst ((headMenu kd s).take 10 |>.map V.str)) hp3)
    have lj : ("joinlap " : Str).length = 8 := by decide +kernel
    refine ⟨_, rfl, _, rfl, _, _, rfl, rfl, sz1000 (by omega), ?_⟩
    refine ⟨_, rfl, _, _, rfl, rfl, z2 _ (c1 _ (by simp)), _, rfl, _, _, rfl, rfl, z3 _ (c1 _ (by simp)), _, _, rfl, rfl, sz1000 (by rw [len_app, len_app]; have := c1 " " (by simp); have := c1 " gone" (by simp); omega), ?_⟩
    refine ⟨_, rfl, _, _, rfl, rfl, z2 _ (c1 _ (by simp)), _, rfl, _, _, rfl, rfl, z3 _ (c1 _ (by simp)), ?_⟩
    refine ⟨(by show 3 ≤ sizeLine; decide), fun p4 hp4 => ?_⟩
    refine ⟨p3, p4, _, _, rfl, rfl, Ex.new hp4 _ _ upd_same, upd_same, (by show 13 ≤ sizeLine; decide), fun p5 hp5 => ?_⟩
    have e4 := e3.trans (Ex.new (o := .lst ((headMenu kd s).drop 10 |>.map V.str)) hp4)
    have hp50 : H p5 = none := Evl.fresh_back e4 hp5
    have e5 := e4.trans (Ex.new (o := .lst ((headMenu kd s).map V.str)) hp5)
    refine ⟨_, rfl, _, rfl, D, 13, rfl, hD.ex e5, by decide, fun r H4 h0 h1 k4 d4 => ?_⟩
    obtain ⟨x, hx, hat⟩ := atI_map (L := headMenu kd s) h0 h1
    have hw := head_wrong hkd ⟨hs0, hs1⟩ hx
    refine ⟨p5, (headMenu kd s).map V.str, r, _, rfl, rfl, SqL.of (k4 _ _ (Kp.ne hD hp50) upd_same), hat, k x H4 hw.1 hw.2 ((Kp.of e5).trans k4) d4⟩
end
end K01


set_option Elab.async false
set_option linter.all false
set_option maxRecDepth 100000
set_option maxHeartbeats 4000000
namespace K01
open PySem PySem.Spec PyProof.Rows L2
open Evl (Ex)
/-! ### the pieces of texts -/
def noLF (x : Str) : Prop := 10 ∉ tl x
def noSp (x : Str) : Prop := 32 ∉ tl x
theorem nl_tl : TL.tl ("\n" : Str) = 10 :: [] := by decide +kernel
theorem sp_tl : TL.tl (" " : Str) = 32 :: [] := by decide +kernel
theorem split_nl {parts : List Str} (hne : parts ≠ []) (h : ∀ p ∈ parts, noLF p) : Txt.split (Str.join "\n" parts) "\n" = parts := by
  rw [← TL.join_eq]
  exact TL.split_join nl_tl (by decide +kernel) hne h
theorem split_sp {parts : List Str} (hne : parts ≠ []) (h : ∀ p ∈ parts, noSp p) : Txt.split (Str.join " " parts) " " = parts := by
  rw [← TL.join_eq]
  exact TL.split_join sp_tl (by decide +kernel) hne h
theorem noLF_app {a b : Str} (ha : noLF a) (hb : noLF b) : noLF (a ++ b) := fun h => by
  have h' : 10 ∈ tl (a ++ b) := h
  rw [tl_app] at h'
  rcases List.mem_append.mp h' with h | h
  · exact ha h
  · exact hb h
theorem num_ok : ∀ n : Nat, n < 31 → numW (sI (n : Int)) = some (some (n : Int)) ∧ 10 ∉ tl (sI (n : Int)) ∧ 32 ∉ tl (sI (n : Int)) := by decide +kernel
theorem num_back {n : Int} (h : 0 ≤ n ∧ n ≤ 30) : numW (sI n) = some (some n) ∧ noLF (sI n) ∧ noSp (sI n) := by
  have := num_ok n.toNat (by omega)
  rw [Int.toNat_of_nonneg h.1] at this
  exact this
theorem lineOf_join (r : Int × Int) (g : Bool) : lineOf r g = Str.join " " (if g = true then [sI r.1, sI r.2, "gone"] else [sI r.1, sI r.2]) := by
  unfold lineOf
  cases g with
  | false =>
    rw [if_neg (by simp), if_neg (by simp), emp_eq, app_emp]
    rfl
  | true =>
    rw [if_pos rfl, if_pos rfl]
    show sI r.1 ++ " " ++ sI r.2 ++ " gone" = sI r.1 ++ " " ++ (sI r.2 ++ " " ++ "gone")
    have : (" gone" : Str) = " " ++ "gone" := by decide +kernel
    rw [this, app_assoc, app_assoc, app_assoc, app_assoc]
    try rfl
theorem line_back {s : Int} {r : Int × Int} {g : Bool} (hs : s ≤ 30) (h : Fits s r) : partW s (lineOf r g) = some (some (r, g)) := by
  obtain ⟨h0, h1, h2⟩ := h
  have a := num_back (n := r.1) ⟨h0, by omega⟩
  have b := num_back (n := r.2) ⟨by omega, by omega⟩
  have two : ∀ g, twoW s (sI r.1) (sI r.2) g = some (some (r, g)) := fun g => by
    unfold twoW
    rw [a.1, b.1]
    show (if 0 ≤ r.1 ∧ r.1 < r.2 ∧ r.2 ≤ s then _ else _) = _
    rw [if_pos ⟨h0, h1, h2⟩]
  unfold partW
  rw [lineOf_join]
  cases g with
  | false =>
    rw [if_neg (by simp), split_sp (by simp) (fun p hp => by
      rcases List.mem_cons.mp hp with rfl | hp
      · exact a.2.2
      · rw [List.mem_singleton.mp hp]; exact b.2.2)]
    exact two false
  | true =>
    rw [if_pos rfl, split_sp (by simp) (fun p hp => by
      rcases List.mem_cons.mp hp with rfl | hp
      · exact a.2.2
      · rcases List.mem_cons.mp hp with rfl | hp
        · exact b.2.2
        · rw [List.mem_singleton.mp hp]; unfold noSp; decide +kernel)]
    show (if ("gone" : Str) = "gone" then twoW s (sI r.1) (sI r.2) true else some none) = _
    rw [if_pos rfl]
    exact two true
theorem head_ok : ∀ n : Nat, n < 31 → n = 0 ∨ (rowW (headOf "join" (n : Int)) = some (some (("join" : Str), (n : Int))) ∧ 10 ∉ tl (headOf "join" (n : Int))) ∧ rowW (headOf "lap" (n : Int)) = some (some (("lap" : Str), (n : Int))) ∧ 10 ∉ tl (headOf "lap" (n : Int)) := by decide +kernel
theorem head_back {k : Str} {s : Int} (hk : k = "join" ∨ k = "lap") (h : 1 ≤ s ∧ s ≤ 30) : rowW (headOf k s) = some (some (k, s)) ∧ noLF (headOf k s) := by
  have := (head_ok s.toNat (by omega)).resolve_left (by omega)
  rw [Int.toNat_of_nonneg (by omega)] at this
  rcases hk with rfl | rfl
  · exact this.1
  · exact this.2
theorem line_noLF {s : Int} {r : Int × Int} {g : Bool} (hs : s ≤ 30) (h : Fits s r) : noLF (lineOf r g) := by
  obtain ⟨h0, h1, h2⟩ := h
  have a := num_back (n := r.1) ⟨h0, by omega⟩
  have b := num_back (n := r.2) ⟨by omega, by omega⟩
  unfold lineOf
  refine noLF_app (noLF_app (noLF_app a.2.1 (by unfold noLF; decide +kernel)) b.2.1) ?_
  cases g with
  | false => rw [if_neg (by simp)]; unfold noLF; decide +kernel
  | true => rw [if_pos rfl]; unfold noLF; decide +kernel
theorem line_ne (r : Int × Int) (g : Bool) : lineOf r g ≠ "" := fun h => by
  have h1 : (lineOf r g).length = 0 := by rw [h]; rfl
  unfold lineOf at h1
  rw [len_app, len_app, len_app] at h1
  have : (" " : Str).length = 1 := by decide +kernel
  omega
theorem cutS_last (t : Str) : cutS (t ++ "\n") none (some (-1)) = t := by
  apply ext_tl
  unfold cutS HT.sIx
  have h1 : ("\n" : Str).length = 1 := by decide +kernel
  have hl : (t ++ "\n").length = t.length + 1 := by rw [len_app, h1]
  have ht : tl (t ++ "\n") = tl t ++ [10] := by
    rw [tl_app]
    have : tl ("\n" : Str) = [10] := by decide +kernel
    rw [this]
  show (((t ++ "\n").cps.toList.drop _).take _).toArray.toList = tl t
  have ht' : (t ++ "\n").cps.toList = tl t ++ [10] := ht
  rw [ht', hl]
  simp
  have e : (-1 + ((t.length : Int) + 1)).toNat = (tl t).length := by rw [← len_tl]; omega
  have e2 : t.cps.size = (tl t).length := by simp
  rw [e]
  simp
/-- the parts of a market -/
def partsOf (rs : List (Int × Int)) (ns : List Int) : List Part := (List.range rs.length).map fun j => (rs.getD j (0, 0), decide ((j : Int) ∈ ns))
def lineP (x : Part) : Str := lineOf x.1 x.2
theorem mLines_parts (kd : Str) (s : Int) (rs : List (Int × Int)) (ns : List Int) : mLines kd s rs ns rs.length = headOf kd s :: (partsOf rs ns).map lineP := by
  unfold mLines partsOf
  rw [List.map_map]
  rfl
theorem bodies_parts (rs : List (Int × Int)) (ns : List Int) : bodies (partsOf rs ns) = rs := by
  unfold bodies partsOf
  rw [List.map_map]
  apply List.ext_getElem?
  intro i
  rw [List.getElem?_map]
  by_cases h : i < rs.length
  · rw [List.getElem?_range h, List.getElem?_eq_getElem h]
    simp [h]
  · rw [List.getElem?_eq_none (by simp; omega), List.getElem?_eq_none (by omega)]
    rfl
theorem parts_len (rs : List (Int × Int)) (ns : List Int) : (partsOf rs ns).length = rs.length := by
  unfold partsOf
  simp
theorem gones_parts {rs : List (Int × Int)} {ns : List Int} (asc : ns.Pairwise (· < ·)) (inn : ∀ n ∈ ns, 0 ≤ n ∧ n < rs.length) : gones (partsOf rs ns) (partsOf rs ns).length = ns := by
  refine asc_eq (gones_asc _ _) asc fun k => ?_
  rw [parts_len]
  unfold gones
  rw [List.mem_map]
  constructor
  · rintro ⟨j, hj, rfl⟩
    rw [List.mem_filter] at hj
    have hj1 := List.mem_range.mp hj.1
    have hj2 := hj.2
    unfold partsOf at hj2
    rw [List.getD_eq_getElem?_getD, List.getElem?_map, List.getElem?_range hj1] at hj2
    simpa using hj2
  · intro hk
    obtain ⟨h0, h1⟩ := inn k hk
    obtain ⟨n, rfl⟩ : ∃ n : Nat, k = (n : Int) := ⟨k.toNat, by omega⟩
    have hn : n < rs.length := by omega
    refine ⟨n, List.mem_filter.mpr ⟨List.mem_range.mpr hn, ?_⟩, rfl⟩
    unfold partsOf
    rw [List.getD_eq_getElem?_getD, List.getElem?_map, List.getElem?_range hn]
    simpa using hk
theorem parts_fit {s : Int} {rs : List (Int × Int)} {ns : List Int} (h : ∀ r ∈ rs, Fits s r) : ∀ x ∈ partsOf rs ns, Fits s x.1 := fun x hx => by
  have : x.1 ∈ bodies (partsOf rs ns) := List.mem_map.mpr ⟨x, hx, rfl⟩
  rw [bodies_parts] at this
  exact h _ this
theorem mids_of {s : Int} {X : List Part} (hs : s ≤ 30) (h : ∀ x ∈ X, Fits s x.1) (rest : List Str) : Mids s (X.map lineP ++ rest) X := fun i x hx => by
  have hi := (List.getElem?_eq_some_iff.mp hx).1
  refine ⟨lineP x, ?_, line_back hs (h x (List.mem_of_getElem? hx))⟩
  rw [List.getElem?_append_left (by rw [List.length_map]; exact hi), List.getElem?_map, hx]
  rfl
section
variable {h k : Str} {s : Int} {X : List Part}
theorem out_ok (hr : rowW h = some (some (k, s))) (hX : ∀ x ∈ X, Fits s x.1) : Out (h :: (X.map lineP ++ [("" : Str)])) (.inr (k, s, X)) := by
  have hs := (row_in hr).2.2
  have m := mids_of hs hX []
  rw [List.append_nil] at m
  exact Out.ok h _ k s X hr m (by rw [List.length_map])
theorem out_last (hr : rowW h = some (some (k, s))) (hX : ∀ x ∈ X, Fits s x.1) {last : Str} (hl : last ≠ "") : Out (h :: (X.map lineP ++ [last])) (.inl ((X.length : Int) + 2)) := by
  have hs := (row_in hr).2.2
  have m := mids_of hs hX []
  rw [List.append_nil] at m
  have := Out.last h last (X.map lineP) k s X hr m (by rw [List.length_map]) hl
  rw [List.length_map] at this
  exact this
theorem out_part (hr : rowW h = some (some (k, s))) (hX : ∀ x ∈ X, Fits s x.1) {x : Str} (hx : partW s x = some none) (rest : List Str) (last : Str) : Out (h :: (X.map lineP ++ x :: (rest ++ [last]))) (.inl ((X.length : Int) + 2)) := by
  have hs := (row_in hr).2.2
  have e : X.map lineP ++ x :: (rest ++ [last]) = (X.map lineP ++ x :: rest) ++ [last] := by simp
  rw [e]
  exact Out.part h last _ k s X x hr (mids_of hs hX _) (by rw [List.getElem?_append_right (by rw [List.length_map]; exact Nat.le_refl _), List.length_map, Nat.sub_self]; rfl) hx
theorem out_end (hr : rowW h = some (some (k, s))) (hX : ∀ x ∈ X, Fits s x.1) {x : Str} (hx : partW s x = some none) (hne : x ≠ "") (rest : List Str) : Out (h :: (X.map lineP ++ x :: rest)) (.inl ((X.length : Int) + 2)) := by
  rcases List.eq_nil_or_concat rest with rfl | ⟨init, last, rfl⟩
  · exact out_last hr hX hne
  · rw [List.concat_eq_append]
    exact out_part hr hX hx init last
theorem out_row {x : Str} (hx : rowW x = some none) (rest : List Str) : Out (x :: rest) (.inl 1) := by
  rcases List.eq_nil_or_concat rest with rfl | ⟨init, last, rfl⟩
  · exact Out.one x
  · rw [List.concat_eq_append]
    exact Out.row x last init hx
end
/-- the text of these lines and one more without a LF behind it -/
theorem wrong_of {H : Hp} {init : List Str} {x : Str} {n : Int} (hl : init.length ≤ 14) (hi : ∀ l ∈ init, noLF l ∧ l.length ≤ 30) (hx : noLF x ∧ x.length ≤ 30) (h : Out (init ++ [x]) (.inl n)) : Wrong H (.str (textOf init ++ x)) n := by
  have hs : Txt.split (textOf init ++ x) "\n" = init ++ [x] := by
    rw [← join_snoc]
    refine split_nl (by simp) fun p hp => ?_
    rcases List.mem_append.mp hp with hp | hp
    · exact (hi p hp).1
    · rw [List.mem_singleton.mp hp]
      exact hx.1
  refine .inr ⟨_, rfl, ?_, ?_, ?_, ?_⟩
  · rw [len_app]
    have h1 := textOf_len init 30 fun l hl => (hi l hl).2
    have h2 : init.length * 31 ≤ 14 * 31 := Nat.mul_le_mul_right _ hl
    have := hx.2
    omega
  · rw [hs, List.length_append]
    have : [x].length = 1 := rfl
    omega
  · rw [hs]
    intro p hp
    rcases List.mem_append.mp hp with hp | hp
    · have := (hi p hp).2
      omega
    · rw [List.mem_singleton.mp hp]
      have := hx.2
      omega
  · rw [hs]
    exact h
end K01


set_option Elab.async false
set_option linter.all false
set_option maxRecDepth 100000
set_option maxHeartbeats 4000000
namespace K01
open PySem PySem.Spec PyProof.Rows L2
open Evl (Ex)
def Plain (L : List Str) : Prop := ∀ l ∈ L, noLF l ∧ l.length ≤ 30
theorem textOf_snoc (L : List Str) (x : Str) : textOf (L ++ [x]) = textOf L ++ x ++ "\n" := by
  induction L with
  | nil =>
    show x ++ "\n" = Str.empty ++ x ++ "\n"
    rw [emp_app]
  | cons l L ih =>
    rw [List.cons_append, textOf_cons, ih, textOf_cons]
    simp only [app_assoc]
theorem plain_of {x : Str} (h : plainB x = true) : noLF x ∧ x.length ≤ 30 := by
  unfold plainB at h
  rw [Bool.and_eq_true, Bool.and_eq_true] at h
  obtain ⟨⟨h1, h2⟩, _⟩ := h
  refine ⟨fun q => ?_, of_decide_eq_true h1⟩
  rw [decide_eq_true q] at h2
  cases h2
theorem wrong_whole {H : Hp} {L : List Str} {n : Int} (hl : L.length ≤ 14) (hp : Plain L) (h : Out (L ++ [("" : Str)]) (.inl n)) : Wrong H (.str (textOf L)) n := by
  have := wrong_of (H := H) hl hp (x := "") ⟨by unfold noLF; decide +kernel, by decide +kernel⟩ h
  rw [show textOf L ++ ("" : Str) = textOf L from by rw [emp_eq, app_emp]] at this
  exact this
theorem wrong_cut {H : Hp} {L : List Str} {n : Int} (hl : L.length ≤ 14) (hp : Plain L) (hne : L ≠ []) (h : Out L (.inl n)) : Wrong H (.str (cutS (textOf L) none (some (-1)))) n := by
  rcases List.eq_nil_or_concat L with rfl | ⟨init, x, rfl⟩
  · exact absurd rfl hne
  · rw [List.concat_eq_append] at *
    rw [textOf_snoc, cutS_last]
    rw [List.length_append] at hl
    exact wrong_of (by omega) (fun l hl => hp l (List.mem_append_left _ hl)) (hp x (List.mem_append_right _ (List.mem_singleton.mpr rfl))) h
def dueP (n : Int) : PyData := .list [.int n, .bool true, .bool false]
theorem dueD {K : PySem.W.Frag} {H : Hp} {p : Addr} {n : Int} (h : H p = some (.lst [.int n, .bl true, .bl false])) : Dp K H (.ref p) (dueP n) := .lst (SqL.of h) (.cons (.int n) (.cons (.bl true) (.cons (.bl false) .nil)))
theorem due_eqv (n : Int) : PyData.eqv (dueP n) (dueP n) = true := by
  simp [dueP, PyData.eqv, PyData.eqvAll]
theorem due_shaped (n : Int) : SeqAt.shaped (dueP n) = true := by
  unfold SeqAt.shaped dueP
  simp [PyData.canLay0, PyData.canLayAll0, PyData.depth, PyData.depthAll]
theorem cut_take {L : List Str} {i : Nat} (h : i ≤ L.length) : cutV (L.map V.str) none (some (i : Int)) = (L.take i).map V.str := by
  unfold cutV
  rw [HT.sIx_nat, HT.sIx_none, List.length_map, Nat.min_eq_left h, Nat.sub_zero, List.drop_zero, List.map_take]
theorem cut_drop {L : List Str} {i : Nat} (h : i ≤ L.length) : cutV (L.map V.str) (some (i : Int)) none = (L.drop i).map V.str := by
  unfold cutV
  rw [HT.sIx_nat, HT.sIx_none, List.length_map, Nat.min_eq_left h, ← List.map_drop, List.take_of_length_le]
  rw [List.length_map, List.length_drop]
  exact Nat.le_refl _
/-- the lines with one spoilt -/
def spoil (L : List Str) (i : Nat) (x : Str) : List Str := L.take i ++ x :: L.drop (i + 1)
theorem spoil_len {L : List Str} {i : Nat} {x : Str} (h : i ≤ L.length) : (spoil L i x).length ≤ L.length + 1 := by
  unfold spoil
  rw [List.length_append, List.length_cons, List.length_take, List.length_drop]
  omega
theorem spoil_plain {L : List Str} {i : Nat} {x : Str} (h : Plain L) (hx : noLF x ∧ x.length ≤ 30) : Plain (spoil L i x) := fun l hl => by
  unfold spoil at hl
  rcases List.mem_append.mp hl with hl | hl
  · exact h l (List.mem_of_mem_take hl)
  · rcases List.mem_cons.mp hl with rfl | hl
    · exact hx
    · exact h l (List.mem_of_mem_drop hl)
/-- what is wrong with x at the line i -/
def BadAt (s : Int) (i : Nat) (x : Str) : Prop := (i = 0 → rowW x = some none) ∧ (i ≠ 0 → partW s x = some none ∧ x ≠ "")
theorem spoil_out {h k : Str} {s : Int} {X : List Part} (hr : rowW h = some (some (k, s))) (hX : ∀ x ∈ X, Fits s x.1) {i : Nat} {x : Str} (hi : i ≤ X.length + 1) (hb : BadAt s i x) (rest : List Str) : Out (spoil (h :: X.map lineP) i x ++ rest) (.inl ((i : Int) + 1)) := by
  unfold spoil
  cases i with
  | zero => exact out_row (hb.1 rfl) _
  | succ i =>
    obtain ⟨hp, hne⟩ := hb.2 (Nat.succ_ne_zero i)
    rw [List.take_succ_cons, List.drop_succ_cons, List.cons_append, List.cons_append, ← List.map_take, List.append_assoc, List.cons_append]
    have hl : (X.take i).length = i := by rw [List.length_take]; omega
    have := out_end (X := X.take i) hr (fun x hx => hX x (List.mem_of_mem_take hx)) hp hne ((List.drop (i + 1) (X.map lineP)) ++ rest)
    rw [hl] at this
    have e : ((i + 1 : Nat) : Int) + 1 = (i : Int) + 2 := by omega
    rw [e]
    exact this
section
variable {w : World} {K : PySem.W.Frag} {mg : Str → Option Value} {base : Heap}
def spTR : Sp := fun vs H Q _ => ∃ (D l : Addr) (kd : Str) (s : Int) (X : List Part), vs = [.ref D, .ref l, .str kd, .int s] ∧ Dr D H ∧ (kd = "join" ∨ kd = "lap") ∧ 1 ≤ s ∧ s ≤ 24 ∧ (∀ x ∈ X, Fits s x.1) ∧ X.length ≤ 9 ∧ l ≠ D ∧ H l = some (.lst ((headOf kd s :: X.map lineP).map V.str)) ∧ ∀ H', Q (.bl true) H'
theorem sc_tr : FnScope ["_law_draws_here", "_law_lines_here", "_law_kind_here", "_law_size", "_law_whole", "_law_at", "_law_wrong", "_law_spoilt", "_law_due", "_law_nothing"] ["_law_draws_here", "_law_lines_here", "_law_kind_here", "_law_size"] (defScope s__law_texts_refused) := ⟨rfl, rfl, rfl, by decide +kernel, rfl, by decide +kernel, by decide +kernel⟩
theorem has_tr (T : Ctx K mg) : Has w K mg base CX0 "_law_texts_refused" 10 ["_law_draws_here", "_law_lines_here", "_law_kind_here", "_law_size"] spTR := by
  obtain ⟨f1, fd1, m1, kp1, F1, b1⟩ := has_take (w := w) (base := base) T
  obtain ⟨f2, fd2, m2, kp2, F2, b2⟩ := has_joined (w := w) (base := base) T
  obtain ⟨f3, fd3, m3, kp3, F3, b3⟩ := has_wpart (w := w) (base := base) T
  obtain ⟨f4, fd4, m4, kp4, F4, b4⟩ := has_whead (w := w) (base := base) T
  obtain ⟨f5, fd5, m5, kp5, F5, b5⟩ := has_refused (w := w) (base := base) T
  refine has_of (st := s__law_texts_refused) (f := He.ga K "_law_texts_refused") T.d__law_texts_refused T.g__law_texts_refused (fun _ _ _ _ _ _ us hl => match us, hl with | [_, _, _, _], _ => rfl) fun fd F => ?_
  refine ok0 F sc_tr (fun vs H Q E h => ?_) (fun cdv A outer s0 H vs Q E hr h => ?_)
  · obtain ⟨D, l, kd, s, X, rfl, _⟩ := h
    rfl
  · obtain ⟨D, l, kd, s, X, rfl, hD, hkd, hs1, hs24, hX, hl9, hlD, hl, k⟩ := h
    have nd := sc_tr.nd
    have hr1 := hr.mono (show 1 ≤ 9 by decide)
    have hr2 := hr.mono (show 2 ≤ 9 by decide)
    have hu := hr.units
    refine ⟨_, pss_cons (ps_set (i := 4) nd rfl (.inl rfl) (pe_call F2 hr1 (by rfl) m2 kp2 b2 .nil pass0 (pa_cons (pv 1) pa_nil)))
      (pss_cons (ps_set (i := 5) nd rfl (.inl rfl) (pe_call F1 hr1 (by rfl) m1 kp1 b1 .nil pass0 (pa_cons (pv 0) (pa_cons (pe_op op_add (pe_callB call_len_seq (by rfl) T.b_len PySem.boot_len (pa_cons (pv 1) pa_nil)) pe_int) pa_nil))))
      (pss_cons (ps_set (i := 6) nd rfl (.inl rfl) (pe_call F3 hr2 (by rfl) m3 kp3 b3 .nil pass0 (pa_cons (pv 0) (pa_cons (pv 3) pa_nil))))
      (pss_cons ((ps_if (pt_cmpR op_eq (pv 5) pe_int (nomark _)) (pss_one (ps_set (i := 6) nd rfl (.inl rfl) (pe_call F4 hr2 (by rfl) m4 kp4 b4 .nil pass0 (pa_cons (pv 0) (pa_cons (pv 2) (pa_cons (pv 3) pa_nil)))))) pss_nil).imp (t' := fun De σ H => ∃ (v1 v4 v7 v8 v9 : Option V) (i : Nat) (x : Str), σ = [some (.ref D), v1, some (.str kd), some (.int s), v4, some (.int i), some (.str x), v7, v8, v9] ∧ Dr D H ∧ partW s x = some none ∧ x ≠ "" ∧ plainB x = true ∧
          ∀ y H', Kp D H H' → Dr D H' → BadAt s i y → plainB y = true → De.nx [some (.ref D), v1, some (.str kd), some (.int s), v4, some (.int i), some (.str y), v7, v8, v9] H') ?c1)
      (pss_cons ((ps_if (pt_cmpR op_lt (pv 5) (pe_callB call_len_seq (by rfl) T.b_len PySem.boot_len (pa_cons (pv 1) pa_nil)) (nomark _))
          (pss_one (ps_set (i := 7) nd rfl (.inl rfl) (pe_op op_cat (pe_op op_cat (pe_slice sl_list (pv 1) po_none (po_some (pv 5))) (pe_lst (pa_cons (pv 6) pa_nil))) (pe_slice sl_list (pv 1) (po_some (pe_op op_add (pv 5) pe_int)) po_none))))
          (pss_one (ps_set (i := 7) nd rfl (.inl rfl) (pe_op op_cat (pv 1) (pe_lst (pa_cons (pv 6) pa_nil)))))).imp (t' := fun De σ H => ∃ (v0 v2 v3 v4 v7 v8 v9 : Option V) (L : List Str) (i : Nat) (x : Str), σ = [v0, some (.ref l), v2, v3, v4, some (.int i), some (.str x), v7, v8, v9] ∧ H l = some (.lst (L.map V.str)) ∧ i ≤ L.length ∧ L.length ≤ 20 ∧
          ∀ q H', Ex H H' → H q = none → H' q = some (.lst ((spoil L i x).map V.str)) → De.nx [v0, some (.ref l), v2, v3, v4, some (.int i), some (.str x), some (.ref q), v8, v9] H') ?c2)
      (pss_cons (ps_set (i := 8) nd rfl (.inl rfl) (pe_lst (pa_cons (pe_op op_add (pv 5) pe_int) (pa_cons pe_bl (pa_cons pe_bl pa_nil)))))
      (pss_cons (ps_if (pt_cmpR (op_neD hu) (pe_call F5 hr (by rfl) m5 kp5 b5 .nil pass0 (pa_cons (pe_call F2 hr1 (by rfl) m2 kp2 b2 .nil pass0 (pa_cons (pv 7) pa_nil)) pa_nil)) (pv 8) (nomark _)) (pss_one (ps_ret pe_bl)) pss_nil)
      (pss_cons (ps_if (pt_cmpR (op_neD hu) (pe_call F5 hr (by rfl) m5 kp5 b5 .nil pass0 (pa_cons (pe_call F2 hr1 (by rfl) m2 kp2 b2 .nil pass0 (pa_cons (pe_op op_cat (pv 7) (pe_lst (pa_cons (pe_call F3 hr2 (by rfl) m3 kp3 b3 .nil pass0 (pa_cons (pv 0) (pa_cons (pv 3) pa_nil))) pa_nil))) pa_nil)) pa_nil)) (pv 8) (nomark _)) (pss_one (ps_ret pe_bl)) pss_nil)
      (pss_cons (ps_if (pt_cmpR (op_neD hu) (pe_call F5 hr (by rfl) m5 kp5 b5 .nil pass0 (pa_cons (pe_slice sl_str (pe_call F2 hr1 (by rfl) m2 kp2 b2 .nil pass0 (pa_cons (pv 7) pa_nil)) po_none (po_some (pe_un un_neg pe_int))) pa_nil)) (pv 8) (nomark _)) (pss_one (ps_ret pe_bl)) pss_nil)
      (pss_cons (ps_if (pt_cmpR (op_neD hu) (pe_call F5 hr (by rfl) m5 kp5 b5 .nil pass0 (pa_cons (pe_slice sl_str (pv 4) po_none (po_some (pe_un un_neg pe_int))) pa_nil)) (pe_lst (pa_cons (pe_callB call_len_seq (by rfl) T.b_len PySem.boot_len (pa_cons (pv 1) pa_nil)) (pa_cons pe_bl (pa_cons pe_bl pa_nil)))) (nomark _)) (pss_one (ps_ret pe_bl)) pss_nil)
      (pss_cons (ps_if (pt_cmpR (op_neD hu) (pe_call F5 hr (by rfl) m5 kp5 b5 .nil pass0 (pa_cons (pe_op op_add_str (pv 4) pe_str) pa_nil)) (pe_lst (pa_cons (pe_op op_add (pe_callB call_len_seq (by rfl) T.b_len PySem.boot_len (pa_cons (pv 1) pa_nil)) pe_int) (pa_cons pe_bl (pa_cons pe_bl pa_nil)))) (nomark _)) (pss_one (ps_ret pe_bl)) pss_nil)
      (pss_cons (ps_if (pt_cmpR (op_neD hu) (pe_call F5 hr (by rfl) m5 kp5 b5 .nil pass0 (pa_cons (pe_op op_add_str (pv 4) pe_str) pa_nil)) (pe_lst (pa_cons (pe_op op_add (pe_callB call_len_seq (by rfl) T.b_len PySem.boot_len (pa_cons (pv 1) pa_nil)) pe_int) (pa_cons pe_bl (pa_cons pe_bl pa_nil)))) (nomark _)) (pss_one (ps_ret pe_bl)) pss_nil)
      (pss_cons (ps_set (i := 9) nd rfl (.inl rfl) (pe_ix ix_list (pe_lst (pa_cons pe_non (pa_cons pe_int (pa_cons (pe_lst (pa_cons (pv 4) pa_nil)) pa_nil)))) (pe_call F1 hr1 (by rfl) m1 kp1 b1 .nil pass0 (pa_cons (pv 0) (pa_cons pe_int pa_nil))) (fun _ _ => rfl)))
      (pss_one (ps_ret (pe_and (pe_cmpR (op_eqD hu) (pe_call F5 hr (by rfl) m5 kp5 b5 .nil pass0 (pa_cons pe_str pa_nil)) (pe_lst (pa_cons pe_int (pa_cons pe_bl (pa_cons pe_bl pa_nil)))) (nomark _))
        (pe_one (pe_cmpR (op_eqD hu) (pe_call F5 hr (by rfl) m5 kp5 b5 .nil pass0 (pa_cons (pv 9) pa_nil)) (pe_lst (pa_cons pe_int (pa_cons pe_bl (pa_cons pe_bl pa_nil)))) (nomark _)))))))))))))))))), ?_⟩
    case c1 =>
      rintro De σ H ⟨v1, v4, v7, v8, v9, i, x, rfl, hD, hp, hne, hpl, k⟩
      refine ⟨_, rfl, rfl, _, rfl, ?_⟩
      by_cases c : i = 0
      · subst c
        exact iteT' (by simp) ⟨_, rfl, _, rfl, _, rfl, D, kd, s, rfl, hkd, hD, by omega, by omega, fun y H' hy hpy kk dd => k y H' kk dd ⟨fun _ => hy, fun z => absurd rfl z⟩ hpy⟩
      · exact iteF' (decide_eq_false (fun z => c (by injection z with z; omega))) (k x H (Kp.refl _ _) hD ⟨fun z => absurd z c, fun _ => ⟨hp, hne⟩⟩ hpl)
    case c2 =>
      rintro De σ H ⟨v0, v2, v3, v4, v7, v8, v9, L, i, x, rfl, hl, hi, h20, k⟩
      refine ⟨_, rfl, _, rfl, l, _, rfl, .inl (SqL.of hl), _, _, rfl, rfl, _, rfl, ?_⟩
      by_cases c : (i : Int) < ((L.map V.str).length : Int)
      · have ci : i < L.length := by rw [List.length_map] at c; omega
        refine iteT' (decide_eq_true c) ⟨_, rfl, _, rfl, _, rfl, l, _, rfl, SqL.of hl, fun p hp => ⟨_, rfl, (by show 1 ≤ sizeLine; decide), fun p2 hp2 => ?_⟩⟩
        rw [cut_take hi] at hp2 ⊢
        have lt := List.length_take (i := i) (l := L)
        refine ⟨p, p2, _, _, rfl, rfl, Ex.new hp2 _ _ upd_same, upd_same, Nat.le_trans (by rw [List.length_map, lt]; show min i L.length + 1 ≤ 1000; omega) (by decide), fun p3 hp3 => ?_⟩
        have e3 := ((Ex.new (o := .lst ((L.take i).map V.str)) hp).trans (Ex.new (o := .lst [V.str x]) hp2)).trans (Ex.new (o := .lst ((L.take i).map V.str ++ [V.str x])) hp3)
        refine ⟨_, rfl, _, rfl, _, _, rfl, rfl, _, rfl, l, _, rfl, SqL.of (e3 _ _ hl), fun p4 hp4 => ?_⟩
        have cd : cutV (L.map V.str) (some ((i : Int) + 1)) none = (L.drop (i + 1)).map V.str := cut_drop (i := i + 1) (by omega)
        rw [cd] at ⊢
        have ld := List.length_drop (i := i + 1) (l := L)
        refine ⟨p3, p4, _, _, rfl, rfl, Ex.new hp4 _ _ upd_same, upd_same, Nat.le_trans (by rw [List.length_append, List.length_map, List.length_map, lt, ld]; show min i L.length + 1 + (L.length - (i + 1)) ≤ 1000; omega) (by decide), fun p5 hp5 => ?_⟩
        have e4 := e3.trans (Ex.new (o := .lst ((L.drop (i + 1)).map V.str)) hp4)
        refine k p5 _ (e4.trans (Ex.new hp5)) (Evl.fresh_back e4 hp5) ?_
        rw [upd_same]
        unfold spoil
        simp
      · have ci : i = L.length := by rw [List.length_map] at c; omega
        refine iteF' (decide_eq_false c) ⟨_, rfl, _, rfl, (by show 1 ≤ sizeLine; decide), fun p hp => ?_⟩
        refine ⟨l, p, _, _, rfl, rfl, Ex.new hp _ _ hl, upd_same, Nat.le_trans (by rw [List.length_map]; show L.length + 1 ≤ 1000; omega) (by decide), fun p2 hp2 => ?_⟩
        have e1 := Ex.new (o := .lst [V.str x]) hp
        refine k p2 _ (e1.trans (Ex.new hp2)) (Evl.fresh_back e1 hp2) ?_
        rw [upd_same]
        unfold spoil
        rw [ci, List.take_length, List.drop_eq_nil_of_le (Nat.le_succ _)]
        simp
    have hb0 := head_back hkd (show 1 ≤ s ∧ s ≤ 30 by omega)
    have hLp : Plain (headOf kd s :: X.map lineP) := fun x hx => by
      rcases List.mem_cons.mp hx with rfl | hx
      · refine ⟨hb0.2, Nat.le_trans (headOf_len (by rcases hkd with rfl | rfl <;> decide +kernel) (by omega)) (by decide)⟩
      · obtain ⟨y, hy, rfl⟩ := List.mem_map.mp hx
        exact ⟨line_noLF (by omega) (hX y hy), Nat.le_trans (lineOf_len ((hX y hy).mono (by omega))) (by decide)⟩
    have hLl : (headOf kd s :: X.map lineP).length = X.length + 1 := by rw [List.length_cons, List.length_map]
    have outs := fun (i : Nat) (y : Str) (hi : i ≤ X.length + 1) (hb : BadAt s i y) (rest : List Str) => spoil_out hb0.1 hX hi hb rest
    have out1 : Out (headOf kd s :: X.map lineP) (.inl ((X.length : Int) + 1)) := by
      rcases List.eq_nil_or_concat X with rfl | ⟨Y, y, rfl⟩
      · exact Out.one _
      · rw [List.concat_eq_append, List.map_append, List.length_append]
        have := out_last (X := Y) hb0.1 (fun x hx => hX x (by rw [List.concat_eq_append]; exact List.mem_append_left _ hx)) (line_ne y.1 y.2)
        have e : ((Y.length + [y].length : Nat) : Int) + 1 = (Y.length : Int) + 2 := by show ((Y.length + 1 : Nat) : Int) + 1 = _; omega
        rw [e]
        exact this
    have out2 : Out ((headOf kd s :: X.map lineP) ++ [("" : Str)] ++ [("" : Str)]) (.inl ((X.length : Int) + 2)) := by
      have := out_part (x := "") hb0.1 hX (by
        have : ∀ s : Int, partW s "" = some none := fun s => rfl
        exact this s) [] ""
      simpa using this
    have out3 : Out ((headOf kd s :: X.map lineP) ++ [("0 1" : Str)]) (.inl ((X.length : Int) + 2)) := out_last hb0.1 hX (by decide +kernel)
    generalize hLe : headOf kd s :: X.map lineP = L at *
    refine ⟨_, rfl, l, L, rfl, hl, by omega, fun x hx => Nat.le_trans (hLp x hx).2 (by decide), fun H1 e1 => ?_⟩
    have hl1 := e1 _ _ hl
    refine ⟨_, rfl, _, rfl, l, _, rfl, .inl (SqL.of hl1), _, _, rfl, rfl, D, _, rfl, hD.ex e1, by rw [List.length_map]; omega, fun r H2 h0 h1 k2 d2 => ?_⟩
    obtain ⟨i, rfl⟩ : ∃ i : Nat, r = (i : Int) := ⟨r.toNat, by omega⟩
    rw [List.length_map, hLl] at h1
    have hi : i ≤ X.length + 1 := by omega
    have hl2 := k2 _ _ hlD hl1
    refine ⟨_, rfl, _, rfl, D, s, rfl, d2, by omega, by omega, fun x H3 hx hne hpl k3 d3 => ?_⟩
    have hl3 := k3 _ _ hlD hl2
    refine ⟨_, _, _, _, _, i, x, rfl, d3, hx, hne, hpl, fun y H4 k4 d4 hb hpy => ?_⟩
    have hl4 := k4 _ _ hlD hl3
    refine ⟨_, _, _, _, _, _, _, L, i, y, rfl, hl4, by omega, by omega, fun q H5 e5 hq hq5 => ?_⟩
    have hl5 := e5 _ _ hl4
    have d5 := d4.ex e5
    have hqD : q ≠ D := Kp.ne d4 hq
    refine ⟨_, rfl, _, _, rfl, rfl, (by show 3 ≤ sizeLine; decide), fun du hdu => ?_⟩
    have hdD : du ≠ D := Kp.ne d5 hdu
    have e6 := Ex.new (o := .lst [V.int ((i : Int) + 1), .bl true, .bl false]) hdu
    have hdu6 : upd H5 du (.lst [V.int ((i : Int) + 1), .bl true, .bl false]) du = some (.lst [V.int ((i : Int) + 1), .bl true, .bl false]) := upd_same
    have hq6 := e6 _ _ hq5
    have hl6 := e6 _ _ hl5
    have d6 := d5.ex e6
    have hSp : Plain (spoil L i y) := spoil_plain hLp (plain_of hpy)
    have hSl : (spoil L i y).length ≤ 11 := Nat.le_trans (spoil_len (by omega)) (by omega)
    have hSne : spoil L i y ≠ [] := by unfold spoil; simp
    have hSx : ∀ x ∈ spoil L i y, x.length ≤ 100 := fun x hx => Nat.le_trans (hSp x hx).2 (by decide)
    have neq : ∀ n : Int, (!PyData.eqv (dueP n) (dueP n)) = false := fun n => by rw [due_eqv]; rfl
    -- 1
    refine ⟨_, rfl, q, spoil L i y, rfl, hq6, by omega, hSx, fun H7 e7 => ?_⟩
    refine ⟨_, (i : Int) + 1, rfl, wrong_whole (by omega) hSp (outs i y hi hb [""]), fun H8 p8 e8 hp8 hq8 => ?_⟩
    have hdu8 := e8 _ _ (e7 _ _ hdu6)
    refine ⟨_, rfl, _, _, dueD hq8, dueD hdu8, due_shaped _, due_shaped _, _, rfl, iteF' (neq _) ?_⟩
    have hq8' := e8 _ _ (e7 _ _ hq6)
    have hl8 := e8 _ _ (e7 _ _ hl6)
    have d8 := (d6.ex e7).ex e8
    -- 2
    refine ⟨_, rfl, _, rfl, _, rfl, D, s, rfl, d8, by omega, by omega, fun x2 H9 hx2 hne2 hpl2 k9 d9 => ?_⟩
    refine ⟨(by show 1 ≤ sizeLine; decide), fun p9 hp9 => ?_⟩
    have hq9 := k9 _ _ hqD hq8'
    have hdu9 := k9 _ _ hdD hdu8
    have hl9' := k9 _ _ hlD hl8
    refine ⟨q, p9, _, _, rfl, rfl, Ex.new hp9 _ _ hq9, upd_same, Nat.le_trans (by rw [List.length_map]; show (spoil L i y).length + 1 ≤ 1000; omega) (by decide), fun p10 hp10 => ?_⟩
    have e10 := (Ex.new (o := .lst [V.str x2]) hp9).trans (Ex.new (o := .lst ((spoil L i y).map V.str ++ [V.str x2])) hp10)
    have hS2p : Plain (spoil L i y ++ [x2]) := fun z hz => by
      rcases List.mem_append.mp hz with hz | hz
      · exact hSp z hz
      · rw [List.mem_singleton.mp hz]
        exact plain_of hpl2
    refine ⟨p10, spoil L i y ++ [x2], rfl, by rw [upd_same, List.map_append]; rfl, by rw [List.length_append]; show (spoil L i y).length + 1 ≤ 100; omega, fun x hx => Nat.le_trans (hS2p x hx).2 (by decide), fun H11 e11 => ?_⟩
    refine ⟨_, (i : Int) + 1, rfl, wrong_whole (by rw [List.length_append]; show (spoil L i y).length + 1 ≤ 14; omega) hS2p (by rw [List.append_assoc]; exact outs i y hi hb _), fun H12 p12 e12 hp12 hq12 => ?_⟩
    have eA := (e10.trans e11).trans e12
    refine ⟨_, rfl, _, _, dueD hq12, dueD (eA _ _ hdu9), due_shaped _, due_shaped _, _, rfl, iteF' (neq _) ?_⟩
    have hqB := eA _ _ hq9
    have hlB := eA _ _ hl9'
    have hdB := eA _ _ hdu9
    have dB := d9.ex eA
    -- 3
    have tl' : (textOf (spoil L i y)).length ≤ 1000 := Nat.le_trans (textOf_len _ 30 fun z hz => (hSp z hz).2) (Nat.le_trans (Nat.mul_le_mul_right _ hSl) (by decide))
    refine ⟨_, rfl, q, spoil L i y, rfl, hqB, by omega, hSx, fun H13 e13 => ?_⟩
    refine ⟨_, rfl, _, rfl, _, rfl, sz1000 tl', ?_⟩
    refine ⟨_, (i : Int) + 1, rfl, wrong_cut (by omega) hSp hSne (by have := outs i y hi hb []; rw [List.append_nil] at this; exact this), fun H14 p14 e14 hp14 hq14 => ?_⟩
    have eC := e13.trans e14
    refine ⟨_, rfl, _, _, dueD hq14, dueD (eC _ _ hdB), due_shaped _, due_shaped _, _, rfl, iteF' (neq _) ?_⟩
    have hlC := eC _ _ hlB
    have dC := dB.ex eC
    -- 4
    have tL : (textOf L).length ≤ 900 := Nat.le_trans (textOf_len _ 30 fun z hz => (hLp z hz).2) (Nat.le_trans (Nat.mul_le_mul_right _ (show L.length ≤ 10 by omega)) (by decide))
    have hLne : L ≠ [] := fun z => by rw [z] at hLl; simp at hLl
    have hlm : ((L.map V.str).length : Int) = (X.length : Int) + 1 := by rw [List.length_map, hLl]; rfl
    refine ⟨_, rfl, _, rfl, _, rfl, _, rfl, sz1000 (by omega), ?_⟩
    refine ⟨_, (X.length : Int) + 1, rfl, wrong_cut (by omega) hLp hLne out1, fun H15 p15 e15 hp15 hq15 => ?_⟩
    refine ⟨_, rfl, l, _, rfl, .inl (SqL.of (e15 _ _ hlC)), (by show 3 ≤ sizeLine; decide), fun p16 hp16 => ?_⟩
    rw [hlm]
    refine ⟨_, _, dueD (Ex.new hp16 _ _ hq15), dueD upd_same, due_shaped _, due_shaped _, _, rfl, iteF' (neq _) ?_⟩
    have lnl : ("\n" : Str).length = 1 := by decide +kernel
    have l01 : ("0 1" : Str).length = 3 := by decide +kernel
    have e22 : (X.length : Int) + 2 = (X.length : Int) + 1 + 1 := by omega
    rw [e22] at out2 out3
    have eD := e15.trans (Ex.new (o := .lst [V.int ((X.length : Int) + 1), .bl true, .bl false]) hp16)
    have hlD2 := eD _ _ hlC
    have dD := dC.ex eD
    -- 5
    have t5 : textOf L ++ ("\n" : Str) = textOf (L ++ [("" : Str)]) := by rw [textOf_snoc, emp_eq, app_emp]
    have hL2p : Plain (L ++ [("" : Str)]) := fun z hz => by
      rcases List.mem_append.mp hz with hz | hz
      · exact hLp z hz
      · rw [List.mem_singleton.mp hz]
        exact ⟨by unfold noLF; decide +kernel, by decide +kernel⟩
    refine ⟨_, rfl, _, _, rfl, rfl, sz1000 (by omega), ?_⟩
    refine ⟨_, (X.length : Int) + 1 + 1, rfl, ?_, fun H17 p17 e17 hp17 hq17 => ?_⟩
    · rw [t5]
      exact wrong_whole (by rw [List.length_append]; show L.length + 1 ≤ 14; omega) hL2p out2
    refine ⟨_, rfl, l, _, rfl, .inl (SqL.of (e17 _ _ hlD2)), _, _, rfl, rfl, (by show 3 ≤ sizeLine; decide), fun p18 hp18 => ?_⟩
    rw [hlm]
    refine ⟨_, _, dueD (Ex.new hp18 _ _ hq17), dueD upd_same, due_shaped _, due_shaped _, _, rfl, iteF' (neq _) ?_⟩
    have eE := e17.trans (Ex.new (o := .lst [V.int ((X.length : Int) + 1 + 1), .bl true, .bl false]) hp18)
    have hlE := eE _ _ hlD2
    have dE := dD.ex eE
    -- 6
    refine ⟨_, rfl, _, _, rfl, rfl, sz1000 (by omega), ?_⟩
    refine ⟨_, (X.length : Int) + 1 + 1, rfl, wrong_of (by omega) hLp ⟨by unfold noLF; decide +kernel, by decide +kernel⟩ out3, fun H19 p19 e19 hp19 hq19 => ?_⟩
    refine ⟨_, rfl, l, _, rfl, .inl (SqL.of (e19 _ _ hlE)), _, _, rfl, rfl, (by show 3 ≤ sizeLine; decide), fun p20 hp20 => ?_⟩
    rw [hlm]
    refine ⟨_, _, dueD (Ex.new hp20 _ _ hq19), dueD upd_same, due_shaped _, due_shaped _, _, rfl, iteF' (neq _) ?_⟩
    have eF := e19.trans (Ex.new (o := .lst [V.int ((X.length : Int) + 1 + 1), .bl true, .bl false]) hp20)
    have dF := dE.ex eF
    -- nothing
    refine ⟨_, rfl, (by show 1 ≤ sizeLine; decide), fun p21 hp21 => ⟨(by show 3 ≤ sizeLine; decide), fun p22 hp22 => ⟨_, rfl, D, 3, rfl, (dF.ex (Ex.new hp21)).ex (Ex.new hp22), by decide, fun r H23 h0' h1' k23 d23 => ?_⟩⟩⟩
    have hp22' := k23 _ _ (Kp.ne (dF.ex (Ex.new hp21)) hp22) (upd_same)
    have hp21' := k23 _ _ (Kp.ne dF hp21) (Ex.new hp22 _ _ (upd_same))
    obtain ⟨v, hv, hvn⟩ : ∃ v, atI [V.non, .int 7, .ref p21] r = some v ∧ NoText H23 v := by
      have hr3 : r = 0 ∨ r = 1 ∨ r = 2 := by omega
      rcases hr3 with rfl | rfl | rfl
      · exact ⟨_, atI_nat (j := 0) rfl, trivial⟩
      · exact ⟨_, atI_nat (j := 1) rfl, trivial⟩
      · exact ⟨_, atI_nat (j := 2) rfl, _, hp21'⟩
    refine ⟨p22, _, r, _, rfl, rfl, SqL.of hp22', hv, ?_⟩
    have t0 : textOf [] ++ ("" : Str) = "" := by decide +kernel
    have w0 : Wrong H23 (.str "") 1 := by
      have := wrong_of (H := H23) (init := []) (x := "") (n := 1) (by decide) (fun l h => by cases h) ⟨by unfold noLF; decide +kernel, by decide +kernel⟩ (Out.one "")
      rw [t0] at this
      exact this
    refine ⟨_, 1, rfl, w0, fun H24 p24 e24 hp24 hq24 => ⟨(by show 3 ≤ sizeLine; decide), fun p25 hp25 => ?_⟩⟩
    refine ⟨_, _, dueD (Ex.new hp25 _ _ hq24), dueD upd_same, due_shaped _, due_shaped _, _, rfl, iteT' (due_eqv _) ?_⟩
    refine ⟨_, rfl, v, 0, rfl, .inl ⟨(hvn.ex e24).ex (Ex.new hp25), rfl⟩, fun H26 p26 e26 hp26 hq26 => ⟨(by show 3 ≤ sizeLine; decide), fun p27 hp27 => ?_⟩⟩
    refine ⟨_, _, dueD (Ex.new hp27 _ _ hq26), dueD upd_same, due_shaped _, due_shaped _, ?_⟩
    rw [due_eqv]
    exact k _
end
end K01


set_option Elab.async false
set_option linter.all false
set_option maxRecDepth 100000
set_option maxHeartbeats 8000000
namespace K01
open PySem PySem.Spec PyProof.Rows L2
open Evl (Ex)
theorem _root_.L2.PS.nrm {X : Cx} {st : Stmt} {t : TS} (h : PS X st t) : PS X st (fun D σ H => ∃ σ', σ = σ' ∧ t D σ' H) := h.imp fun D σ H ⟨σ', e, q⟩ => by
  subst e
  exact q
theorem MArg.copy {H H' : Hp} {s : Int} {a g p p' : Addr} {us : List V} {rs : List (Int × Int)} {ns : List Int} (h : MArg H s a g us rs ns) (e : Ex H H') (h1 : H' p = some (.lst us)) (h2 : H' p' = some (.lst (ns.map V.int))) : MArg H' s p p' us rs ns :=
  ⟨h1, h.runs.ex e, h.fits, h.few, h2, h.asc, h.inn, h.size⟩
def scale (t : Int) (r : Int × Int) : Int × Int := (r.1 * t, r.2 * t)
theorem scale_fits {s t : Int} {r : Int × Int} (ht : t = 1 ∨ t = 3) (h : Fits s r) : Fits (s * t) (scale t r) := by
  obtain ⟨h0, h1, h2⟩ := h
  unfold scale
  rcases ht with rfl | rfl
  · exact ⟨by show 0 ≤ r.1 * 1; omega, by show r.1 * 1 < r.2 * 1; omega, by show r.2 * 1 ≤ s * 1; omega⟩
  · exact ⟨by show 0 ≤ r.1 * 3; omega, by show r.1 * 3 < r.2 * 3; omega, by show r.2 * 3 ≤ s * 3; omega⟩
theorem mLines_plain {kd : Str} {s : Int} {X : List Part} (hkd : kd = "join" ∨ kd = "lap") (hs : 1 ≤ s ∧ s ≤ 30) (hX : ∀ x ∈ X, Fits s x.1) : Plain (headOf kd s :: X.map lineP) := fun x hx => by
  rcases List.mem_cons.mp hx with rfl | hx
  · exact ⟨(head_back hkd hs).2, Nat.le_trans (headOf_len (by rcases hkd with rfl | rfl <;> decide +kernel) (by omega)) (by decide)⟩
  · obtain ⟨y, hy, rfl⟩ := List.mem_map.mp hx
    exact ⟨line_noLF (by omega) (hX y hy), Nat.le_trans (lineOf_len ((hX y hy).mono (by omega))) (by decide)⟩
/-- the text of a market is read back -/
theorem from_text {K : PySem.W.Frag} {H : Hp} {kd : Str} {s : Int} {rs : List (Int × Int)} {ns : List Int} {Q : VK} {E : XK} {x : Str} (hx : x = textOf (mLines kd s rs ns rs.length)) (hkd : kd = "join" ∨ kd = "lap") (hs : 1 ≤ s ∧ s ≤ 30) (hF : ∀ r ∈ rs, Fits s r) (hl : rs.length ≤ 12) (asc : ns.Pairwise (· < ·)) (inn : ∀ n ∈ ns, 0 ≤ n ∧ n < rs.length)
    (k : ∀ H' y us, Ex H H' → H y = none → Mkt K H' y kd s us rs ns → Q (.ref y) H') : spFrom K [.str x] H Q E := by
  subst hx
  have hX := parts_fit (ns := ns) hF
  have hp := mLines_plain hkd hs hX
  have hL := parts_len rs ns
  rw [mLines_parts]
  have hsp : Txt.split (textOf (headOf kd s :: (partsOf rs ns).map lineP)) "\n" = (headOf kd s :: (partsOf rs ns).map lineP) ++ [("" : Str)] := by
    rw [textOf_parts]
    refine split_nl (by simp) fun p hq => ?_
    rcases List.mem_append.mp hq with hq | hq
    · exact (hp p hq).1
    · rw [List.mem_singleton.mp hq]
      unfold noLF
      decide +kernel
  have hlen : (headOf kd s :: (partsOf rs ns).map lineP).length = rs.length + 1 := by rw [List.length_cons, List.length_map, hL]
  refine .inr ⟨_, .inr (kd, s, partsOf rs ns), rfl, ?_, ?_, ?_, ?_, (fun n z => by cases z), fun k' s' xs z H' y us e hy M => ?_⟩
  · have h1 := textOf_len _ 30 fun l hl => (hp l hl).2
    rw [hlen] at h1
    have h2 : (rs.length + 1) * 31 ≤ 13 * 31 := Nat.mul_le_mul_right _ (by omega)
    omega
  · rw [hsp, List.length_append, hlen]
    show rs.length + 1 + 1 ≤ 50
    omega
  · rw [hsp]
    intro p hq
    rcases List.mem_append.mp hq with hq | hq
    · have := (hp p hq).2
      omega
    · rw [List.mem_singleton.mp hq]
      decide +kernel
  · rw [hsp]
    exact out_ok (head_back hkd hs).1 hX
  · cases z
    rw [bodies_parts, gones_parts asc inn] at M
    exact k H' y us e hy M
/-- texts tell kinds apart -/
theorem text_kind {kd kd' : Str} {s s' : Int} {rs : List (Int × Int)} {ns : List Int} (hkd : kd = "join" ∨ kd = "lap") (hkd' : kd' = "join" ∨ kd' = "lap") (hs : 1 ≤ s ∧ s ≤ 30) (hF : ∀ r ∈ rs, Fits s r) (h : textOf (mLines kd s rs ns rs.length) = textOf (mLines kd' s rs ns rs.length)) : kd = kd' := by
  have go : ∀ k : Str, (k = "join" ∨ k = "lap") → Txt.split (textOf (mLines k s rs ns rs.length)) "\n" = (headOf k s :: (partsOf rs ns).map lineP) ++ [("" : Str)] := fun k hk => by
    have hp := mLines_plain hk hs (parts_fit (ns := ns) hF)
    rw [mLines_parts, textOf_parts]
    refine split_nl (by simp) fun p hq => ?_
    rcases List.mem_append.mp hq with hq | hq
    · exact (hp p hq).1
    · rw [List.mem_singleton.mp hq]
      unfold noLF
      decide +kernel
  have e := go kd hkd
  rw [h, go kd' hkd'] at e
  have e2 : headOf kd' s = headOf kd s := by
    have := List.cons.inj e
    exact this.1
  have r1 := (head_back hkd hs).1
  have r2 := (head_back hkd' hs).1
  rw [e2, r1] at r2
  have := Option.some.inj (Option.some.inj r2)
  exact congrArg Prod.fst this
section
variable {w : World} {K : PySem.W.Frag} {mg : Str → Option Value} {base : Heap}
def rMEq (K : PySem.W.Frag) : R2 := fun x y H Q => rOwnEq K (He.ga K "Join") (spEqM K) x y H Q ∨ rOwnEq K (He.ga K "Lap") (spEqM K) x y H Q
theorem op_meq {X : Cx} (hK : X.K = K) (T : Ctx K mg) (hX : X.prog = PP) (hw : X.w = w) (hm : X.mg = mg) (hb : X.base = base) (hr : Room 1 X.A) : OpR X (compareOp .Eq) (rMEq K) := by
  subst hK hw hm hb
  obtain ⟨fd, F⟩ := T.d_Market___eq__
  have ok : FnOk X.prog X.w X.K X.mg X.base CX0 1 (He.ma X.K (He.ga X.K "Market") "__eq__") fd ["self", "other"] (spEqM X.K) := by
    rw [hX]
    exact ok_eq (w := X.w) (base := X.base) T F
  have b : Binds X.K fd ["self", "other"] [] := F.bindsN (fun _ _ _ _ _ _ us hl => match us, hl with | [_, _], _ => rfl)
  exact (op_ownEq ok T.f__eq___Join T.i__eq__ b hr).or (op_ownEq ok T.f__eq___Lap T.i__eq__ b hr)
theorem meq_ok (T : Ctx K mg) {H : Hp} {x y : Addr} {k k' : Str} {s s' : Int} {us us' : List V} {rs rs' : List (Int × Int)} {ns ns' : List Int} {Q : VK} (M : Mkt K H x k s us rs ns) (M' : Mkt K H y k' s' us' rs' ns') (q : Q (.bl (decide (k = k' ∧ s = s' ∧ rs = rs' ∧ ns = ns'))) H) : rMEq K (.ref x) (.ref y) H Q := by
  obtain ⟨C, dx, pr, pg, hM, h1, h2, h3⟩ := M.ob
  obtain ⟨C', dx', pr', pg', hM', h1', h2', h3'⟩ := M'.ob
  have nf : PySem.W.notFirst K C (.ref C') = true := by
    rcases hM with ⟨rfl, _⟩ | ⟨rfl, _⟩ <;> rcases hM' with ⟨rfl, _⟩ | ⟨rfl, _⟩
    · exact T.nf_Join_Join
    · exact T.nf_Join_Lap
    · exact T.nf_Lap_Join
    · exact T.nf_Lap_Lap
  have z : rOwnEq K C (spEqM K) (.ref x) (.ref y) H Q := ⟨x, y, C', dx, dx', _, _, rfl, rfl, h1, h1', nf, x, k, s, us, rs, ns, y, k', s', us', rs', ns', rfl, M, M', _, rfl, q⟩
  rcases hM with ⟨rfl, _⟩ | ⟨rfl, _⟩
  · exact .inl z
  · exact .inr z
def rMLen (K : PySem.W.Frag) : List V → Hp → VK → Prop := fun xs H Q => rOwnLen (He.ga K "Join") (spLen K) xs H Q ∨ rOwnLen (He.ga K "Lap") (spLen K) xs H Q
theorem call_mlen {X : Cx} (hK : X.K = K) (T : Ctx K mg) (hX : X.prog = PP) (hw : X.w = w) (hm : X.mg = mg) (hb : X.base = base) (hr : Room 2 X.A) : CallR X (.builtin "len") (rMLen K) := by
  subst hK hw hm hb
  obtain ⟨fd, F⟩ := T.d_Market___len__
  have ok : FnOk X.prog X.w X.K X.mg X.base CX0 1 (He.ma X.K (He.ga X.K "Market") "__len__") fd ["self"] (spLen X.K) := by
    rw [hX]
    exact ok_len (w := X.w) (base := X.base) T F
  have b : Binds X.K fd ["self"] [] := F.bindsN (fun _ _ _ _ _ _ us hl => match us, hl with | [_], _ => rfl)
  exact (call_lenOwn ok T.f__len___Join T.i__len__ b hr).or (call_lenOwn ok T.f__len___Lap T.i__len__ b hr)
theorem mlen_ok {H : Hp} {x : Addr} {k : Str} {s : Int} {us : List V} {rs : List (Int × Int)} {ns : List Int} {Q : VK} (M : Mkt K H x k s us rs ns) (hl : us.length ≤ 1000) (q : Q (.int us.length) H) : rMLen K [.ref x] H Q := by
  obtain ⟨C, dx, pr, pg, hM, h1, h2, h3⟩ := M.ob
  have z : rOwnLen C (spLen K) [.ref x] H Q := ⟨x, dx, _, rfl, h1, x, k, s, us, rs, ns, rfl, M, us.length, rfl, by omega, q⟩
  rcases hM with ⟨rfl, _⟩ | ⟨rfl, _⟩
  · exact .inl z
  · exact .inr z
theorem ix_tupK {X : Cx} (h : X.K = K) : IxR X (rIxT K) := by
  subst h
  exact ix_tup
def spLaw (K : PySem.W.Frag) : Sp := fun vs H Q _ => ∃ (a : Addr) (ns : List Int), vs = [.ref a] ∧ SqL K H a (ns.map V.int) ∧ ns.length ≤ 63 ∧ ∀ H', Q (.bl true) H'
theorem sc_law : FnScope ["_law_script", "_law_draws_here", "_law_kind_here", "_law_drawn", "_law_times", "_law_size", "_law_runs", "_law_run", "_law_absent", "_law_part", "_law_market_here", "_law_lines_here", "_law_whole", "_law_text", "_law_back", "_law_other", "_law_longer", "_law_widest"] ["_law_script"] (defScope s_law) := ⟨rfl, rfl, rfl, by decide +kernel, rfl, by decide +kernel, by decide +kernel⟩
theorem pass_none {X : Cx} (hX : X.prog = PP) (hw : X.w = w) : Passes (L2.CX PP w) X E0 := by
  rw [← hX, ← hw]
  exact passes_call (W := fun _ _ _ _ => False) takes0 (fun _ _ _ _ h => h)
theorem ok_law (T : Ctx K mg) {fd : FuncData} (F : FunD K "law" "law" (defArgs s_law) (defBody s_law) (defScope s_law) [] [] (He.ga K "law") fd) : FnOk PP w K mg base CX0 11 (He.ga K "law") fd ["_law_script"] (spLaw K) := by
  obtain ⟨f1, fd1, m1, kp1, F1, b1⟩ := has_draws (w := w) (base := base) T
  obtain ⟨f2, fd2, m2, kp2, F2, b2⟩ := has_kind (w := w) (base := base) T
  obtain ⟨f3, fd3, m3, kp3, F3, b3⟩ := has_mk (w := w) (base := base) T
  obtain ⟨f4, fd4, m4, kp4, F4, b4⟩ := has_take (w := w) (base := base) T
  obtain ⟨f5, fd5, m5, kp5, F5, b5⟩ := has_built (w := w) (base := base) T
  obtain ⟨f6, fd6, m6, kp6, F6, b6⟩ := has_lines (w := w) (base := base) T
  obtain ⟨f7, fd7, m7, kp7, F7, b7⟩ := has_joined (w := w) (base := base) T
  obtain ⟨f8, fd8, m8, kp8, F8, b8⟩ := has_market_text (w := w) (base := base) T
  obtain ⟨f9, fd9, m9, kp9, F9, b9⟩ := has_market_from (w := w) (base := base) T
  obtain ⟨fA, fdA, mA, kpA, FA, bA⟩ := has_tr (w := w) (base := base) T
  refine ok0 F sc_law (fun vs H Q E h => ?_) (fun cdv A outer s0 H vs Q E hr h => ?_)
  · obtain ⟨a, ns, rfl, _⟩ := h
    rfl
  · obtain ⟨a, ns, rfl, hS, h63, k⟩ := h
    have nd := sc_law.nd
    have hr1 := hr.mono (show 1 ≤ 10 by decide)
    have hr2 := hr.mono (show 2 ≤ 10 by decide)
    have hr3 := hr.mono (show 3 ≤ 10 by decide)
    have hr8 := hr.mono (show 8 ≤ 10 by decide)
    have hu := hr.units
    refine ⟨_, pss_cons (ps_set (i := 1) nd rfl (.inr rfl) (pe_call F1 hr1 (by rfl) m1 kp1 b1 .nil pass0 (pa_cons (pv 0) pa_nil)))
      (pss_cons (ps_set (i := 2) nd rfl (.inl rfl) (pe_call F2 hr2 (by rfl) m2 kp2 b2 .nil pass0 (pa_cons (pv 1) pa_nil)))
      (pss_cons (ps_set (i := 3) nd rfl (.inl rfl) (pe_call F3 hr3 (by rfl) m3 kp3 b3 .nil pass0 (pa_cons (pv 1) (pa_cons pe_int pa_nil))))
      (pss_cons (ps_set (i := 4) nd rfl (.inr rfl) (pe_ix ix_list (pe_lst (pa_cons pe_int (pa_cons pe_int pa_nil))) (pe_call F4 hr1 (by rfl) m4 kp4 b4 .nil pass0 (pa_cons (pv 1) (pa_cons pe_int pa_nil))) (fun _ _ => rfl)))
      (pss_cons (ps_set (i := 5) nd rfl (.inl rfl) (pe_op op_mul (pe_ix ix_list (pv 3) pe_int (fun _ _ => rfl)) (pv 4)))
      (pss_cons (ps_setLc (own := [("_law_run", 7)]) (i := 6) (g := gName 7) (tt := tYes) rfl nd rfl rfl rfl (pi_list (pe_ix ix_list (pv 3) pe_int (fun _ _ => rfl))) (blkOk_by (own := [("_law_run", 7)]) (N := ["_law_script", "_law_draws_here", "_law_kind_here", "_law_drawn", "_law_times", "_law_size", "_law_runs", "_law_run", "_law_absent", "_law_part", "_law_market_here", "_law_lines_here", "_law_whole", "_law_text", "_law_back", "_law_other", "_law_longer", "_law_widest"]) (sc := defScope s_law) (by decide +kernel)) (fun _ _ _ _ _ => pg_name (i := 7) nd rfl (Or.inl rfl)) (fun _ _ _ _ _ => pts_nil)
        (fun _ _ _ _ _ => pe_tup (pa_cons (pe_op op_mul (pe_ix (ix_tupK (K := K) rfl) (pv 7) pe_int (fun _ _ => rfl)) (pv 4)) (pa_cons (pe_op op_mul (pe_ix (ix_tupK (K := K) rfl) (pv 7) pe_int (fun _ _ => rfl)) (pv 4)) pa_nil))))
      (pss_cons (ps_setLc (own := [("_law_part", 9)]) (i := 8) (g := gName 9) rfl nd rfl rfl rfl (pi_range1 (by rfl) T.b_range (pa_cons (pe_callB call_len_seq (by rfl) T.b_len PySem.boot_len (pa_cons (pv 6) pa_nil)) pa_nil)) (blkOk_by (own := [("_law_part", 9)]) (N := ["_law_script", "_law_draws_here", "_law_kind_here", "_law_drawn", "_law_times", "_law_size", "_law_runs", "_law_run", "_law_absent", "_law_part", "_law_market_here", "_law_lines_here", "_law_whole", "_law_text", "_law_back", "_law_other", "_law_longer", "_law_widest"]) (sc := defScope s_law) (by decide +kernel)) (fun _ _ _ _ _ => pg_name (i := 9) nd rfl (Or.inl rfl))
        (fun _ _ _ _ _ => pts_one (pt_cmpR op_eq (pe_call F4 hr1 (by rfl) m4 kp4 b4 .nil pass0 (pa_cons (pv 1) (pa_cons pe_int pa_nil))) pe_int (nomark _))) (fun _ _ _ _ _ => pv 9))
      (pss_cons (PS.nrm (ps_set (i := 10) nd rfl (.inl rfl) (pe_call F5 hr8 (by rfl) m5 kp5 b5 .nil pass0 (pa_cons (pv 2) (pa_cons (pv 5) (pa_cons (pe_callTy call_list_of (by rfl) T.b_list (by decide +kernel) (pa_cons (pv 6) pa_nil)) (pa_cons (pe_callTy call_list_of (by rfl) T.b_list (by decide +kernel) (pa_cons (pv 8) pa_nil)) pa_nil)))))))
      (pss_cons (ps_set (i := 11) nd rfl (.inl rfl) (pe_call F6 hr1 (by rfl) m6 kp6 b6 .nil pass0 (pa_cons (pv 2) (pa_cons (pv 5) (pa_cons (pv 6) (pa_cons (pv 8) pa_nil))))))
      (pss_cons (ps_set (i := 12) nd rfl (.inl rfl) (pe_call F7 hr1 (by rfl) m7 kp7 b7 .nil pass0 (pa_cons (pv 11) pa_nil)))
      (pss_cons (ps_set (i := 13) nd rfl (.inl rfl) (pe_call F8 hr1 (by rfl) m8 kp8 b8 .nil pass0 (pa_cons (pv 10) pa_nil)))
      (pss_cons (PS.nrm (ps_if (PW.pt (pw_or (pt_not (pt_val (pe_callB call_isi (by rfl) T.b_isinstance (by decide +kernel) (pa_cons (pv 13) (pa_cons (pe_bltn (by rfl) T.b_str (by decide +kernel) (v := .ty "str") rfl) pa_nil))))) (pw_or1 (pt_cmpR op_ne (pv 13) (pv 12) (nomark _))))) (pss_one (ps_ret pe_bl)) pss_nil))
      (pss_cons (ps_set (i := 14) nd rfl (.inl rfl) (pe_call F9 hr8 (by rfl) m9 kp9 b9 .nil (pass_none rfl rfl) (pa_cons (pv 12) pa_nil)))
      (pss_cons (PS.nrm (ps_if (PW.pt (pw_or (pt_cmpR op_ne (pe_con (pv 14) rfl) (pv 2) (nomark _)) (pw_or (pt_cmpR op_ne (pe_fld (pv 14) rfl) (pv 5) (nomark _)) (pw_or (pt_cmpR (op_neD hu) (pe_fld (pv 14) rfl) (pe_callTy call_tuple_of (by rfl) T.b_tuple (by decide +kernel) (pa_cons (pv 6) pa_nil)) (nomark _)) (pw_or1 (pt_cmpR (op_neD hu) (pe_fld (pv 14) rfl) (pe_callTy call_tuple_of (by rfl) T.b_tuple (by decide +kernel) (pa_cons (pv 8) pa_nil)) (nomark _))))))) (pss_one (ps_ret pe_bl)) pss_nil))
      (pss_cons (PS.nrm (ps_if (PW.pt (pw_or (pt_not (pt_cmpR (op_meq rfl T rfl rfl rfl rfl hr1) (pv 14) (pv 10) (nomark _))) (pw_or1 (pt_cmpR op_ne (pe_call F8 hr1 (by rfl) m8 kp8 b8 .nil pass0 (pa_cons (pv 14) pa_nil)) (pv 12) (nomark _))))) (pss_one (ps_ret pe_bl)) pss_nil))
      (pss_cons (PS.nrm (ps_set (i := 15) nd rfl (.inl rfl) (pe_call F5 hr8 (by rfl) m5 kp5 b5 .nil pass0 (pa_cons (pe_ix ix_list (pe_lst (pa_cons pe_str (pa_cons pe_str pa_nil))) (pe_callTy call_int1 (by rfl) T.b_int (by decide +kernel) (pa_cons (pe_cmpR op_eq (pv 2) pe_str (nomark _)) pa_nil)) (fun _ _ => rfl)) (pa_cons (pv 5) (pa_cons (pe_callTy call_list_of (by rfl) T.b_list (by decide +kernel) (pa_cons (pv 6) pa_nil)) (pa_cons (pe_callTy call_list_of (by rfl) T.b_list (by decide +kernel) (pa_cons (pv 8) pa_nil)) pa_nil)))))))
      (pss_cons (PS.nrm (ps_if (PW.pt (pw_or (pt_cmpR (op_meq rfl T rfl rfl rfl rfl hr1) (pv 14) (pv 15) (nomark _)) (pw_or1 (pt_cmpR op_eq (pe_call F8 hr1 (by rfl) m8 kp8 b8 .nil pass0 (pa_cons (pv 15) pa_nil)) (pv 12) (nomark _))))) (pss_one (ps_ret pe_bl)) pss_nil))
      (pss_cons (PS.nrm (ps_set (i := 16) nd rfl (.inl rfl) (pe_call F5 hr8 (by rfl) m5 kp5 b5 .nil pass0 (pa_cons (pv 2) (pa_cons (pv 5) (pa_cons (pe_op op_cat (pe_callTy call_list_of (by rfl) T.b_list (by decide +kernel) (pa_cons (pv 6) pa_nil)) (pe_lst (pa_cons (pe_tup (pa_cons pe_int (pa_cons (pv 5) pa_nil))) pa_nil))) (pa_cons (pe_callTy call_list_of (by rfl) T.b_list (by decide +kernel) (pa_cons (pv 8) pa_nil)) pa_nil)))))))
      (pss_cons (PS.nrm (ps_if (PW.pt (pw_or (pt_cmpR (op_meq rfl T rfl rfl rfl rfl hr1) (pv 14) (pv 16) (nomark _)) (pw_or (pt_cmpR (op_meq rfl T rfl rfl rfl rfl hr1) (pe_call F9 hr8 (by rfl) m9 kp9 b9 .nil (pass_none rfl rfl) (pa_cons (pe_call F8 hr1 (by rfl) m8 kp8 b8 .nil pass0 (pa_cons (pv 16) pa_nil)) pa_nil)) (pv 14) (nomark _)) (pw_or1 (pt_cmpR op_ne (pe_callB (call_mlen rfl T rfl rfl rfl rfl hr2) (by rfl) T.b_len PySem.boot_len (pa_cons (pv 16) pa_nil)) (pe_op op_add (pe_callB call_len_seq (by rfl) T.b_len PySem.boot_len (pa_cons (pv 6) pa_nil)) pe_int) (nomark _)))))) (pss_one (ps_ret pe_bl)) pss_nil))
      (pss_cons (PS.nrm (ps_set (i := 17) nd rfl (.inl rfl) (pe_call F9 hr8 (by rfl) m9 kp9 b9 .nil (pass_none rfl rfl) (pa_cons (pe_op op_add_str (pv 2) pe_str) pa_nil))))
      (pss_cons (PS.nrm (ps_if (PW.pt (pw_or (pt_cmpR op_ne (pe_fld (pv 17) rfl) pe_int (nomark _)) (pw_or (pt_cmpR (op_neD hu) (pe_fld (pv 17) rfl) (pe_tup pa_nil) (nomark _)) (pw_or (pt_cmpR op_ne (pe_con (pv 17) rfl) (pv 2) (nomark _)) (pw_or1 (pt_cmpR (op_meq rfl T rfl rfl rfl rfl hr1) (pv 14) (pv 17) (nomark _))))))) (pss_one (ps_ret pe_bl)) pss_nil))
      (pss_cons (PS.nrm (ps_if (pt_cmpR (op_meq rfl T rfl rfl rfl rfl hr1) (pv 14) (pe_call F5 hr8 (by rfl) m5 kp5 b5 .nil pass0 (pa_cons (pv 2) (pa_cons (pe_op op_add (pv 5) pe_int) (pa_cons (pe_callTy call_list_of (by rfl) T.b_list (by decide +kernel) (pa_cons (pv 6) pa_nil)) (pa_cons (pe_callTy call_list_of (by rfl) T.b_list (by decide +kernel) (pa_cons (pv 8) pa_nil)) pa_nil))))) (nomark _)) (pss_one (ps_ret pe_bl)) pss_nil))
      (pss_cons (PS.nrm (ps_if (PW.pt (pw_and (pt_cmpR op_gt (pe_callB call_len_seq (by rfl) T.b_len PySem.boot_len (pa_cons (pv 8) pa_nil)) pe_int (nomark _)) (pw_and1 (pt_cmpR (op_meq rfl T rfl rfl rfl rfl hr1) (pv 14) (pe_call F5 hr8 (by rfl) m5 kp5 b5 .nil pass0 (pa_cons (pv 2) (pa_cons (pv 5) (pa_cons (pe_callTy call_list_of (by rfl) T.b_list (by decide +kernel) (pa_cons (pv 6) pa_nil)) (pa_cons (pe_slice sl_list (pv 8) (po_some pe_int) po_none) pa_nil))))) (nomark _))))) (pss_one (ps_ret pe_bl)) pss_nil))
      (pss_one (ps_ret (pe_call FA hr (by rfl) mA kpA bA .nil pass0 (pa_cons (pv 1) (pa_cons (pv 11) (pa_cons (pv 2) (pa_cons (pv 5) pa_nil))))))))))))))))))))))))))))), ?_⟩
    refine ⟨_, rfl, a, ns, rfl, hS, h63, fun H1 D e1 hD0 d1 => ?_⟩
    refine ⟨_, rfl, D, rfl, d1, fun kd H2 hkd k2 d2 => ?_⟩
    refine ⟨_, rfl, D, rfl, d2, fun L M ab s us rs H3 k3 d3 hM hL hL3 hM3 R3 hF hs1 hs8 hl9 => ?_⟩
    have hLD := Kp.ne d2 hL
    have hMD := Kp.ne d2 hM
    refine ⟨(by show 2 ≤ sizeLine; decide), fun p4 hp4 => ⟨_, rfl, D, 2, rfl, d3.ex (Ex.new hp4), by decide, fun r H4 h0 h1 k4 d4 => ?_⟩⟩
    obtain ⟨t, hat, ht⟩ : ∃ t : Int, atI [V.int 1, .int 3] r = some (.int t) ∧ (t = 1 ∨ t = 3) := by
      have hr : r = 0 ∨ r = 1 := by omega
      rcases hr with rfl | rfl
      · exact ⟨1, atI_nat (j := 0) rfl, .inl rfl⟩
      · exact ⟨3, atI_nat (j := 1) rfl, .inr rfl⟩
    refine ⟨p4, _, r, _, rfl, rfl, SqL.of (k4 _ _ (Kp.ne d3 hp4) upd_same), hat, ?_⟩
    have hL4 := k4 _ _ hLD (Ex.new hp4 _ _ hL3)
    have hM4 := k4 _ _ hMD (Ex.new hp4 _ _ hM3)
    have R4 := k4.runs (d3.ex (Ex.new hp4)) (R3.ex (Ex.new hp4))
    have t3 : 1 ≤ t ∧ t ≤ 3 := by rcases ht with rfl | rfl <;> decide
    refine ⟨_, rfl, L, _, 0, _, rfl, rfl, SqL.of hL4, atI_nat (j := 0) rfl, _, rfl, _, _, rfl, rfl, .inr ⟨by omega, by omega⟩, ?_⟩
    have hsz : 1 ≤ s * t ∧ s * t ≤ 24 := by rcases ht with rfl | rfl <;> omega
    refine ⟨_, rfl, L, _, 1, _, rfl, rfl, SqL.of hL4, atI_nat (j := 1) rfl, M, rfl, ⟨_, SqL.of hM4⟩, fun R hR => lc_it walk_list (fun i H' => Ex H4 H' ∧ ∃ us', H' R = some (.lst us') ∧ Runs H' us' ((rs.map (scale t)).take i)) ⟨Ex.new hR, [], upd_same, Runs.nil⟩ (fun i H' _ q => SqL.of (q.1 _ _ hM4)) ?_ ?_⟩
    · rintro i x H5 H6 hi ⟨e5, us', hR5, R5⟩ ⟨rfl, hx⟩
      obtain ⟨tt, q, hq, rfl, htt⟩ := (R4.ex e5).get hx
      refine ⟨rfl, tYesI ?_⟩
      refine ⟨_, rfl, tt, _, 0, _, rfl, rfl, SqT.of htt, atI_nat (j := 0) rfl, _, rfl, _, _, rfl, rfl, .inr ⟨by omega, by omega⟩, ?_⟩
      refine ⟨_, rfl, tt, _, 1, _, rfl, rfl, SqT.of htt, atI_nat (j := 1) rfl, _, rfl, _, _, rfl, rfl, .inr ⟨by omega, by omega⟩, ?_⟩
      refine ⟨(by show 2 ≤ sizeLine; decide), fun p hp => ?_⟩
      have hl5 := R5.len
      rw [List.length_take] at hl5
      have eN := Ex.new (o := .tup [V.int (q.1 * t), V.int (q.2 * t)]) hp
      refine ⟨us', eN _ _ hR5, small1000 (by have := R4.len; omega), Evl.Ex.mut (e5.trans eN) hR, us' ++ [.ref p], upd_same, ?_⟩
      have etk : (rs.map (scale t)).take (i + 1) = (rs.map (scale t)).take i ++ [scale t q] := by
        rw [List.take_add_one, List.getElem?_map, hq]
        rfl
      rw [etk]
      refine Runs.snoc ((R5.ex eN).mono fun t' ys e => by rw [upd_ne (ne_of e (eN _ _ hR5) (by intro z; cases z))]; exact e) ?_
      rw [upd_ne (ne_of upd_same (eN _ _ hR5) (by intro z; cases z)), upd_same]
      rfl
    rintro H5 ⟨e5, us2, hR5, R5⟩
    have hrl : (rs.map (scale t)).length = rs.length := List.length_map ..
    rw [R4.len, ← hrl, List.take_length] at R5
    have hF2 : ∀ r ∈ rs.map (scale t), Fits (s * t) r := fun r hr => by
      obtain ⟨q, hq, rfl⟩ := List.mem_map.mp hr
      exact scale_fits ht (hF q hq)
    rw [← hrl] at hl9
    generalize rs.map (scale t) = rs2 at *
    have d5 := d4.ex e5
    have hRD : R ≠ D := Kp.ne d4 hR
    have hus2 := R5.len
    refine ⟨_, rfl, R, us2, rfl, .inl (SqL.of hR5), _, rfl, ?_, ?_, fun A hA => lc_it walk_range (fun i H' => Kp D H5 H' ∧ Dr D H' ∧ ∃ gs : List Int, H' A = some (.lst (gs.map V.int)) ∧ gs.Pairwise (· < ·) ∧ (∀ n ∈ gs, 0 ≤ n ∧ n < i)) ⟨Kp.of (Ex.new hA), d5.ex (Ex.new hA), [], upd_same, List.Pairwise.nil, fun n h => by cases h⟩ (fun _ _ _ _ => trivial) ?_ ?_⟩
    · omega
    · omega
    · rintro i x H6 H7 hi ⟨k6, d6, gs, hA6, asc, inn⟩ ⟨rfl, rfl⟩
      refine ⟨rfl, ?_⟩
      refine ⟨_, rfl, D, 4, rfl, d6, by decide, fun q H8 h2 h3 k8 d8 => ⟨rfl, _, rfl, ?_⟩⟩
      have hA0 : H5 A = none := hA
      have hAD : A ≠ D := Kp.ne d5 hA
      have hA8 := k8 _ _ hAD hA6
      have k58 := k6.trans k8
      have hgl : (gs.length : Int) ≤ (i : Int) - 0 := asc_few asc inn (by omega)
      have hi9 : i < 100 := by omega
      by_cases c : V.int q = V.int 3
      · refine iteT' (decide_eq_true c) ⟨_, rfl, _, hA8, by rw [List.length_map]; exact small1000 (by omega), k58.mut hA, ?_, gs ++ [(i : Int)], ?_, ?_, ?_⟩
        · obtain ⟨ms, hms⟩ := d8
          exact ⟨ms, by rw [upd_ne (Ne.symm hAD)]; exact hms⟩
        · rw [upd_same, List.map_append]
          simp
        · rw [List.pairwise_append]
          refine ⟨asc, List.pairwise_singleton _ _, fun a ha b hb => ?_⟩
          have := inn a ha
          have : b = i := by simpa using hb
          omega
        · intro n hn
          rcases List.mem_append.mp hn with hn | hn
          · have := inn n hn
            omega
          · have : n = i := by simpa using hn
            omega
      · exact iteF' (decide_eq_false c) ⟨k58, d8, gs, hA8, asc, fun n hn => by have := inn n hn; omega⟩
    rintro H6 ⟨k6, d6, gs, hA6, asc, inn⟩
    have hR6 := k6 _ _ hRD hR5
    have R6 := k6.runs d5 R5
    have inn2 : ∀ n ∈ gs, 0 ≤ n ∧ n < rs2.length := fun n hn => by
      have := inn n hn
      have h2 : (us2.length : Int).toNat = rs2.length := by omega
      rw [h2] at this
      exact this
    have A0 : MArg H6 (s * t) R A us2 rs2 gs := ⟨hR6, R6, hF2, by omega, hA6, asc, fun n hn => by rw [hus2]; exact inn2 n hn, by omega⟩
    have F50 : ∀ r ∈ rs2, Fits 50 r := fun r hr => (hF2 r hr).mono (by omega)
    have hLp : Plain (mLines kd (s * t) rs2 gs rs2.length) := by
      rw [mLines_parts]
      exact mLines_plain hkd (by omega) (parts_fit hF2)
    have hLl : (mLines kd (s * t) rs2 gs rs2.length).length = rs2.length + 1 := by
      rw [mLines_parts, List.length_cons, List.length_map, parts_len]
    -- the market
    refine ⟨[some (.ref a), some (.ref D), some (.str kd), some (.ref L), some (.int t), some (.int (s * t)), some (.ref R), none, some (.ref A), none, none, none, none, none, none, none, none, none], rfl, ?_⟩
    refine ⟨_, rfl, _, rfl, _, rfl, R, us2, rfl, .inl (SqL.of hR6), fun p1 hp1 => ⟨_, rfl, A, _, rfl, .inl (SqL.of (Ex.new hp1 _ _ hA6)), fun p2 hp2 => ⟨kd, (s * t), p1, p2, us2, rs2, gs, rfl, hkd, A0.copy ((Ex.new hp1).trans (Ex.new hp2)) (Ex.new hp2 _ _ upd_same) upd_same, fun m H7 e7 hm Mm => ?_⟩⟩⟩
    have eA := ((Ex.new hp1).trans (Ex.new hp2)).trans e7
    refine ⟨_, rfl, _, rfl, _, rfl, _, rfl, kd, (s * t), R, A, us2, rs2, gs, rfl, hkd, A0.copy eA (eA _ _ hR6) (eA _ _ hA6), fun l H8 e8 hl hl8 => ?_⟩
    refine ⟨_, rfl, l, mLines kd (s * t) rs2 gs rs2.length, rfl, hl8, by omega, fun x hx => Nat.le_trans (hLp x hx).2 (by decide), fun H9 e9 => ?_⟩
    refine ⟨_, rfl, m, kd, (s * t), us2, rs2, gs, rfl, (Mm.ex e8).ex e9, by omega, by omega, F50, by omega, fun H10 e10 => ?_⟩
    refine ⟨[some (.ref a), some (.ref D), some (.str kd), some (.ref L), some (.int t), some (.int (s * t)), some (.ref R), none, some (.ref A), none, some (.ref m), some (.ref l), some (.str _), some (.str _), none, none, none, none], rfl, ?_⟩
    refine ⟨_, rfl, _, _, _, _, true, rfl, .ty "str", .base (.str _), kit_ty (by decide +kernel : kitB "str" "str" = some true), true, rfl, iteF ⟨_, rfl, _, rfl, rfl, _, rfl, iteF' (by simp) ?_⟩⟩
    refine ⟨_, rfl, ?_⟩
    simp only [tNil]
    refine from_text rfl hkd (by omega) hF2 (by omega) asc inn2 fun H11 y usb e11 hy Mb => ?_
    have eB := ((eA.trans e8).trans e9).trans (e10.trans e11)
    have hl11 := (e10.trans e11) _ _ (e9 _ _ hl8)
    have hRb := eB _ _ hR6
    have hAb := eB _ _ hA6
    have A1 := A0.copy eB hRb hAb
    have Mm' := ((Mm.ex e8).ex e9).ex (e10.trans e11)
    have d11 := d6.ex eB
    have hlD : l ≠ D := Kp.ne (d6.ex eA) hl
    obtain ⟨C, dx, pr, pg, hC, o1, o2, o3⟩ := Mb.ob
    obtain ⟨u, hcon⟩ := hC.con T
    have hnk : (mflds (s * t) pr pg).lookup ("KIND" : Str) = none := mf_no _ _ _ (by decide +kernel) (by decide +kernel) (by decide +kernel)
    -- kind, size, runs, gone
    refine ⟨[some (.ref a), some (.ref D), some (.str kd), some (.ref L), some (.int t), some (.int (s * t)), some (.ref R), none, some (.ref A), none, some (.ref m), some (.ref l), some (.str _), some (.str _), some (.ref y), none, none, none], rfl, ?_⟩
    refine ⟨_, rfl, y, C, dx, _, _, u, rfl, o1, hC.cl T, hcon, hnk, _, rfl, rfl, _, rfl, iteF' (by simp) ?_⟩
    refine ⟨_, rfl, y, C, dx, _, _, rfl, o1, hC.cl T, hC.nS T, mf_size _ _ _, _, rfl, rfl, _, rfl, iteF' (by simp) ?_⟩
    refine ⟨_, rfl, y, C, dx, _, _, rfl, o1, hC.cl T, hC.nR T, mf_runs _ _ _, _, rfl, R, us2, rfl, .inl ⟨SqL.of hRb, fun p3 hp3 => ⟨runsD rs2, runsD rs2, dp_runsT (Ex.new hp3 _ _ o2) (Mb.runs.ex (Ex.new hp3)), dp_runsT upd_same (A1.runs.ex (Ex.new hp3)), shaped_runs _, shaped_runs _, _, rfl, iteF' (by rw [eqv_runs]; simp) ?_⟩⟩⟩
    refine ⟨_, rfl, y, C, dx, _, _, rfl, Ex.new hp3 _ _ o1, hC.cl T, hC.nG T, mf_gone _ _ _, _, rfl, A, _, rfl, .inl ⟨SqL.of (Ex.new hp3 _ _ hAb), fun p4' hp4' => ⟨intsD gs, intsD gs, dp_intsT (Ex.new hp4' _ _ (Ex.new hp3 _ _ o3)), dp_intsT upd_same, shaped_ints _, shaped_ints _, _, rfl, iteF' (by rw [eqv_ints]; simp) ?_⟩⟩⟩
    have eC := (Ex.new (o := .tup us2) hp3).trans (Ex.new (o := .tup (gs.map V.int)) hp4')
    have fin : ∀ (H' : Hp) (E' : XK), Ex H11 H' → spTR [.ref D, .ref l, .str kd, .int (s * t)] H' Q E' := fun H' E' e =>
      ⟨D, l, kd, s * t, partsOf rs2 gs, rfl, d11.ex e, hkd, by omega, by omega, parts_fit hF2, by rw [parts_len]; omega, hlD, by rw [← mLines_parts]; exact e _ _ hl11, k⟩
    have hbl := Mb.runs.len
    -- back == market
    refine ⟨[some (.ref a), some (.ref D), some (.str kd), some (.ref L), some (.int t), some (.int (s * t)), some (.ref R), none, some (.ref A), none, some (.ref m), some (.ref l), some (.str _), some (.str _), some (.ref y), none, none, none], rfl, ?_⟩
    refine ⟨_, rfl, _, rfl, meq_ok T (Mb.ex eC) (Mm'.ex eC) ⟨_, rfl, iteF' (by simp) ?_⟩⟩
    refine ⟨_, rfl, y, kd, s * t, usb, rs2, gs, rfl, Mb.ex eC, by omega, by omega, F50, by omega, fun H13 e13 => ⟨_, rfl, rfl, _, rfl, iteF' (by simp) ?_⟩⟩
    have eD := eC.trans e13
    -- other
    obtain ⟨kd', hat', hne, hkd'⟩ : ∃ kd' : Str, atI [V.str "lap", .str "join"] (if decide (V.str kd = V.str "lap") = true then 1 else 0) = some (.str kd') ∧ kd ≠ kd' ∧ (kd' = "join" ∨ kd' = "lap") := by
      rcases hkd with rfl | rfl
      · exact ⟨"lap", atI_nat (j := 0) rfl, by decide +kernel, .inr rfl⟩
      · exact ⟨"join", atI_nat (j := 1) rfl, by decide +kernel, .inl rfl⟩
    refine ⟨[some (.ref a), some (.ref D), some (.str kd), some (.ref L), some (.int t), some (.int (s * t)), some (.ref R), none, some (.ref A), none, some (.ref m), some (.ref l), some (.str _), some (.str _), some (.ref y), none, none, none], rfl, ?_⟩
    refine ⟨(by show 2 ≤ sizeLine; decide), fun p5 hp5 => ⟨_, rfl, rfl, .inr ⟨_, rfl, p5, _, _, _, rfl, rfl, SqL.of upd_same, hat', ?_⟩⟩⟩
    have e5' := eD.trans (Ex.new (o := .lst [V.str "lap", .str "join"]) hp5)
    refine ⟨_, rfl, _, rfl, R, us2, rfl, .inl (SqL.of (e5' _ _ hRb)), fun p6 hp6 => ⟨_, rfl, A, _, rfl, .inl (SqL.of (Ex.new hp6 _ _ (e5' _ _ hAb))), fun p7 hp7 => ⟨kd', s * t, p6, p7, us2, rs2, gs, rfl, hkd', A1.copy ((e5'.trans (Ex.new hp6)).trans (Ex.new hp7)) (Ex.new hp7 _ _ upd_same) upd_same, fun o H14 e14 ho Mo => ?_⟩⟩⟩
    have eE := ((e5'.trans (Ex.new hp6)).trans (Ex.new hp7)).trans e14
    refine ⟨[some (.ref a), some (.ref D), some (.str kd), some (.ref L), some (.int t), some (.int (s * t)), some (.ref R), none, some (.ref A), none, some (.ref m), some (.ref l), some (.str _), some (.str _), some (.ref y), some (.ref o), none, none], rfl, ?_⟩
    refine ⟨_, rfl, _, rfl, meq_ok T (Mb.ex eE) Mo ⟨_, rfl, iteF' (decide_eq_false fun z => hne z.1) ?_⟩⟩
    refine ⟨_, rfl, o, kd', s * t, us2, rs2, gs, rfl, Mo, by omega, by omega, F50, by omega, fun H15 e15 => ⟨_, rfl, rfl, _, rfl, iteF' (decide_eq_false fun z => hne (text_kind hkd hkd' (s' := 1) (by omega) hF2 (V.str.inj z).symm)) ?_⟩⟩
    have eF := eE.trans e15
    -- longer
    refine ⟨[some (.ref a), some (.ref D), some (.str kd), some (.ref L), some (.int t), some (.int (s * t)), some (.ref R), none, some (.ref A), none, some (.ref m), some (.ref l), some (.str _), some (.str _), some (.ref y), some (.ref o), none, none], rfl, ?_⟩
    refine ⟨_, rfl, _, rfl, _, rfl, R, us2, rfl, .inl (SqL.of (eF _ _ hRb)), fun p8 hp8 => ⟨_, rfl, (by show 2 ≤ sizeLine; decide), fun p9 hp9 => ⟨(by show 1 ≤ sizeLine; decide), fun p10 hp10 => ?_⟩⟩⟩
    refine ⟨p8, p10, _, _, rfl, rfl, Ex.new hp10 _ _ (Ex.new hp9 _ _ upd_same), upd_same, Nat.le_trans (show us2.length + 1 ≤ 1000 by omega) (by decide), fun p11 hp11 => ?_⟩
    have e8' := (((eF.trans (Ex.new (o := .lst us2) hp8)).trans (Ex.new (o := .tup [V.int 0, V.int (s * t)]) hp9)).trans (Ex.new (o := .lst [V.ref p9]) hp10)).trans (Ex.new (o := .lst (us2 ++ [V.ref p9])) hp11)
    have ht9 := (Ex.new (o := .lst (us2 ++ [V.ref p9])) hp11) _ _ ((Ex.new (o := .lst [V.ref p9]) hp10) _ _ (upd_same (a := p9) (o := .tup [V.int 0, V.int (s * t)])))
    refine ⟨_, rfl, A, _, rfl, .inl (SqL.of (e8' _ _ hAb)), fun p12 hp12 => ?_⟩
    have hF3 : ∀ r ∈ rs2 ++ [((0 : Int), s * t)], Fits (s * t) r := fun r hr => by
      rcases List.mem_append.mp hr with hr | hr
      · exact hF2 r hr
      · rw [List.mem_singleton.mp hr]
        exact ⟨Int.le_refl _, by show 0 < s * t; omega, Int.le_refl _⟩
    have A3 : MArg _ (s * t) p11 p12 (us2 ++ [V.ref p9]) (rs2 ++ [((0 : Int), s * t)]) gs := ⟨Ex.new hp12 _ _ upd_same, Runs.snoc ((A1.runs.ex e8').ex (Ex.new hp12)) (Ex.new hp12 _ _ ht9), hF3, by rw [List.length_append]; show us2.length + 1 ≤ 50; omega, upd_same, asc, fun n hn => by have := inn2 n hn; rw [List.length_append]; show 0 ≤ n ∧ n < ((us2.length + 1 : Nat) : Int); omega, by omega⟩
    refine ⟨kd, s * t, p11, p12, us2 ++ [V.ref p9], rs2 ++ [((0 : Int), s * t)], gs, rfl, hkd, A3, fun lo H16 e16 hlo Ml => ?_⟩
    have eG := (e8'.trans (Ex.new hp12)).trans e16
    have hl3 : (us2 ++ [V.ref p9]).length = us2.length + 1 := by rw [List.length_append]; rfl
    have hr3' : (rs2 ++ [((0 : Int), s * t)]).length = rs2.length + 1 := by rw [List.length_append]; rfl
    refine ⟨[some (.ref a), some (.ref D), some (.str kd), some (.ref L), some (.int t), some (.int (s * t)), some (.ref R), none, some (.ref A), none, some (.ref m), some (.ref l), some (.str _), some (.str _), some (.ref y), some (.ref o), some (.ref lo), none], rfl, ?_⟩
    refine ⟨_, rfl, _, rfl, meq_ok T (Mb.ex eG) Ml ⟨_, rfl, iteF' (by simp) ?_⟩⟩
    refine ⟨_, rfl, lo, kd, s * t, _, _, gs, rfl, Ml, by omega, by omega, fun r hr => (hF3 r hr).mono (by omega), by omega, fun H17 e17 => ?_⟩
    simp only [tNil]
    refine from_text rfl hkd (by omega) hF3 (by omega) asc (fun n hn => by have := inn2 n hn; omega) fun H18 y2 us4 e18 hy2 M2 => ?_
    have eH := (eG.trans e17).trans e18
    refine ⟨_, rfl, meq_ok T M2 (Mb.ex eH) ⟨_, rfl, iteF' (by simp) ?_⟩⟩
    refine ⟨_, rfl, mlen_ok ((Ml.ex e17).ex e18) (by omega) ⟨_, rfl, R, us2, rfl, .inl (SqL.of (eH _ _ hRb)), _, _, rfl, rfl, rfl, _, rfl, iteF' (by rw [hl3]; simp) ?_⟩⟩
    -- widest
    have lk4 : kd.length ≤ 4 := by rcases hkd with rfl | rfl <;> decide +kernel
    have l30 : (" 30\n" : Str).length = 4 := by decide +kernel
    have ht30 : kd ++ (" 30\n" : Str) = textOf (mLines kd 30 [] [] ([] : List (Int × Int)).length) := by rcases hkd with rfl | rfl <;> decide +kernel
    refine ⟨[some (.ref a), some (.ref D), some (.str kd), some (.ref L), some (.int t), some (.int (s * t)), some (.ref R), none, some (.ref A), none, some (.ref m), some (.ref l), some (.str _), some (.str _), some (.ref y), some (.ref o), some (.ref lo), none], rfl, ?_⟩
    refine ⟨_, rfl, _, _, rfl, rfl, sz1000 (by omega), ?_⟩
    simp only [tNil]
    refine from_text ht30 hkd (by decide) (fun r hr => by cases hr) (by decide) List.Pairwise.nil (fun n hn => by cases hn) fun H20 y3 us5 e20 hy3 M3 => ?_
    have eI := eH.trans e20
    obtain ⟨C3, dx3, pr3, pg3, hC3, q1, q2, q3⟩ := M3.ob
    obtain ⟨u3, hcon3⟩ := hC3.con T
    have hnk3 : (mflds 30 pr3 pg3).lookup ("KIND" : Str) = none := mf_no _ _ _ (by decide +kernel) (by decide +kernel) (by decide +kernel)
    refine ⟨[some (.ref a), some (.ref D), some (.str kd), some (.ref L), some (.int t), some (.int (s * t)), some (.ref R), none, some (.ref A), none, some (.ref m), some (.ref l), some (.str _), some (.str _), some (.ref y), some (.ref o), some (.ref lo), some (.ref y3)], rfl, ?_⟩
    refine ⟨_, rfl, y3, C3, dx3, _, _, rfl, q1, hC3.cl T, hC3.nS T, mf_size _ _ _, rfl, _, rfl, iteF' (by simp) ?_⟩
    refine ⟨_, rfl, y3, C3, dx3, _, _, rfl, q1, hC3.cl T, hC3.nR T, mf_runs _ _ _, (by show 0 ≤ sizeLine; decide), fun p13 hp13 => ⟨runsD [], runsD [], dp_runsT (Ex.new hp13 _ _ q2) (M3.runs.ex (Ex.new hp13)), dp_runsT (us := []) upd_same Runs.nil, shaped_runs _, shaped_runs _, _, rfl, iteF' (by rw [eqv_runs]; simp) ?_⟩⟩
    refine ⟨_, rfl, y3, C3, dx3, _, _, u3, rfl, Ex.new hp13 _ _ q1, hC3.cl T, hcon3, hnk3, _, rfl, rfl, _, rfl, iteF' (by simp) ?_⟩
    have eJ := eI.trans (Ex.new (o := .tup []) hp13)
    refine ⟨_, rfl, _, rfl, meq_ok T (Mb.ex eJ) (M3.ex (Ex.new hp13)) ⟨_, rfl, iteF' (decide_eq_false fun z => by have := z.2.1; omega) ?_⟩⟩
    -- one place more
    refine ⟨[some (.ref a), some (.ref D), some (.str kd), some (.ref L), some (.int t), some (.int (s * t)), some (.ref R), none, some (.ref A), none, some (.ref m), some (.ref l), some (.str _), some (.str _), some (.ref y), some (.ref o), some (.ref lo), some (.ref y3)], rfl, ?_⟩
    refine ⟨_, rfl, _, rfl, _, rfl, _, _, rfl, rfl, _, rfl, R, us2, rfl, .inl (SqL.of (eJ _ _ hRb)), fun p14 hp14 => ⟨_, rfl, A, _, rfl, .inl (SqL.of (Ex.new hp14 _ _ (eJ _ _ hAb))), fun p15 hp15 => ?_⟩⟩
    have A4 : MArg (upd (upd _ p14 (.lst us2)) p15 (.lst (gs.map V.int))) (s * t + 1) p14 p15 us2 rs2 gs := ⟨Ex.new hp15 _ _ upd_same, ((A1.runs.ex eJ).ex (Ex.new hp14)).ex (Ex.new hp15), fun r hr => (hF2 r hr).mono (by omega), by omega, upd_same, asc, A1.inn, by omega⟩
    refine ⟨kd, s * t + 1, p14, p15, us2, rs2, gs, rfl, hkd, A4, fun b1' H21 e21 hb1 Mb1 => ?_⟩
    have eK := ((eJ.trans (Ex.new hp14)).trans (Ex.new hp15)).trans e21
    refine meq_ok T (Mb.ex eK) Mb1 ⟨_, rfl, iteF' (decide_eq_false fun z => by have := z.2.1; omega) ?_⟩
    -- one gone part less
    refine ⟨[some (.ref a), some (.ref D), some (.str kd), some (.ref L), some (.int t), some (.int (s * t)), some (.ref R), none, some (.ref A), none, some (.ref m), some (.ref l), some (.str _), some (.str _), some (.ref y), some (.ref o), some (.ref lo), some (.ref y3)], rfl, ?_⟩
    refine ⟨_, rfl, A, _, rfl, .inl (SqL.of (eK _ _ hAb)), _, _, rfl, rfl, _, rfl, ?_⟩
    by_cases cg : (0 : Int) < ((gs.map V.int).length : Int)
    rotate_left
    · exact iteF' (decide_eq_false cg) ⟨_, rfl, _, rfl, _, rfl, _, rfl, fin _ E0 eK⟩
    refine iteT' (decide_eq_true cg) ⟨_, rfl, _, rfl, _, rfl, _, rfl, R, us2, rfl, .inl (SqL.of (eK _ _ hRb)), fun p16 hp16 => ⟨_, rfl, _, rfl, A, _, rfl, SqL.of (Ex.new hp16 _ _ (eK _ _ hAb)), fun p17 hp17 => ?_⟩⟩
    have hcut : cutV (gs.map V.int) (some 1) none = (gs.drop 1).map V.int := by
      unfold cutV
      rw [List.length_map] at cg ⊢
      have h1 : HT.sIx gs.length 0 (some 1) = 1 := by
        unfold HT.sIx
        simp
        omega
      rw [h1, HT.sIx_none, ← List.map_drop, List.take_of_length_le]
      rw [List.length_map, List.length_drop]
      exact Nat.le_refl _
    rw [hcut] at *
    have A5 : MArg (upd (upd H21 p16 (.lst us2)) p17 (.lst ((gs.drop 1).map V.int))) (s * t) p16 p17 us2 rs2 (gs.drop 1) := ⟨Ex.new hp17 _ _ upd_same, ((A1.runs.ex eK).ex (Ex.new hp16)).ex (Ex.new hp17), hF2, by omega, upd_same, List.Pairwise.sublist (List.drop_sublist 1 gs) asc, fun n hn => A1.inn n (List.mem_of_mem_drop hn), by omega⟩
    refine ⟨kd, s * t, p16, p17, us2, rs2, gs.drop 1, rfl, hkd, A5, fun b2' H22 e22 hb2 Mb2 => ?_⟩
    have eM := ((eK.trans (Ex.new hp16)).trans (Ex.new hp17)).trans e22
    refine meq_ok T (Mb.ex eM) Mb2 ⟨_, rfl, iteF' (decide_eq_false fun z => by
      have h1 := congrArg List.length z.2.2.2
      rw [List.length_drop] at h1
      rw [List.length_map] at cg
      omega) ?_⟩
    exact ⟨_, rfl, _, rfl, _, rfl, _, rfl, fin _ E0 eM⟩
end
end K01


set_option Elab.async false
set_option linter.all false
set_option maxRecDepth 100000
set_option maxHeartbeats 0
namespace K01
open PySem PySem.Spec PyProof.Rows L2
theorem facts {w : World} {K : PySem.W.Frag} {h : Heap} {mg : Str → Option Value} {f : Addr} (X : K.In h) (G : h.Ns mainGlobals mg) (hfa : mg ("law" : Str) = some (.ref f)) (c : HkK.obsK fa fn fc ex K = HkK.valK fn fc) :
    ∃ fd : FuncData, (∀ (s : Shared) (v : Value), BindsTo s fd ⟨[v], []⟩ [("_law_script", v)]) ∧ ∀ base : Heap, K.In base → base.Ns mainGlobals mg → FnOk PP w K mg base CX0 11 f fd ["_law_script"] (spLaw K) := by
  have T := ctx_of X G c
  obtain ⟨fd, F⟩ := T.d_law
  have e := hfa.symm.trans T.g_law
  cases e
  have b := FunD.bindsA (ps := ["_law_script"]) F fun _ _ _ _ _ _ us hl => match us, hl with | [_], _ => rfl
  exact ⟨fd, fun s v => b s [v] rfl, fun base _ _ => ok_law T F⟩
end K01
open PySem PySem.W PySem.Calls PyProof.Rows
theorem PySem.Challenge.cw_keptparts_k01_texts_and_back_holds : PySem.Challenge.rw_keptparts_k01_texts_and_back.Holds := by
  w_on; o_law
  refine HandSHeadRun.head_any (r := OpenLaw.row PySem.Challenge.rw_keptparts_k01_texts_and_back) (q := view (OpenLaw.row PySem.Challenge.rw_keptparts_k01_texts_and_back).prog [55]) (H := K01.hk) (ob := K01.ob) (M := 40000) (loose := K01.names) (d := HandSHeadRun.topDef (OpenLaw.row PySem.Challenge.rw_keptparts_k01_texts_and_back).prog 55) (kwd := []) K01.ob_eq
    (by kernel_rfl) (fun s => by kernel_rfl) K01.run (by kernel_rfl) (by kernel_rfl) (by kernel_rfl) (by rfl) (by first | assumption | decide +kernel) (by decide +kernel) ⟨rfl, rfl, rfl, rfl, rfl, by decide +kernel⟩ ?hw ?hc
  case hw => w_witness2
  case hc =>
    refine L2.walk_ofE (l := PySem.Challenge.rw_keptparts_k01_texts_and_back) (n := 63) (k := 11) (x := "_law_script") (CX := L2.CX0) rfl (by decide) (by kernel_rfl) ⟨rfl, by decide, by decide⟩ ?F (fun _ _ _ _ z => z)
    intro w mg fa h Y G hmg0
    obtain ⟨K, KX, c⟩ := Y
    have hmg : mg ("law" : PySem.Str) = some (.ref fa) := by
      have e : (HandSHeadRun.topDef (OpenLaw.row PySem.Challenge.rw_keptparts_k01_texts_and_back).prog 55).name = ("law" : PySem.Str) := by kernel_rfl
      rw [← e]
      exact hmg0
    obtain ⟨fd, hb, hF⟩ := K01.facts (w := w) KX G hmg c
    exact ⟨K, fd, K01.spLaw K, KX, hb, fun H a ns hl _ hS => ⟨a, ns, rfl, hS, hl, fun _ => rfl⟩, hF⟩

