import PyProof.Rows.All
import Wide.All
import OpenK.AllK
import Wide.FinOn
import HandS.ForMost
import HandS.Defaults
import HandS.MakeKwOnly
import HandS.ClsMeth
import KE.KSuper
import PyProof.EqAt
import PyProof.EqKinds
import PyProof.TupleCall
import HandS.ForExc
import HandS.RaiseFrom
import HandS.ExcIs
import HandS.HeadHook4
import HandS.HeadHook1
import HandS.HeadHook2
import HandS.HeadHook3
import HandS.Property
import PySem.Challenge.RW_keptparts_k00_covers_and_points
import HandS.IsInst
import KE.KStateDown
import Lean
import HandS.Base
import HandS.Call
import HandS.Ends
import HandS.More
import HandS.Words
import HandS.WordsExc
import HandS.Head0
import HandS.Head1
import HandS.Head2
import HandS.HeadEnd
import HandS.Evl
import HandS.Walk
import HandS.Strs
import HandS.Conv
import HandS.OwnEq
import HandS.List
import KE.GoesMore
import HandS.Set
import HandS.SetFor
import HandS.SetTxtIn
import KE.KItemsList
import HandS.Zip0
import HandS.Zip
import HandS.ListItems
import HandS.ExcOwn
import HandS.Star
import HandS.SortKw
import KE.DatumOrd
import HandS.ExcField
import HandS.Exc
import HandS.TupLe
import HandS.GenYield
import HandS.GenList
import HandS.TupAny
set_option Elab.async false
set_option linter.all false
set_option maxRecDepth 100000
set_option maxHeartbeats 4000000
/-! super().__init__(a, b, k=c) of a class of one base, in a def of the parameters self, a, b and the keyword-only k. -/
namespace SupI
open PySem PySem.Spec PyProof.Rows L2
abbrev supBody (nm na nb nk : Str) (p0 p1 p2 p3 p4 p5 p6 p7 p8 : Pos) : List Stmt :=
  [.Expr (.Call (.Attribute (.Call (.Name "super" p0) [] [] p1) nm p2) [.Name na p3, .Name nb p4] [⟨some nk, .Name nk p5, p6⟩] p7) p8]
/-- what the written part tells of such a def -/
structure SupTxt (P : Program) (K : PySem.W.Frag) (mg : Str → Option Value) (C f f2 cc cda : Addr) (fd : FuncData) (qual : Str) (params : Arguments) (body : List Stmt) (scope : Scope) : Prop where
  lk : ∃ (oc : Value) (od an : Option Addr) (Dk : Addr) (doc pm ct : Value) (osl : Array (Option Value)), fd = PySem.W.ksFn "__init__" qual params body scope .none (.ref Dk) doc pm an (.ref cda) ct cc ∧ K.lookup f = some ⟨oc, od, .func fd, osl⟩
  cd : PySem.W.codeIn K (.ref cda) qual = true
  co : ∃ (a : Value) (b : Option Addr) (vs : Array Value) (c : Array (Option Value)) (file : Str) (tf : Tok), K.lookup cda = some ⟨a, b, .fields vs, c⟩ ∧ vs[2]? = some (.str file tf) ∧ ((P.main.file : Str) == file) = true
  cell : ∃ (a : Value) (b : Option Addr) (c : Array (Option Value)), K.lookup cc = some ⟨a, b, .cell (some (.ref C)), c⟩
  sub : PySem.W.mroIn K C (.ref C) = some true
  sup : mg "super" = none
  find : PySem.W.ks_superIn K C C "__init__" = some (some (.ref f2))
  ty : PySem.W.typeIn K (.ref f2) = some (.type "function")
  fnI : PySem.W.fnIn K f2 = true
  opq : PySem.W.nsIn K cStatics "thirdparty.any" = some none
  top : (P.main.scope.names.lookup ("super" : Str)).isSome = false
theorem methodCall_at {M : Model} {A : Around} {c : Code} {E : Value → Shared → Prop} {s : Shared} {env : Env} {o : Expr} {name : Str} {apos pos : Pos} {args : List Expr} {kws : List Keyword} {pl : Sem Bool} {Q : Value → Shared → Prop}
    (h : _root_.PySem.wpAt M A c (attributeBase o name env (eval o env)) (fun ov s₁ => wpAny M A (getMethod ov name pl) (fun fx s₂ => wpAny M A (callWith pos fx.1 fx.2 (backTo pos (starEach args env)) (backToKw pos (keywordEach kws env))) Q E s₂) E s₁) E s)
    (he : eval (.Call (.Attribute o name apos) args kws pos) env = (do
      let ov ← attributeBase o name env (eval o env)
      standAt apos.atName
      let (f, first) ← holding [ov] (getMethod ov name pl)
      callWith pos f first (backTo pos (starEach args env)) (backToKw pos (keywordEach kws env))) := by rfl) :
    _root_.PySem.wpAt M A c (eval (.Call (.Attribute o name apos) args kws pos) env) Q E s := by
  rw [he]
  refine _root_.PySem.wpAt_bind (ks_wpAt_mono h (fun ov s₁ h₁ => wpAt_of_wpAny (wpAny_bind (wpAny_standAt (wpAny_bind (wpAny_holding (wpAny_mono h₁ (fun fx s₂ h₂ => ?_) fun _ _ x => x)))))) fun _ _ x => x)
  exact h₂

section
variable {P : Program} {w : World} {K : PySem.W.Frag} {mg : Str → Option Value} {base : Heap} {CX : CXT} {C f f2 cc cda : Addr} {fd fd2 : FuncData} {qual nm na nb nk ns : Str} {params : Arguments} {body : List Stmt} {scope : Scope} {k : Nat} {sp : Sp} {p0 p1 p2 p3 p4 p5 p6 p7 p8 : Pos}
/-- the context of such a body -/
def cxS (CX : CXT) (P : Program) (w : World) (K : PySem.W.Frag) (mg : Str → Option Value) (base : Heap) (N : List Str) (qual : Str) (scope : Scope) (f : Addr) (cda cc : Addr) (A : Around) (outer : List Env) (s : Shared) (H : Hp) (E : XK) : Cx where
  prog := P
  w := w
  K := K
  mg := mg
  base := base
  A := A.deeper (PySem.W.ksEnv qual scope s.heap.objs.size f (.ref cda) cc)
  N := N
  s_0 := s
  H_0 := H
  env := PySem.W.ksEnv qual scope s.heap.objs.size f (.ref cda) cc
  outer := outer
  stack := PySem.W.ksEnv qual scope s.heap.objs.size f (.ref cda) cc :: outer
  ex := []
  calm := true
  fn := fun _ => false
  pn := []
  xe := fun e s' => wpAny (model P w) (A.deeper (PySem.W.ksEnv qual scope s.heap.objs.size f (.ref cda) cc)) (leaving (PySem.W.ksEnv qual scope s.heap.objs.size f (.ref cda) cc) e) (fun _ s'' => CX outer H s E e s'') (fun e' s'' => CX outer H s E e' s'') s'
theorem one_cell {y : Str} {c cc : Addr} (h : ([("__class__", cc)] : List (Str × Addr)).lookup y = some c) : y = "__class__" ∧ c = cc := by
  unfold List.lookup at h
  cases e : (y == ("__class__" : Str)) with
  | true =>
    rw [e] at h
    exact ⟨eq_of_beq e, (Option.some.inj h).symm⟩
  | false =>
    rw [e] at h
    cases h
theorem inv_sup {A : Around} {outer : List Env} {s : Shared} {H : Hp} {E : XK} {us : List Value} {vs : List V} {h1 : Heap} {tk : Nat} {N : List Str}
    (T : SupTxt P K mg C f f2 cc cda fd qual params body scope) (hk : scope.kind = .function) (hfr : ∀ y, (scope.names.lookup y = some .cell ∨ scope.names.lookup y = some .free) → y = "__class__") (hl : ∀ y ∈ N, scope.names.lookup y = some .local)
    (hd : A.handled = none) (e0 : Env0 P w K mg base A outer s H) (r : Vals vs us) (hlen : vs.length = N.length)
    (hns : h1.Ns s.heap.objs.size (fun x => (N.zip us).reverse.lookup x)) (hlook : ∀ (i : Nat) (y : Str) (u : Value), N[i]? = some y → us[i]? = some u → (N.zip us).reverse.lookup y = some u) (keep : ∀ b o, s.heap.get? b = some o → h1.get? b = some o) :
    Inv (cxS CX P w K mg base N qual scope f cda cc A outer s H E) [] (vs.map some) H { s with heap := h1, toks := tk } := by
  obtain ⟨ca, cb, ccs, hcell⟩ := T.cell
  have hb : base.get? cc = some ⟨ca, cb, .cell (some (.ref C)), ccs⟩ := e0.mod.kin _ _ hcell
  have noA : ∀ b : Addr, b ∉ (cxS CX P w K mg base N qual scope f cda cc A outer s H E).ex := fun b z => absurd (show b ∈ ([] : List Addr) from z) (by simp)
  refine ⟨⟨e0.mod, hk, rfl, rfl, Nat.le_refl _, fun y z c h1 h2 => ?_, fun y hy => ?_, fun y c h _ => ?_, fun _ => hd, Around.frames_deeper e0.frames, .inr ⟨rfl, rfl⟩, fun b z => absurd z (noA b), e0.bs, e0.bsz, fun b _ _ => noA b, fun b z => absurd z (noA b), e0.funs, e0.frf⟩,
    rfl, e0.bare, Un.kept keep, ⟨_, hns, fun i y v h1 h2 h3 => ?_⟩, fun y c h => ?_, e0.hok.fresh (Nat.le_refl _), fun y c h => ?_, fun p hp => absurd (show p ∈ ([] : List (Addr × Obj)) from hp) (by simp), e0.hok.kept keep, ?_⟩
  · exact (one_cell h1).1.trans (one_cell h2).1.symm
  · have e : y = "__class__" := hfr y hy
    subst e
    exact ⟨cc, rfl⟩
  · cases h
  · have h2' : (vs.map some)[i]? = some (some v) := h2
    rw [List.getElem?_map] at h2'
    have ha : vs[i]? = some v := by
      cases e : vs[i]? with
      | none => rw [e] at h2'; cases h2'
      | some a => rw [e] at h2'; cases h2'; rfl
    obtain ⟨u, hu, rv⟩ := r.get ha
    exact ⟨u, rv, .inl ⟨hl y (List.mem_of_getElem? h1), hlook i y u h1 hu⟩⟩
  · obtain ⟨_, rfl⟩ := one_cell h
    exact ⟨_, _, keep _ _ (e0.bs _ _ hb).1, rfl⟩
  · obtain ⟨_, rfl⟩ := one_cell h
    exact (e0.bs _ _ hb).2
  · show (vs.map some).length = N.length
    rw [List.length_map, hlen]
/-- the promise: the instance is of the class itself; then what the base's __init__ wants -/
def spSup (C : Addr) (sp : Sp) : Sp := fun vs H Q E => (∃ x dx fs a b c, vs = [.ref x, a, b, c] ∧ H x = some (.ins C dx fs)) ∧ sp vs H (fun _ H' => Q .non H') E
theorem fn_super {c1 : Str}
    (T : SupTxt P K mg C f f2 cc cda fd qual params (supBody "__init__" na nb nk p0 p1 p2 p3 p4 p5 p6 p7 p8) scope)
    (hcls : ∃ cd, PySem.W.clsIn K C = some cd)
    (hk : scope.kind = .function) (hco : scope.isCoroutine = false) (hgen : scope.isGenerator = false)
    (hfr : ∀ y, (scope.names.lookup y = some .cell ∨ scope.names.lookup y = some .free) → y = "__class__") (hcell : ∀ x ∈ scope.names, x.2 ≠ .cell)
    (hl : ∀ y ∈ [ns, na, nb, nk], scope.names.lookup y = some .local) (hks : scope.names.lookup ("super" : Str) = some .globalImplicit) (hkc : scope.names.lookup ("__class__" : Str) = some .free)
    (hdb : ∀ y ∈ [ns, na, nb, nk], (y == ("__debug__" : Str)) = false ∧ (y == ("__classdict__" : Str)) = false)
    {ar : Arg} (hpar : (params.posonlyargs ++ params.args).head? = some ar) (har : ar.arg = ns)
    (hlook : ∀ (u1 u2 u3 u4 : Value) (i : Nat) (y : Str) (u : Value), [ns, na, nb, nk][i]? = some y → [u1, u2, u3, u4][i]? = some u → ([ns, na, nb, nk].zip [u1, u2, u3, u4]).reverse.lookup y = some u)
    {pl : Env → Sem Bool} (he : ∀ env : Env, eval (.Call (.Attribute (.Call (.Name "super" p0) [] [] p1) "__init__" p2) [.Name na p3, .Name nb p4] [⟨some nk, .Name nk p5, p6⟩] p7) env = (do
      let ov ← attributeBase (.Call (.Name "super" p0) [] [] p1) "__init__" env (eval (.Call (.Name "super" p0) [] [] p1) env)
      standAt p2.atName
      let (f, first) ← holding [ov] (getMethod ov "__init__" (pl env))
      callWith p7 f first (backTo p7 (starEach [.Name na p3, .Name nb p4] env)) (backToKw p7 (keywordEach [⟨some nk, .Name nk p5, p6⟩] env))))
    (F2 : FnOk P w K mg base CX0 k f2 fd2 [ns, na, nb, nk] sp) (hb : KBn K fd2 [ns, na, nb, nk] 3 [nk] (fun us ws => us ++ ws) (fun vs zs => vs ++ zs)) :
    FnOk P w K mg base CX0 (k + 1) f fd [ns, na, nb, nk] (spSup C sp) := by
  obtain ⟨oc, od, an, Dk, doc, pm, ct, osl, rfl, lk⟩ := T.lk
  obtain ⟨coa, cob, cvs, coc, file, tf, hcode, hvs, hfile⟩ := T.co
  obtain ⟨cla, clb, clc, hcel⟩ := T.cell
  obtain ⟨cd, hcd⟩ := hcls
  refine ⟨fun vs H Q E ⟨⟨x, dx, fs, a, b, c, e, _⟩, _⟩ => by rw [e]; rfl, fun A outer s H args us vs Q E hr e0 hbd r hsp => ?_⟩
  obtain ⟨⟨x, dx, fs, a, b, c, rfl, hxi⟩, hsp⟩ := hsp
  have r0 := r
  obtain ⟨u1, u2, u3, u4, rfl, ru1, ru2, ru3, ru4⟩ : ∃ u1 u2 u3 u4, us = [u1, u2, u3, u4] ∧ RelV (.ref x) u1 ∧ RelV a u2 ∧ RelV b u3 ∧ RelV c u4 := by
    cases r with
    | cons r1 r => cases r with
      | cons r2 r => cases r with
        | cons r3 r => cases r with
          | cons r4 r => cases r with
            | nil => exact ⟨_, _, _, _, rfl, r1, r2, r3, r4⟩
  obtain rfl : u1 = Value.ref x := ru1
  have KX : K.In s.heap := e0.mod.kin.keeps fun b o e => (e0.bs b o e).1
  have lim : s.heap.NoLimit := e0.mod.nolimit.keeps fun b o e => (e0.bs b o e).1
  have hroom : A.depth < recursionLimit := by have := hr.dp; omega
  refine PySem.ks_codeAny_call_defAt (fd := PySem.W.ksFn "__init__" qual params (supBody "__init__" na nb nk p0 p1 p2 p3 p4 p5 p6 p7 p8) scope .none (.ref Dk) doc pm an (.ref cda) ct cc) (body := supBody "__init__" na nb nk p0 p1 p2 p3 p4 p5 p6 p7 p8) hroom (KX _ _ lk) rfl lim (PySem.W.codeRec_of KX T.cd) rfl hbd hcell (fun y hy => hl _ (List.of_mem_zip (show (y.1, y.2) ∈ _ from hy)).1) (fun h1 hns keep => ?_) hco hgen hk
  have I : Inv (cxS CX0 P w K mg base [ns, na, nb, nk] qual scope f cda cc A outer s H E) [] [some (.ref x), some a, some b, some c] H { s with heap := h1, toks := s.toks + ([ns, na, nb, nk].zip [Value.ref x, u2, u3, u4]).length } :=
    inv_sup (vs := [.ref x, a, b, c]) T hk hfr hl hr.hd e0 r0 rfl hns (hlook _ _ _ _) keep
  let X := cxS CX0 P w K mg base [ns, na, nb, nk] qual scope f cda cc A outer s H E
  show _root_.PySem.wpAt (model P w) X.A (.func _ X.env) (execs _ X.env) _ X.xe _
  refine ks_wpAt_execs_cons (ks_wpAt_Expr_any (methodCall_at (pl := pl X.env) ?_ (he X.env)) I.quiet)
  obtain ⟨oC, hC1, hC2⟩ : ∃ oC, h1.get? C = some oC ∧ oC.data = .cls cd := by
    unfold PySem.W.clsIn at hcd
    split at hcd
    · rename_i c' d' cd' sl ho
      cases hcd
      exact ⟨_, I.kIn _ _ ho, rfl⟩
    · cases hcd
  obtain ⟨mA, O, _⟩ := ins_get I.hok hxi
  obtain ⟨od', J, _⟩ := O.look
  have hks' : X.env.kindOf "super" = some .globalImplicit := hks
  have hkc' : X.env.kindOf "__class__" = some .free := hkc
  refine PySem.ks_wpAt_super_base (env := X.env) hks' hkc' (by decide +kernel) rfl (I.kIn _ _ lk) rfl hpar rfl (I.kIn _ _ hcode) rfl hvs hfile T.top ?_
  obtain ⟨mb, hb1, hb2⟩ := I.mod.blt
  refine PySem.W.ks_loadName_global hk hks' (Calls.loadGlobal_builtin (env := X.env) (I.mod.glob.keeps I.bk) T.sup (hb1.keeps I.bk) ((hb2 _ (by decide +kernel)).trans (by decide +kernel)) ⟨rfl, ?_⟩)
  refine wpAny_loadName_free (env := X.env) hk hkc' rfl ⟨_, I.kIn _ _ hcel, rfl⟩ ?_
  rw [har]
  refine wpAny_loadName_local (env := X.env) hk (hl _ (by simp)) hns (hlook _ _ _ _ 0 ns (.ref x) rfl rfl) ?_
  refine PySem.ks_wpAny_isType_cls hC1 hC2 ⟨rfl, ?_⟩
  refine PySem.ks_wpAny_call_super hC1 hC2 J.at_ J.cls (fun c' e' => ?_) (PySem.W.looks_mroIn I.kIn T.sub) (fun h2 e2 k2 => ?_)
  · have := J.no
    unfold PySem.W.notCls at this
    rw [e'] at this
    exact Bool.noConfusion this
  have I2 := ClX.pin_new (t' := s.toks + ([ns, na, nb, nk].zip [Value.ref x, u2, u3, u4]).length) I k2 (Nat.le_refl _) e2 (fun v z => nomatch z)
  have hfind := T.find
  unfold PySem.W.ks_superIn at hfind
  rw [hcd] at hfind
  obtain ⟨of, hof, hofc⟩ : ∃ of, h2.get? f2 = some of ∧ of.cls = .type "function" := by
    have ht' : (K.lookup f2).map (·.cls) = some (.type "function") := T.ty
    cases z : K.lookup f2 with
    | none => rw [z] at ht'; cases ht'
    | some of => rw [z] at ht'; exact ⟨of, I2.kIn _ _ z, Option.some.inj ht'⟩
  refine PySem.ks_wpAny_getMethod_super e2 (PySem.W.looks_opaque I2.kIn T.opq) (l₀ := cd.mro) (fun A Q E s k q => wpAny_bind ((PySem.W.looks_clsIn I2.kIn hcd) A _ E s k (wpAny_pure q))) rfl I2.kIn hfind hof hofc (PySem.W.ks_ne I.kIn J hcd) (by decide +kernel) ?_
  have I3 := ClX.pin_new (t' := s.toks + ([ns, na, nb, nk].zip [Value.ref x, u2, u3, u4]).length + 1) (h' := h2.push (PySem.W.methodObj (.ref f2) (.ref x))) I2 (fun _ _ z => Heap.get?_push_of_some _ z) (Nat.le_refl _) (Heap.get?_push_size h2 rfl) (fun v z => nomatch z)
  have d1 := hdb na (by simp)
  have d2 := hdb nb (by simp)
  have d3 := hdb nk (by simp)
  have pa : PA X [.Name na p3, .Name nb p4] (tCons (tVar 1) (tCons (tVar 2) tNil)) := pa_cons (pv 1 rfl (.inl (hl na (by simp))) d1.1 d1.2) (pa_cons (pv 2 rfl (.inl (hl nb (by simp))) d2.1 d2.2) pa_nil)
  have pk : PK X [⟨some nk, .Name nk p5, p6⟩] (tCons (tVar 3) tNil) := pk_cons (pv 3 rfl (.inl (hl nk (by simp))) d3.1 d3.2) pk_nil
  refine PySem.W.callWith_of (P := PySem.W.MethP K h2.objs.size f2 (.ref x)) rfl (PySem.W.keeps_M T.fnI) (evalArgs_kw2 (env := X.env) rfl (thn (pa.run p7 _ _ _ H (fun vs H' => vs = [a, b] ∧ H' = H) I3 ⟨a, rfl, b, rfl, rfl, rfl⟩) fun us s5 ⟨vs, H5, I5, r5, e5, e5'⟩ => ?_))
  subst e5 e5'
  refine thn (pk.run p7 _ s5 _ H5 (fun vs H' => vs = [c] ∧ H' = H5) I5 ⟨c, rfl, rfl, rfl⟩) fun ws s6 ⟨zs, H6, I6, r6, e6, e6'⟩ => ?_
  subst e6 e6'
  have hq6 := ClX.pin_at I6
  refine ⟨⟨hq6, I6.kIn⟩, ?_⟩
  have lu : us.length = 2 := r5.length.symm
  have lw : ws.length = 1 := r6.length.symm
  have r7 : Vals [V.ref x, a, b] (Value.ref x :: us) := .cons rfl r5
  refine wpAny_call (PySem.W.method_call hq6 (codeAny_mono (F2.run X.A X.stack s6 _ ⟨Value.ref x :: us, [nk].zip ws⟩ (Value.ref x :: us ++ ws) [.ref x, a, b, c] (fun _ H' => Q .non H') E (hr.deeper _) I6.env0 (hb.to s6 (Value.ref x :: us) ws I6.kIn (by simp [lu]) lw) (hb.rel r7 r6) hsp) fun r s' hq' => ?_))
  cases r with
  | error e => exact hq'.elim
  | ok fl =>
    cases fl with
    | ret u =>
      obtain ⟨v, H', I7, rv, q3⟩ := I6.after hq'
      refine _root_.PySem.wpAt_of_wpAny (wpAny_execs_nil ?_)
      exact ⟨.non, H', I7.os, I7.bare, I7.base, I7.hok, rfl, q3⟩
    | next => exact False.elim hq'
    | brk => exact False.elim hq'
    | cont => exact False.elim hq'
end
end SupI


set_option Elab.async false
set_option linter.all false
set_option maxRecDepth 100000
set_option maxHeartbeats 4000000
/-! The program's own errors (each one keeps its field), and raise .. from. -/
namespace L2
open PySem PySem.Spec PyProof.Rows
def PMk6 (X : Cx) (e : Expr) (t : St → Hp → XK → Prop) : Prop :=
  ∀ (pins : List (Addr × Obj)) (s : Shared) (σ : St) (H : Hp) (Q : XK), Inv X pins σ H s → t σ H Q → wpAny (model X.prog X.w) X.A (eval e X.env) (fun u s' => MkP X pins σ Q u s' ∧ L2H.Six u s') X.xe s
end L2
namespace PySem
namespace BadTextX
open PySem.W PySem.Calls PyProof.Rows PySem.HandSPX
/-! ### the text of __init__ -/
def iA (p1 p2 : Pos) : Arguments := { posonlyargs := [], args := [{ arg := "self", annotation := none, pos := p1 }, { arg := "line", annotation := none, pos := p2 }], vararg := none, kwonlyargs := [], kw_defaults := [], kwarg := none, defaults := [] }
def iB (q1 q2 q3 q4 : Pos) : List Stmt := [.Assign [.Attribute (.Name "self" q1) "line" q2] (.Name "line" q3) q4]
def iS : Scope := { kind := .function, names := [(PySem.Str.ofString "self", .local), (PySem.Str.ofString "line", .local)], isGenerator := false, isCoroutine := false, more := [] }
/-- what the written part says of Low, at C, and of its __init__, at fI -/
structure BadTextTxt (K : Frag) (mg : Str → Option Value) (C fI : Addr) : Prop where
  gC : mg "BadText" = some (.ref C)
  cls : ∃ nm q N bs bm sn sub ab col dd k0 k1 k2 k3 k5, K.lookup C = some (excClassObj nm q C N bs bm true sn sub ab col dd k0 k1 k2 k3 k5 "ValueError.__new__") ∧ refsVE bm = true
  sa : findIn K (.ref C) "__setattr__" = some (some (.builtin "object.__setattr__"))
  ga : findIn K (.ref C) "__getattribute__" = some (some (.builtin "BaseException.__getattribute__"))
  gg : findIn K (.ref C) "__getattr__" = some none
  noN : findIn K (.ref C) "line" = some none
  iC : findIn K (.ref C) "__init__" = some (some (.ref fI))
  tC : typeIn K (.ref fI) = some (.type "function")
  kC : keepIn K (.ref C) = true
  exC : subIn K (.ref C) (.type "BaseException") = some true
  tyC : typeIn K (.ref C) = some (.type "type")
  hdC : hasDictIn K C = true
  te : exmOne K (.ref C) (.ref C) = some true
  fn : ∃ (oc : Value) (od : Option Addr) (kV doc pm : Value) (an : Option Addr) (cdv ct : Value) (osl : Array (Option Value)) (p1 p2 q1 q2 q3 q4 : Pos),
    K.lookup fI = some ⟨oc, od, .func (fnOf "__init__" "BadText.__init__" (iA p1 p2) (iB q1 q2 q3 q4) iS .none kV doc pm an cdv ct), osl⟩ ∧ codeIn K cdv "BadText.__init__" = true
theorem one_size (v : Value) : [v].length ≤ sizeLine := by
  rw [sizeLine_eq]
  exact (by decide : 1 ≤ 16777216)
theorem kept_but {K : Frag} {h h' : Heap} {x : Addr} (X : K.In h) (hx : K.lookup x = none) (k : ∀ b o, b ≠ x → h.get? b = some o → h'.get? b = some o) : K.In h' := fun a o e =>
  k a o (fun z => by rw [z, hx] at e; cases e) (X a o e)
theorem ldC {M : Model} {s : Shared} {name : Str} {scope : Scope} {L a : Addr} {cd : Value} {m : Str → Option Value} {x : Str} {pos : Pos} {v : Value} {Q : Value → Shared → Prop} {A : Around} {E : Value → Shared → Prop} (hn : s.heap.Ns L m) (hv : m x = some v) (h : Q v s)
    (hk : scope.kind = .function := by rfl) (hl : (envOfC name scope L a cd).kindOf x = some .local := by rfl) (hd : (x == ("__debug__" : Str)) = false := by decide) :
    wpAny M A (eval (.Name x pos) (envOfC name scope L a cd)) Q E s := wpAny_Name (wpAny_loadName_local hk hl hn hv h) hd
/-- what __init__ leaves of a fresh exception at x -/
structure InitEnd (h h' : Heap) (x C dx t1 : Addr) (v : Value) : Prop where
  keep : ∀ b o, b ≠ x → h.get? b = some o → h'.get? b = some o
  obj : h'.get? x = some { cls := .ref C, dict := some dx, data := .fields #[.ref t1, .none, .none, .none, .bool false, .none] }
  dbig : h.objs.size ≤ dx
  dne : dx ≠ x
  ns : h'.Ns1 dx (fun y => if y = "line" then some v else none)
/-- a made Low -/
structure OwnMade (h h' : Heap) (e C d : Addr) (v : Value) : Prop where
  keep : ∀ b o, h.get? b = some o → h'.get? b = some o
  new : h.objs.size ≤ e
  obj : ∃ oe vs, h'.get? e = some oe ∧ oe.cls = .ref C ∧ oe.dict = some d ∧ oe.data = .fields vs ∧ vs[1]? = some .none ∧ 4 < vs.size
  dbig : h.objs.size ≤ d
  dne : d ≠ e
  ns : h'.Ns1 d (fun y => if y = "line" then some v else none)
section
variable {prog : Program} {w : World} {A : Around} {E : Value → Shared → Prop} {R : Result → Shared → Prop} {s : Shared} {K : Frag} {mg : Str → Option Value} {C fI : Addr}
theorem init_BadText (T : BadTextTxt K mg C fI) {x t0 : Addr} {v : Value} (X : K.In s.heap) (hlim : s.heap.NoLimit) (hx : s.heap.get? x = some (excO C t0)) (hnx : K.lookup x = none) (hroom : A.depth < recursionLimit)
    (hq : ∀ h' tk dx, InitEnd s.heap h' x C dx t0 v → R (.ok (.ret .none)) { s with heap := h', toks := tk }) :
    codeAny (model prog w) A (.call (.ref fI) ⟨[.ref x, v], []⟩) R s := by
  obtain ⟨oc, od, kV, doc, pm, an, cdv, ct, osl, p1, p2, q1, q2, q3, q4, ho, hcd⟩ := T.fn
  obtain ⟨nm, q, N, bs, bm, sn, sub, ab, col, dd, k0, k1, k2, k3, k5, hC, hbm⟩ := T.cls
  have hcl : clsIn K C = some { name := nm, bases := bs, mro := .ref C :: bm, ns := N, qualname := q, hasDict := true, slotNames := sn, subclasses := sub, abstract := ab, collection := col, hasDel := false } := by unfold clsIn; rw [hC] <;> rfl
  refine Att.call_fn (binds := [("self", .ref x), ("line", v)]) X hlim ho hcd hroom (BindsTo.of_eq (by first | rfl | with_unfolding_all rfl)) (by first | rfl | decide | with_unfolding_all rfl) (fun s₁ IC => ?_) rfl rfl rfl
  obtain ⟨h₁, tk₁, rfl⟩ := IC.toInCall.same
  have k : ∀ b o, s.heap.get? b = some o → h₁.get? b = some o := IC.toInCall.keep
  have hn := IC.toInCall.ns
  have hxL : s.heap.objs.size ≠ x := Nat.ne_of_gt (Heap.lt_size hx)
  have X₁ : K.In h₁ := X.keeps k
  have hx₁ := k _ _ hx
  -- self.by = by
  show wpAny _ _ (execs _ _) _ _ _
  refine wpAny_execs_cons (plainObj_wpAny_Assign_Attribute ?_)
  refine ldC (v := v) hn (by first | rfl | with_unfolding_all rfl | kernel_rfl) (ldC (v := .ref x) hn (by first | rfl | with_unfolding_all rfl | kernel_rfl) ?_)
  refine set_plain X₁ (ox := excO C t0) (od := none) ⟨hx₁, rfl, rfl, trivial⟩ T.sa ?_
  refine exc_osa X₁ hx₁ hcl (show refsVE (.ref C :: bm) = true from hbm) rfl T.noN (fun h₃ tk₃ dx k₃ dn dne hx₃ hn₃ => ?_)
  show wpAny _ _ (execs _ _) _ _ _
  have z : s.heap.objs.size < h₁.objs.size := hn.lt
  exact wpAny_execs_nil (hq h₃ tk₃ dx ⟨fun b o hb e => k₃ b o hb (k b o e), hx₃, Nat.le_of_lt (Nat.lt_of_lt_of_le z dn), dne, hn₃⟩)
theorem made_BadText (T : BadTextTxt K mg C fI) {v : Value} (X : K.In s.heap) (hlim : s.heap.NoLimit) (hroom : A.depth + 1 < recursionLimit)
    (hq : ∀ h' tk e d, OwnMade s.heap h' e C d v → R (.ok (.ret (.ref e))) { s with heap := h', toks := tk }) :
    codeAny (model prog w) A (.call (.ref C) ⟨[v], []⟩) R s := by
  obtain ⟨nm, q, N, bs, bm, sn, sub, ab, col, dd, k0, k1, k2, k3, k5, hC, hbm⟩ := T.cls
  obtain ⟨hp, g, dr, tk, os⟩ := s
  have k : ∀ b o, hp.get? b = some o → ((hp.push (kdv_tup [v])).push (excO C hp.objs.size)).get? b = some o := fun b o e => Heap.get?_push_of_some _ (Heap.get?_push_of_some _ e)
  have hget : ((hp.push (kdv_tup [v])).push (excO C hp.objs.size)).get? (hp.objs.size + 1) = some (excO C hp.objs.size) := by heap_get
  have hnx : K.lookup (hp.objs.size + 1) = none := by
    cases e : K.lookup (hp.objs.size + 1) with
    | none => rfl
    | some o =>
      have z : hp.get? (hp.objs.size + 1) = some o := X _ _ e
      exact absurd (Nat.lt_of_succ_lt (Heap.lt_size z)) (Nat.lt_irrefl _)
  refine call_own F.excBase_ValueError (fun X => refsVE_contains X bm hbm) (X _ _ hC) (looks_findIn X T.iC) (fun self => bind_fn X self T.tC) (one_size v) ?_
  refine init_BadText (s := ⟨(hp.push (kdv_tup [v])).push (excO C hp.objs.size), g, dr, tk, os⟩) T (X.keeps k) (hlim.keeps k) hget hnx ?_ fun h' tk' dx ⟨k', hx, dn, dne, hns⟩ => ?_
  · show A.depth + 1 < recursionLimit
    exact hroom
  · have old : ∀ b o, hp.get? b = some o → h'.get? b = some o := fun b o e => k' b o (Nat.ne_of_lt (Nat.lt_succ_of_lt (Heap.lt_size e))) (k b o e)
    have z : hp.objs.size + 1 + 1 ≤ dx := by
      first
        | (simpa only [Heap.size_push] using dn)
        | exact dn
        | (have q := dn; rw [Heap.size_push, Heap.size_push] at q; exact q)
    exact ⟨rfl, hq h' tk' (hp.objs.size + 1) dx ⟨old, Nat.le_succ _, ⟨_, _, hx, rfl, rfl, rfl, rfl, (by show (4 : Nat) < 6; decide)⟩, Nat.le_trans (Nat.le_trans (Nat.le_succ _) (Nat.le_succ _)) z, dne, hns⟩⟩
end
end BadTextX
end PySem
namespace L2
open PySem PySem.Spec PyProof.Rows
theorem relO_BadText {v : V} {v' : Value} (r : RelV v v') (f : Str) : RelO (List.lookup f [(("line" : Str), v)]) (if f = "line" then some v' else none) := by
  by_cases hw : f = "line"
  · subst hw
    rw [if_pos rfl]
    have q : List.lookup ("line" : Str) [(("line" : Str), v)] = some v := by simp [List.lookup]
    rw [q]
    exact r
  · rw [if_neg hw]
    have qw : (f == ("line" : Str)) = false := by simpa using hw
    have q2 : List.lookup f [(("line" : Str), v)] = none := by simp [List.lookup, qw]
    rw [q2]
    trivial
section
variable {X : Cx} {C fI : Addr}
/-- Low(e) -/
def tMkBadText (C : Addr) (ta : TA) : St → Hp → XK → Prop := fun σ H Q => ta σ H fun vs H1 => ∃ v, vs = [v] ∧ ∀ d, H1 d = none → Q (.ref C) (some d) (upd H1 d (.xd [(("line" : Str), v)]))
theorem pmk_BadText {a : Expr} {ta : TA} {p pos : Pos} {k : Nat} (T : PySem.BadTextX.BadTextTxt X.K X.mg C fI) (hr : Room k X.A) (ha : PA X [a] ta) (hg : Gl X "BadText" := by rfl)
    (he : starEach (a :: []) X.env = (false, eval a X.env) :: starEach [] X.env := by rfl) (hpl : (backTo pos (starEach [] X.env)).any (·.1) = false := by rfl) :
    PMk X (.Call (.Name "BadText" p) [a] [] pos) (tMkBadText C ta) := by
  intro pins s σ H Q I h
  refine wpAny_Call_Name_kw (ld_glob I hg T.gC ?_)
  refine PySem.W.callWith_K (h₀ := X.base) I.ok.mod.kin T.kC (thn (ha.run pos pins s σ H _ I h) fun us s1 hh => ?_) he hpl
  obtain ⟨vs, H1, I1, r1, v, ev, q1⟩ := hh
  subst ev
  refine ⟨I1.kIn, ?_⟩
  cases r1 with
  | cons rv rn =>
    rename_i v' us'
    cases rn
    show wpAny _ _ (call (.ref C) [v']) _ _ _
    have hlim := I1.nolimit
    obtain ⟨hp, g, dr, tk, os⟩ := s1
    refine wpAny_call (PySem.BadTextX.made_BadText T I1.kIn hlim (by have := hr.dp; omega) fun h' tk' e d M => ?_)
    show MkP X pins σ Q (.ref e) ⟨h', g, dr, tk', os⟩
    obtain ⟨oe, fv, hoe, hc, hd, hdat, h1, _⟩ := M.obj
    have hns := M.ns
    obtain ⟨G', g1, g2⟩ := restrict h' fun b => decide (b ≠ e)
    have gk : ∀ b, b ≠ e → G'.get? b = h'.get? b := fun b hb => g1 b (decide_eq_true hb)
    have ge : G'.get? e = none := g2 e (by simp)
    have old : ∀ b o, hp.get? b = some o → G'.get? b = some o := fun b o q => (gk b (Nat.ne_of_lt (Nat.lt_of_lt_of_le (Heap.lt_size q) M.new))).trans (M.keep b o q)
    have ob : ObjOk X.prog X.w (upd H1 d (.xd [(("line" : Str), v)])) G' d (.xd [(("line" : Str), v)]) :=
      ⟨_, hns.at (fun o q => (gk d M.dne).trans q), fun f => relO_BadText rv f⟩
    have J : Inv X pins σ (upd H1 d (.xd [(("line" : Str), v)])) ⟨G', g, dr, tk', os⟩ := I1.laid (t' := tk') old M.dbig ob
    refine ⟨e, oe, fv, ⟨G', g, dr, tk', os⟩, _, .ref C, some d, rfl, J, fun b o q => ?_, ge, hoe, ⟨hc, hd⟩, hdat, h1, ?_, rfl, I1.bare, raises_own T.exC T.tyC, q1 d (I1.hok.fresh M.dbig)⟩
    · by_cases hb : b = e
      · have q' : G'.get? b = some o := q
        rw [hb, ge] at q'; cases q'
      · exact (gk b hb).symm.trans q
    · rw [upd_ne (Ne.symm M.dne)]
      exact I1.hok.fresh M.new
theorem pmk5_BadText {a : Expr} {ta : TA} {p pos : Pos} {k : Nat} (T : PySem.BadTextX.BadTextTxt X.K X.mg C fI) (hr : Room k X.A) (ha : PA X [a] ta) (hg : Gl X "BadText" := by rfl)
    (he : starEach (a :: []) X.env = (false, eval a X.env) :: starEach [] X.env := by rfl) (hpl : (backTo pos (starEach [] X.env)).any (·.1) = false := by rfl) :
    PMk6 X (.Call (.Name "BadText" p) [a] [] pos) (tMkBadText C ta) := by
  intro pins s σ H Q I h
  refine wpAny_Call_Name_kw (ld_glob I hg T.gC ?_)
  refine PySem.W.callWith_K (h₀ := X.base) I.ok.mod.kin T.kC (thn (ha.run pos pins s σ H _ I h) fun us s1 hh => ?_) he hpl
  obtain ⟨vs, H1, I1, r1, v, ev, q1⟩ := hh
  subst ev
  refine ⟨I1.kIn, ?_⟩
  cases r1 with
  | cons rv rn =>
    rename_i v' us'
    cases rn
    show wpAny _ _ (call (.ref C) [v']) _ _ _
    have hlim := I1.nolimit
    obtain ⟨hp, g, dr, tk, os⟩ := s1
    refine wpAny_call (PySem.BadTextX.made_BadText T I1.kIn hlim (by have := hr.dp; omega) fun h' tk' e d M => ?_)
    show MkP X pins σ Q (.ref e) ⟨h', g, dr, tk', os⟩ ∧ L2H.Six (.ref e) ⟨h', g, dr, tk', os⟩
    obtain ⟨oe, fv, hoe, hc, hd, hdat, h1, h6⟩ := M.obj
    have hns := M.ns
    obtain ⟨G', g1, g2⟩ := restrict h' fun b => decide (b ≠ e)
    have gk : ∀ b, b ≠ e → G'.get? b = h'.get? b := fun b hb => g1 b (decide_eq_true hb)
    have ge : G'.get? e = none := g2 e (by simp)
    have old : ∀ b o, hp.get? b = some o → G'.get? b = some o := fun b o q => (gk b (Nat.ne_of_lt (Nat.lt_of_lt_of_le (Heap.lt_size q) M.new))).trans (M.keep b o q)
    have ob : ObjOk X.prog X.w (upd H1 d (.xd [(("line" : Str), v)])) G' d (.xd [(("line" : Str), v)]) :=
      ⟨_, hns.at (fun o q => (gk d M.dne).trans q), fun f => relO_BadText rv f⟩
    have J : Inv X pins σ (upd H1 d (.xd [(("line" : Str), v)])) ⟨G', g, dr, tk', os⟩ := I1.laid (t' := tk') old M.dbig ob
    refine ⟨?_, fun a oe' vs' ea hg hdd => ?_⟩
    rotate_left
    · cases ea
      have hg' : h'.get? e = some oe' := hg
      rw [hoe] at hg'
      cases hg'
      rw [hdat] at hdd
      cases hdd
      exact h6
    refine ⟨e, oe, fv, ⟨G', g, dr, tk', os⟩, _, .ref C, some d, rfl, J, fun b o q => ?_, ge, hoe, ⟨hc, hd⟩, hdat, h1, ?_, rfl, I1.bare, raises_own T.exC T.tyC, q1 d (I1.hok.fresh M.dbig)⟩
    · by_cases hb : b = e
      · have q' : G'.get? b = some o := q
        rw [hb, ge] at q'; cases q'
      · exact (gk b hb).symm.trans q
    · rw [upd_ne (Ne.symm M.dne)]
      exact I1.hok.fresh M.new
/-- raise Low(e) -/
def tRaiseBadText (C : Addr) (W : WX) (ta : TA) : TS := fun _ σ H => tMkBadText C ta σ H fun cls d H' => W cls d σ H'
theorem ps_raiseBadText {a : Expr} {ta : TA} {W : WX} {p pos pos2 : Pos} {k : Nat} (hc : X.calm = true) (T : PySem.BadTextX.BadTextTxt X.K X.mg C fI) (hr : Room k X.A) (tk : Takes X W) (ha : PA X [a] ta) (hg : Gl X "BadText" := by rfl)
    (he : starEach (a :: []) X.env = (false, eval a X.env) :: starEach [] X.env := by rfl) (hpl : (backTo pos (starEach [] X.env)).any (·.1) = false := by rfl) :
    PS X (.Raise (some (.Call (.Name "BadText" p) [a] [] pos)) none pos2) (tRaiseBadText C W ta) := ps_raise hc tk (pmk_BadText T hr ha hg he hpl)
/-- low.by, low the exception that the suite holds (at a; its class cls, its dict d) -/
def tByBadText (C : Addr) (a : Addr) (cls : Value) (d : Option Addr) (te : TE) : TE := fun σ H Q => te σ H fun x H1 => x = .ref a ∧ cls = .ref C ∧ ∃ (dd : Addr) (v : V), d = some dd ∧ H1 dd = some (.xd [(("line" : Str), v)]) ∧ Q v H1
theorem pe_byBadText {a : Addr} {oe : Obj} {cls : Value} {d : Option Addr} {pn : List (Addr × Obj)} {e : Expr} {te : TE} {pos : Pos} (T : PySem.BadTextX.BadTextTxt X.K X.mg C fI) (hz : Zc cls d oe) (hf : ∃ vs, oe.data = .fields vs) (he : PE (X.suite a ((a, oe) :: pn)) e te)
    (hb : attributeBase e "line" X.env (eval e X.env) = eval e X.env := by rfl) :
    PE (X.suite a ((a, oe) :: pn)) (.Attribute e "line" pos) (tByBadText C a cls d te) := by
  refine ⟨fun pins s σ H Q I h => ?_⟩
  refine attr_of hb (thn (he.run pins s σ H _ I h) fun u s1 hh => ?_)
  obtain ⟨x, H1, I1, rx, ex, ec, dd, v, ed, ea, q⟩ := hh
  subst ex
  obtain rfl : u = Value.ref a := rx
  subst ec
  subst ed
  obtain ⟨ha, _⟩ := I1.pin (a, oe) (List.mem_append_left _ List.mem_cons_self)
  obtain ⟨vs, hd⟩ := hf
  have hx : ObjOk X.prog X.w H1 s1.heap dd (.xd [(("line" : Str), v)]) := I1.hok dd _ ea
  obtain ⟨mA, hns, hr⟩ := hx
  obtain ⟨od, ho, hl⟩ := lookIn_ns hns
  have l : List.lookup ("line" : Str) [(("line" : Str), v)] = some v := by simp [List.lookup]
  obtain ⟨u, hu, ru⟩ := RelO.some_of (v := v) (o := mA "line") (by rw [← l]; exact hr "line")
  have J : PySem.W.InstAt s1.heap a oe C (some od) := ⟨ha, hz.1, by unfold PySem.W.notCls; rw [hd] <;> rfl, by rw [hz.2]; exact ho⟩
  exact HandSPX.exc_get I1.kIn J T.ga T.gg T.exC (PySem.W.findObj_own T.hdC T.noN rfl (by rw [hl, hu])) (handed_of ru) ⟨v, H1, I1.tok _, ru, q⟩
end
end L2


namespace PySem
namespace BadNumberX
open PySem.W PySem.Calls PyProof.Rows PySem.HandSPX
/-! ### the text of __init__ -/
def iA (p1 p2 : Pos) : Arguments := { posonlyargs := [], args := [{ arg := "self", annotation := none, pos := p1 }, { arg := "name", annotation := none, pos := p2 }], vararg := none, kwonlyargs := [], kw_defaults := [], kwarg := none, defaults := [] }
def iB (q1 q2 q3 q4 : Pos) : List Stmt := [.Assign [.Attribute (.Name "self" q1) "name" q2] (.Name "name" q3) q4]
def iS : Scope := { kind := .function, names := [(PySem.Str.ofString "self", .local), (PySem.Str.ofString "name", .local)], isGenerator := false, isCoroutine := false, more := [] }
/-- what the written part says of Low, at C, and of its __init__, at fI -/
structure BadNumberTxt (K : Frag) (mg : Str → Option Value) (C fI : Addr) : Prop where
  gC : mg "BadNumber" = some (.ref C)
  cls : ∃ nm q N bs bm sn sub ab col dd k0 k1 k2 k3 k5, K.lookup C = some (excClassObj nm q C N bs bm true sn sub ab col dd k0 k1 k2 k3 k5 "ValueError.__new__") ∧ refsVE bm = true
  sa : findIn K (.ref C) "__setattr__" = some (some (.builtin "object.__setattr__"))
  ga : findIn K (.ref C) "__getattribute__" = some (some (.builtin "BaseException.__getattribute__"))
  gg : findIn K (.ref C) "__getattr__" = some none
  noN : findIn K (.ref C) "name" = some none
  iC : findIn K (.ref C) "__init__" = some (some (.ref fI))
  tC : typeIn K (.ref fI) = some (.type "function")
  kC : keepIn K (.ref C) = true
  exC : subIn K (.ref C) (.type "BaseException") = some true
  tyC : typeIn K (.ref C) = some (.type "type")
  hdC : hasDictIn K C = true
  te : exmOne K (.ref C) (.ref C) = some true
  fn : ∃ (oc : Value) (od : Option Addr) (kV doc pm : Value) (an : Option Addr) (cdv ct : Value) (osl : Array (Option Value)) (p1 p2 q1 q2 q3 q4 : Pos),
    K.lookup fI = some ⟨oc, od, .func (fnOf "__init__" "BadNumber.__init__" (iA p1 p2) (iB q1 q2 q3 q4) iS .none kV doc pm an cdv ct), osl⟩ ∧ codeIn K cdv "BadNumber.__init__" = true
theorem one_size (v : Value) : [v].length ≤ sizeLine := by
  rw [sizeLine_eq]
  exact (by decide : 1 ≤ 16777216)
theorem kept_but {K : Frag} {h h' : Heap} {x : Addr} (X : K.In h) (hx : K.lookup x = none) (k : ∀ b o, b ≠ x → h.get? b = some o → h'.get? b = some o) : K.In h' := fun a o e =>
  k a o (fun z => by rw [z, hx] at e; cases e) (X a o e)
theorem ldC {M : Model} {s : Shared} {name : Str} {scope : Scope} {L a : Addr} {cd : Value} {m : Str → Option Value} {x : Str} {pos : Pos} {v : Value} {Q : Value → Shared → Prop} {A : Around} {E : Value → Shared → Prop} (hn : s.heap.Ns L m) (hv : m x = some v) (h : Q v s)
    (hk : scope.kind = .function := by rfl) (hl : (envOfC name scope L a cd).kindOf x = some .local := by rfl) (hd : (x == ("__debug__" : Str)) = false := by decide) :
    wpAny M A (eval (.Name x pos) (envOfC name scope L a cd)) Q E s := wpAny_Name (wpAny_loadName_local hk hl hn hv h) hd
/-- what __init__ leaves of a fresh exception at x -/
structure InitEnd (h h' : Heap) (x C dx t1 : Addr) (v : Value) : Prop where
  keep : ∀ b o, b ≠ x → h.get? b = some o → h'.get? b = some o
  obj : h'.get? x = some { cls := .ref C, dict := some dx, data := .fields #[.ref t1, .none, .none, .none, .bool false, .none] }
  dbig : h.objs.size ≤ dx
  dne : dx ≠ x
  ns : h'.Ns1 dx (fun y => if y = "name" then some v else none)
/-- a made Low -/
structure OwnMade (h h' : Heap) (e C d : Addr) (v : Value) : Prop where
  keep : ∀ b o, h.get? b = some o → h'.get? b = some o
  new : h.objs.size ≤ e
  obj : ∃ oe vs, h'.get? e = some oe ∧ oe.cls = .ref C ∧ oe.dict = some d ∧ oe.data = .fields vs ∧ vs[1]? = some .none ∧ 4 < vs.size
  dbig : h.objs.size ≤ d
  dne : d ≠ e
  ns : h'.Ns1 d (fun y => if y = "name" then some v else none)
section
variable {prog : Program} {w : World} {A : Around} {E : Value → Shared → Prop} {R : Result → Shared → Prop} {s : Shared} {K : Frag} {mg : Str → Option Value} {C fI : Addr}
theorem init_BadNumber (T : BadNumberTxt K mg C fI) {x t0 : Addr} {v : Value} (X : K.In s.heap) (hlim : s.heap.NoLimit) (hx : s.heap.get? x = some (excO C t0)) (hnx : K.lookup x = none) (hroom : A.depth < recursionLimit)
    (hq : ∀ h' tk dx, InitEnd s.heap h' x C dx t0 v → R (.ok (.ret .none)) { s with heap := h', toks := tk }) :
    codeAny (model prog w) A (.call (.ref fI) ⟨[.ref x, v], []⟩) R s := by
  obtain ⟨oc, od, kV, doc, pm, an, cdv, ct, osl, p1, p2, q1, q2, q3, q4, ho, hcd⟩ := T.fn
  obtain ⟨nm, q, N, bs, bm, sn, sub, ab, col, dd, k0, k1, k2, k3, k5, hC, hbm⟩ := T.cls
  have hcl : clsIn K C = some { name := nm, bases := bs, mro := .ref C :: bm, ns := N, qualname := q, hasDict := true, slotNames := sn, subclasses := sub, abstract := ab, collection := col, hasDel := false } := by unfold clsIn; rw [hC] <;> rfl
  refine Att.call_fn (binds := [("self", .ref x), ("name", v)]) X hlim ho hcd hroom (BindsTo.of_eq (by first | rfl | with_unfolding_all rfl)) (by first | rfl | decide | with_unfolding_all rfl) (fun s₁ IC => ?_) rfl rfl rfl
  obtain ⟨h₁, tk₁, rfl⟩ := IC.toInCall.same
  have k : ∀ b o, s.heap.get? b = some o → h₁.get? b = some o := IC.toInCall.keep
  have hn := IC.toInCall.ns
  have hxL : s.heap.objs.size ≠ x := Nat.ne_of_gt (Heap.lt_size hx)
  have X₁ : K.In h₁ := X.keeps k
  have hx₁ := k _ _ hx
  -- self.by = by
  show wpAny _ _ (execs _ _) _ _ _
  refine wpAny_execs_cons (plainObj_wpAny_Assign_Attribute ?_)
  refine ldC (v := v) hn (by first | rfl | with_unfolding_all rfl | kernel_rfl) (ldC (v := .ref x) hn (by first | rfl | with_unfolding_all rfl | kernel_rfl) ?_)
  refine set_plain X₁ (ox := excO C t0) (od := none) ⟨hx₁, rfl, rfl, trivial⟩ T.sa ?_
  refine exc_osa X₁ hx₁ hcl (show refsVE (.ref C :: bm) = true from hbm) rfl T.noN (fun h₃ tk₃ dx k₃ dn dne hx₃ hn₃ => ?_)
  show wpAny _ _ (execs _ _) _ _ _
  have z : s.heap.objs.size < h₁.objs.size := hn.lt
  exact wpAny_execs_nil (hq h₃ tk₃ dx ⟨fun b o hb e => k₃ b o hb (k b o e), hx₃, Nat.le_of_lt (Nat.lt_of_lt_of_le z dn), dne, hn₃⟩)
theorem made_BadNumber (T : BadNumberTxt K mg C fI) {v : Value} (X : K.In s.heap) (hlim : s.heap.NoLimit) (hroom : A.depth + 1 < recursionLimit)
    (hq : ∀ h' tk e d, OwnMade s.heap h' e C d v → R (.ok (.ret (.ref e))) { s with heap := h', toks := tk }) :
    codeAny (model prog w) A (.call (.ref C) ⟨[v], []⟩) R s := by
  obtain ⟨nm, q, N, bs, bm, sn, sub, ab, col, dd, k0, k1, k2, k3, k5, hC, hbm⟩ := T.cls
  obtain ⟨hp, g, dr, tk, os⟩ := s
  have k : ∀ b o, hp.get? b = some o → ((hp.push (kdv_tup [v])).push (excO C hp.objs.size)).get? b = some o := fun b o e => Heap.get?_push_of_some _ (Heap.get?_push_of_some _ e)
  have hget : ((hp.push (kdv_tup [v])).push (excO C hp.objs.size)).get? (hp.objs.size + 1) = some (excO C hp.objs.size) := by heap_get
  have hnx : K.lookup (hp.objs.size + 1) = none := by
    cases e : K.lookup (hp.objs.size + 1) with
    | none => rfl
    | some o =>
      have z : hp.get? (hp.objs.size + 1) = some o := X _ _ e
      exact absurd (Nat.lt_of_succ_lt (Heap.lt_size z)) (Nat.lt_irrefl _)
  refine call_own F.excBase_ValueError (fun X => refsVE_contains X bm hbm) (X _ _ hC) (looks_findIn X T.iC) (fun self => bind_fn X self T.tC) (one_size v) ?_
  refine init_BadNumber (s := ⟨(hp.push (kdv_tup [v])).push (excO C hp.objs.size), g, dr, tk, os⟩) T (X.keeps k) (hlim.keeps k) hget hnx ?_ fun h' tk' dx ⟨k', hx, dn, dne, hns⟩ => ?_
  · show A.depth + 1 < recursionLimit
    exact hroom
  · have old : ∀ b o, hp.get? b = some o → h'.get? b = some o := fun b o e => k' b o (Nat.ne_of_lt (Nat.lt_succ_of_lt (Heap.lt_size e))) (k b o e)
    have z : hp.objs.size + 1 + 1 ≤ dx := by
      first
        | (simpa only [Heap.size_push] using dn)
        | exact dn
        | (have q := dn; rw [Heap.size_push, Heap.size_push] at q; exact q)
    exact ⟨rfl, hq h' tk' (hp.objs.size + 1) dx ⟨old, Nat.le_succ _, ⟨_, _, hx, rfl, rfl, rfl, rfl, (by show (4 : Nat) < 6; decide)⟩, Nat.le_trans (Nat.le_trans (Nat.le_succ _) (Nat.le_succ _)) z, dne, hns⟩⟩
end
end BadNumberX
end PySem
namespace L2
open PySem PySem.Spec PyProof.Rows
theorem relO_BadNumber {v : V} {v' : Value} (r : RelV v v') (f : Str) : RelO (List.lookup f [(("name" : Str), v)]) (if f = "name" then some v' else none) := by
  by_cases hw : f = "name"
  · subst hw
    rw [if_pos rfl]
    have q : List.lookup ("name" : Str) [(("name" : Str), v)] = some v := by simp [List.lookup]
    rw [q]
    exact r
  · rw [if_neg hw]
    have qw : (f == ("name" : Str)) = false := by simpa using hw
    have q2 : List.lookup f [(("name" : Str), v)] = none := by simp [List.lookup, qw]
    rw [q2]
    trivial
section
variable {X : Cx} {C fI : Addr}
/-- Low(e) -/
def tMkBadNumber (C : Addr) (ta : TA) : St → Hp → XK → Prop := fun σ H Q => ta σ H fun vs H1 => ∃ v, vs = [v] ∧ ∀ d, H1 d = none → Q (.ref C) (some d) (upd H1 d (.xd [(("name" : Str), v)]))
theorem pmk_BadNumber {a : Expr} {ta : TA} {p pos : Pos} {k : Nat} (T : PySem.BadNumberX.BadNumberTxt X.K X.mg C fI) (hr : Room k X.A) (ha : PA X [a] ta) (hg : Gl X "BadNumber" := by rfl)
    (he : starEach (a :: []) X.env = (false, eval a X.env) :: starEach [] X.env := by rfl) (hpl : (backTo pos (starEach [] X.env)).any (·.1) = false := by rfl) :
    PMk X (.Call (.Name "BadNumber" p) [a] [] pos) (tMkBadNumber C ta) := by
  intro pins s σ H Q I h
  refine wpAny_Call_Name_kw (ld_glob I hg T.gC ?_)
  refine PySem.W.callWith_K (h₀ := X.base) I.ok.mod.kin T.kC (thn (ha.run pos pins s σ H _ I h) fun us s1 hh => ?_) he hpl
  obtain ⟨vs, H1, I1, r1, v, ev, q1⟩ := hh
  subst ev
  refine ⟨I1.kIn, ?_⟩
  cases r1 with
  | cons rv rn =>
    rename_i v' us'
    cases rn
    show wpAny _ _ (call (.ref C) [v']) _ _ _
    have hlim := I1.nolimit
    obtain ⟨hp, g, dr, tk, os⟩ := s1
    refine wpAny_call (PySem.BadNumberX.made_BadNumber T I1.kIn hlim (by have := hr.dp; omega) fun h' tk' e d M => ?_)
    show MkP X pins σ Q (.ref e) ⟨h', g, dr, tk', os⟩
    obtain ⟨oe, fv, hoe, hc, hd, hdat, h1, _⟩ := M.obj
    have hns := M.ns
    obtain ⟨G', g1, g2⟩ := restrict h' fun b => decide (b ≠ e)
    have gk : ∀ b, b ≠ e → G'.get? b = h'.get? b := fun b hb => g1 b (decide_eq_true hb)
    have ge : G'.get? e = none := g2 e (by simp)
    have old : ∀ b o, hp.get? b = some o → G'.get? b = some o := fun b o q => (gk b (Nat.ne_of_lt (Nat.lt_of_lt_of_le (Heap.lt_size q) M.new))).trans (M.keep b o q)
    have ob : ObjOk X.prog X.w (upd H1 d (.xd [(("name" : Str), v)])) G' d (.xd [(("name" : Str), v)]) :=
      ⟨_, hns.at (fun o q => (gk d M.dne).trans q), fun f => relO_BadNumber rv f⟩
    have J : Inv X pins σ (upd H1 d (.xd [(("name" : Str), v)])) ⟨G', g, dr, tk', os⟩ := I1.laid (t' := tk') old M.dbig ob
    refine ⟨e, oe, fv, ⟨G', g, dr, tk', os⟩, _, .ref C, some d, rfl, J, fun b o q => ?_, ge, hoe, ⟨hc, hd⟩, hdat, h1, ?_, rfl, I1.bare, raises_own T.exC T.tyC, q1 d (I1.hok.fresh M.dbig)⟩
    · by_cases hb : b = e
      · have q' : G'.get? b = some o := q
        rw [hb, ge] at q'; cases q'
      · exact (gk b hb).symm.trans q
    · rw [upd_ne (Ne.symm M.dne)]
      exact I1.hok.fresh M.new
/-- raise Low(e) -/
def tRaiseBadNumber (C : Addr) (W : WX) (ta : TA) : TS := fun _ σ H => tMkBadNumber C ta σ H fun cls d H' => W cls d σ H'
theorem ps_raiseBadNumber {a : Expr} {ta : TA} {W : WX} {p pos pos2 : Pos} {k : Nat} (hc : X.calm = true) (T : PySem.BadNumberX.BadNumberTxt X.K X.mg C fI) (hr : Room k X.A) (tk : Takes X W) (ha : PA X [a] ta) (hg : Gl X "BadNumber" := by rfl)
    (he : starEach (a :: []) X.env = (false, eval a X.env) :: starEach [] X.env := by rfl) (hpl : (backTo pos (starEach [] X.env)).any (·.1) = false := by rfl) :
    PS X (.Raise (some (.Call (.Name "BadNumber" p) [a] [] pos)) none pos2) (tRaiseBadNumber C W ta) := ps_raise hc tk (pmk_BadNumber T hr ha hg he hpl)
/-- low.by, low the exception that the suite holds (at a; its class cls, its dict d) -/
def tByBadNumber (C : Addr) (a : Addr) (cls : Value) (d : Option Addr) (te : TE) : TE := fun σ H Q => te σ H fun x H1 => x = .ref a ∧ cls = .ref C ∧ ∃ (dd : Addr) (v : V), d = some dd ∧ H1 dd = some (.xd [(("name" : Str), v)]) ∧ Q v H1
theorem pe_byBadNumber {a : Addr} {oe : Obj} {cls : Value} {d : Option Addr} {pn : List (Addr × Obj)} {e : Expr} {te : TE} {pos : Pos} (T : PySem.BadNumberX.BadNumberTxt X.K X.mg C fI) (hz : Zc cls d oe) (hf : ∃ vs, oe.data = .fields vs) (he : PE (X.suite a ((a, oe) :: pn)) e te)
    (hb : attributeBase e "name" X.env (eval e X.env) = eval e X.env := by rfl) :
    PE (X.suite a ((a, oe) :: pn)) (.Attribute e "name" pos) (tByBadNumber C a cls d te) := by
  refine ⟨fun pins s σ H Q I h => ?_⟩
  refine attr_of hb (thn (he.run pins s σ H _ I h) fun u s1 hh => ?_)
  obtain ⟨x, H1, I1, rx, ex, ec, dd, v, ed, ea, q⟩ := hh
  subst ex
  obtain rfl : u = Value.ref a := rx
  subst ec
  subst ed
  obtain ⟨ha, _⟩ := I1.pin (a, oe) (List.mem_append_left _ List.mem_cons_self)
  obtain ⟨vs, hd⟩ := hf
  have hx : ObjOk X.prog X.w H1 s1.heap dd (.xd [(("name" : Str), v)]) := I1.hok dd _ ea
  obtain ⟨mA, hns, hr⟩ := hx
  obtain ⟨od, ho, hl⟩ := lookIn_ns hns
  have l : List.lookup ("name" : Str) [(("name" : Str), v)] = some v := by simp [List.lookup]
  obtain ⟨u, hu, ru⟩ := RelO.some_of (v := v) (o := mA "name") (by rw [← l]; exact hr "name")
  have J : PySem.W.InstAt s1.heap a oe C (some od) := ⟨ha, hz.1, by unfold PySem.W.notCls; rw [hd] <;> rfl, by rw [hz.2]; exact ho⟩
  exact HandSPX.exc_get I1.kIn J T.ga T.gg T.exC (PySem.W.findObj_own T.hdC T.noN rfl (by rw [hl, hu])) (handed_of ru) ⟨v, H1, I1.tok _, ru, q⟩
end
end L2


namespace PySem
namespace BadRunX
open PySem.W PySem.Calls PyProof.Rows PySem.HandSPX
/-! ### the text of __init__ -/
def iA (p1 p2 : Pos) : Arguments := { posonlyargs := [], args := [{ arg := "self", annotation := none, pos := p1 }, { arg := "place", annotation := none, pos := p2 }], vararg := none, kwonlyargs := [], kw_defaults := [], kwarg := none, defaults := [] }
def iB (q1 q2 q3 q4 : Pos) : List Stmt := [.Assign [.Attribute (.Name "self" q1) "place" q2] (.Name "place" q3) q4]
def iS : Scope := { kind := .function, names := [(PySem.Str.ofString "self", .local), (PySem.Str.ofString "place", .local)], isGenerator := false, isCoroutine := false, more := [] }
/-- what the written part says of Low, at C, and of its __init__, at fI -/
structure BadRunTxt (K : Frag) (mg : Str → Option Value) (C fI : Addr) : Prop where
  gC : mg "BadRun" = some (.ref C)
  cls : ∃ nm q N bs bm sn sub ab col dd k0 k1 k2 k3 k5, K.lookup C = some (excClassObj nm q C N bs bm true sn sub ab col dd k0 k1 k2 k3 k5 "ValueError.__new__") ∧ refsVE bm = true
  sa : findIn K (.ref C) "__setattr__" = some (some (.builtin "object.__setattr__"))
  ga : findIn K (.ref C) "__getattribute__" = some (some (.builtin "BaseException.__getattribute__"))
  gg : findIn K (.ref C) "__getattr__" = some none
  noN : findIn K (.ref C) "place" = some none
  iC : findIn K (.ref C) "__init__" = some (some (.ref fI))
  tC : typeIn K (.ref fI) = some (.type "function")
  kC : keepIn K (.ref C) = true
  exC : subIn K (.ref C) (.type "BaseException") = some true
  tyC : typeIn K (.ref C) = some (.type "type")
  hdC : hasDictIn K C = true
  te : exmOne K (.ref C) (.ref C) = some true
  fn : ∃ (oc : Value) (od : Option Addr) (kV doc pm : Value) (an : Option Addr) (cdv ct : Value) (osl : Array (Option Value)) (p1 p2 q1 q2 q3 q4 : Pos),
    K.lookup fI = some ⟨oc, od, .func (fnOf "__init__" "BadRun.__init__" (iA p1 p2) (iB q1 q2 q3 q4) iS .none kV doc pm an cdv ct), osl⟩ ∧ codeIn K cdv "BadRun.__init__" = true
theorem one_size (v : Value) : [v].length ≤ sizeLine := by
  rw [sizeLine_eq]
  exact (by decide : 1 ≤ 16777216)
theorem kept_but {K : Frag} {h h' : Heap} {x : Addr} (X : K.In h) (hx : K.lookup x = none) (k : ∀ b o, b ≠ x → h.get? b = some o → h'.get? b = some o) : K.In h' := fun a o e =>
  k a o (fun z => by rw [z, hx] at e; cases e) (X a o e)
theorem ldC {M : Model} {s : Shared} {name : Str} {scope : Scope} {L a : Addr} {cd : Value} {m : Str → Option Value} {x : Str} {pos : Pos} {v : Value} {Q : Value → Shared → Prop} {A : Around} {E : Value → Shared → Prop} (hn : s.heap.Ns L m) (hv : m x = some v) (h : Q v s)
    (hk : scope.kind = .function := by rfl) (hl : (envOfC name scope L a cd).kindOf x = some .local := by rfl) (hd : (x == ("__debug__" : Str)) = false := by decide) :
    wpAny M A (eval (.Name x pos) (envOfC name scope L a cd)) Q E s := wpAny_Name (wpAny_loadName_local hk hl hn hv h) hd
/-- what __init__ leaves of a fresh exception at x -/
structure InitEnd (h h' : Heap) (x C dx t1 : Addr) (v : Value) : Prop where
  keep : ∀ b o, b ≠ x → h.get? b = some o → h'.get? b = some o
  obj : h'.get? x = some { cls := .ref C, dict := some dx, data := .fields #[.ref t1, .none, .none, .none, .bool false, .none] }
  dbig : h.objs.size ≤ dx
  dne : dx ≠ x
  ns : h'.Ns1 dx (fun y => if y = "place" then some v else none)
/-- a made Low -/
structure OwnMade (h h' : Heap) (e C d : Addr) (v : Value) : Prop where
  keep : ∀ b o, h.get? b = some o → h'.get? b = some o
  new : h.objs.size ≤ e
  obj : ∃ oe vs, h'.get? e = some oe ∧ oe.cls = .ref C ∧ oe.dict = some d ∧ oe.data = .fields vs ∧ vs[1]? = some .none ∧ 4 < vs.size
  dbig : h.objs.size ≤ d
  dne : d ≠ e
  ns : h'.Ns1 d (fun y => if y = "place" then some v else none)
section
variable {prog : Program} {w : World} {A : Around} {E : Value → Shared → Prop} {R : Result → Shared → Prop} {s : Shared} {K : Frag} {mg : Str → Option Value} {C fI : Addr}
theorem init_BadRun (T : BadRunTxt K mg C fI) {x t0 : Addr} {v : Value} (X : K.In s.heap) (hlim : s.heap.NoLimit) (hx : s.heap.get? x = some (excO C t0)) (hnx : K.lookup x = none) (hroom : A.depth < recursionLimit)
    (hq : ∀ h' tk dx, InitEnd s.heap h' x C dx t0 v → R (.ok (.ret .none)) { s with heap := h', toks := tk }) :
    codeAny (model prog w) A (.call (.ref fI) ⟨[.ref x, v], []⟩) R s := by
  obtain ⟨oc, od, kV, doc, pm, an, cdv, ct, osl, p1, p2, q1, q2, q3, q4, ho, hcd⟩ := T.fn
  obtain ⟨nm, q, N, bs, bm, sn, sub, ab, col, dd, k0, k1, k2, k3, k5, hC, hbm⟩ := T.cls
  have hcl : clsIn K C = some { name := nm, bases := bs, mro := .ref C :: bm, ns := N, qualname := q, hasDict := true, slotNames := sn, subclasses := sub, abstract := ab, collection := col, hasDel := false } := by unfold clsIn; rw [hC] <;> rfl
  refine Att.call_fn (binds := [("self", .ref x), ("place", v)]) X hlim ho hcd hroom (BindsTo.of_eq (by first | rfl | with_unfolding_all rfl)) (by first | rfl | decide | with_unfolding_all rfl) (fun s₁ IC => ?_) rfl rfl rfl
  obtain ⟨h₁, tk₁, rfl⟩ := IC.toInCall.same
  have k : ∀ b o, s.heap.get? b = some o → h₁.get? b = some o := IC.toInCall.keep
  have hn := IC.toInCall.ns
  have hxL : s.heap.objs.size ≠ x := Nat.ne_of_gt (Heap.lt_size hx)
  have X₁ : K.In h₁ := X.keeps k
  have hx₁ := k _ _ hx
  -- self.by = by
  show wpAny _ _ (execs _ _) _ _ _
  refine wpAny_execs_cons (plainObj_wpAny_Assign_Attribute ?_)
  refine ldC (v := v) hn (by first | rfl | with_unfolding_all rfl | kernel_rfl) (ldC (v := .ref x) hn (by first | rfl | with_unfolding_all rfl | kernel_rfl) ?_)
  refine set_plain X₁ (ox := excO C t0) (od := none) ⟨hx₁, rfl, rfl, trivial⟩ T.sa ?_
  refine exc_osa X₁ hx₁ hcl (show refsVE (.ref C :: bm) = true from hbm) rfl T.noN (fun h₃ tk₃ dx k₃ dn dne hx₃ hn₃ => ?_)
  show wpAny _ _ (execs _ _) _ _ _
  have z : s.heap.objs.size < h₁.objs.size := hn.lt
  exact wpAny_execs_nil (hq h₃ tk₃ dx ⟨fun b o hb e => k₃ b o hb (k b o e), hx₃, Nat.le_of_lt (Nat.lt_of_lt_of_le z dn), dne, hn₃⟩)
theorem made_BadRun (T : BadRunTxt K mg C fI) {v : Value} (X : K.In s.heap) (hlim : s.heap.NoLimit) (hroom : A.depth + 1 < recursionLimit)
    (hq : ∀ h' tk e d, OwnMade s.heap h' e C d v → R (.ok (.ret (.ref e))) { s with heap := h', toks := tk }) :
    codeAny (model prog w) A (.call (.ref C) ⟨[v], []⟩) R s := by
  obtain ⟨nm, q, N, bs, bm, sn, sub, ab, col, dd, k0, k1, k2, k3, k5, hC, hbm⟩ := T.cls
  obtain ⟨hp, g, dr, tk, os⟩ := s
  have k : ∀ b o, hp.get? b = some o → ((hp.push (kdv_tup [v])).push (excO C hp.objs.size)).get? b = some o := fun b o e => Heap.get?_push_of_some _ (Heap.get?_push_of_some _ e)
  have hget : ((hp.push (kdv_tup [v])).push (excO C hp.objs.size)).get? (hp.objs.size + 1) = some (excO C hp.objs.size) := by heap_get
  have hnx : K.lookup (hp.objs.size + 1) = none := by
    cases e : K.lookup (hp.objs.size + 1) with
    | none => rfl
    | some o =>
      have z : hp.get? (hp.objs.size + 1) = some o := X _ _ e
      exact absurd (Nat.lt_of_succ_lt (Heap.lt_size z)) (Nat.lt_irrefl _)
  refine call_own F.excBase_ValueError (fun X => refsVE_contains X bm hbm) (X _ _ hC) (looks_findIn X T.iC) (fun self => bind_fn X self T.tC) (one_size v) ?_
  refine init_BadRun (s := ⟨(hp.push (kdv_tup [v])).push (excO C hp.objs.size), g, dr, tk, os⟩) T (X.keeps k) (hlim.keeps k) hget hnx ?_ fun h' tk' dx ⟨k', hx, dn, dne, hns⟩ => ?_
  · show A.depth + 1 < recursionLimit
    exact hroom
  · have old : ∀ b o, hp.get? b = some o → h'.get? b = some o := fun b o e => k' b o (Nat.ne_of_lt (Nat.lt_succ_of_lt (Heap.lt_size e))) (k b o e)
    have z : hp.objs.size + 1 + 1 ≤ dx := by
      first
        | (simpa only [Heap.size_push] using dn)
        | exact dn
        | (have q := dn; rw [Heap.size_push, Heap.size_push] at q; exact q)
    exact ⟨rfl, hq h' tk' (hp.objs.size + 1) dx ⟨old, Nat.le_succ _, ⟨_, _, hx, rfl, rfl, rfl, rfl, (by show (4 : Nat) < 6; decide)⟩, Nat.le_trans (Nat.le_trans (Nat.le_succ _) (Nat.le_succ _)) z, dne, hns⟩⟩
end
end BadRunX
end PySem
namespace L2
open PySem PySem.Spec PyProof.Rows
theorem relO_BadRun {v : V} {v' : Value} (r : RelV v v') (f : Str) : RelO (List.lookup f [(("place" : Str), v)]) (if f = "place" then some v' else none) := by
  by_cases hw : f = "place"
  · subst hw
    rw [if_pos rfl]
    have q : List.lookup ("place" : Str) [(("place" : Str), v)] = some v := by simp [List.lookup]
    rw [q]
    exact r
  · rw [if_neg hw]
    have qw : (f == ("place" : Str)) = false := by simpa using hw
    have q2 : List.lookup f [(("place" : Str), v)] = none := by simp [List.lookup, qw]
    rw [q2]
    trivial
section
variable {X : Cx} {C fI : Addr}
/-- Low(e) -/
def tMkBadRun (C : Addr) (ta : TA) : St → Hp → XK → Prop := fun σ H Q => ta σ H fun vs H1 => ∃ v, vs = [v] ∧ ∀ d, H1 d = none → Q (.ref C) (some d) (upd H1 d (.xd [(("place" : Str), v)]))
theorem pmk_BadRun {a : Expr} {ta : TA} {p pos : Pos} {k : Nat} (T : PySem.BadRunX.BadRunTxt X.K X.mg C fI) (hr : Room k X.A) (ha : PA X [a] ta) (hg : Gl X "BadRun" := by rfl)
    (he : starEach (a :: []) X.env = (false, eval a X.env) :: starEach [] X.env := by rfl) (hpl : (backTo pos (starEach [] X.env)).any (·.1) = false := by rfl) :
    PMk X (.Call (.Name "BadRun" p) [a] [] pos) (tMkBadRun C ta) := by
  intro pins s σ H Q I h
  refine wpAny_Call_Name_kw (ld_glob I hg T.gC ?_)
  refine PySem.W.callWith_K (h₀ := X.base) I.ok.mod.kin T.kC (thn (ha.run pos pins s σ H _ I h) fun us s1 hh => ?_) he hpl
  obtain ⟨vs, H1, I1, r1, v, ev, q1⟩ := hh
  subst ev
  refine ⟨I1.kIn, ?_⟩
  cases r1 with
  | cons rv rn =>
    rename_i v' us'
    cases rn
    show wpAny _ _ (call (.ref C) [v']) _ _ _
    have hlim := I1.nolimit
    obtain ⟨hp, g, dr, tk, os⟩ := s1
    refine wpAny_call (PySem.BadRunX.made_BadRun T I1.kIn hlim (by have := hr.dp; omega) fun h' tk' e d M => ?_)
    show MkP X pins σ Q (.ref e) ⟨h', g, dr, tk', os⟩
    obtain ⟨oe, fv, hoe, hc, hd, hdat, h1, _⟩ := M.obj
    have hns := M.ns
    obtain ⟨G', g1, g2⟩ := restrict h' fun b => decide (b ≠ e)
    have gk : ∀ b, b ≠ e → G'.get? b = h'.get? b := fun b hb => g1 b (decide_eq_true hb)
    have ge : G'.get? e = none := g2 e (by simp)
    have old : ∀ b o, hp.get? b = some o → G'.get? b = some o := fun b o q => (gk b (Nat.ne_of_lt (Nat.lt_of_lt_of_le (Heap.lt_size q) M.new))).trans (M.keep b o q)
    have ob : ObjOk X.prog X.w (upd H1 d (.xd [(("place" : Str), v)])) G' d (.xd [(("place" : Str), v)]) :=
      ⟨_, hns.at (fun o q => (gk d M.dne).trans q), fun f => relO_BadRun rv f⟩
    have J : Inv X pins σ (upd H1 d (.xd [(("place" : Str), v)])) ⟨G', g, dr, tk', os⟩ := I1.laid (t' := tk') old M.dbig ob
    refine ⟨e, oe, fv, ⟨G', g, dr, tk', os⟩, _, .ref C, some d, rfl, J, fun b o q => ?_, ge, hoe, ⟨hc, hd⟩, hdat, h1, ?_, rfl, I1.bare, raises_own T.exC T.tyC, q1 d (I1.hok.fresh M.dbig)⟩
    · by_cases hb : b = e
      · have q' : G'.get? b = some o := q
        rw [hb, ge] at q'; cases q'
      · exact (gk b hb).symm.trans q
    · rw [upd_ne (Ne.symm M.dne)]
      exact I1.hok.fresh M.new
/-- raise Low(e) -/
def tRaiseBadRun (C : Addr) (W : WX) (ta : TA) : TS := fun _ σ H => tMkBadRun C ta σ H fun cls d H' => W cls d σ H'
theorem ps_raiseBadRun {a : Expr} {ta : TA} {W : WX} {p pos pos2 : Pos} {k : Nat} (hc : X.calm = true) (T : PySem.BadRunX.BadRunTxt X.K X.mg C fI) (hr : Room k X.A) (tk : Takes X W) (ha : PA X [a] ta) (hg : Gl X "BadRun" := by rfl)
    (he : starEach (a :: []) X.env = (false, eval a X.env) :: starEach [] X.env := by rfl) (hpl : (backTo pos (starEach [] X.env)).any (·.1) = false := by rfl) :
    PS X (.Raise (some (.Call (.Name "BadRun" p) [a] [] pos)) none pos2) (tRaiseBadRun C W ta) := ps_raise hc tk (pmk_BadRun T hr ha hg he hpl)
/-- low.by, low the exception that the suite holds (at a; its class cls, its dict d) -/
def tByBadRun (C : Addr) (a : Addr) (cls : Value) (d : Option Addr) (te : TE) : TE := fun σ H Q => te σ H fun x H1 => x = .ref a ∧ cls = .ref C ∧ ∃ (dd : Addr) (v : V), d = some dd ∧ H1 dd = some (.xd [(("place" : Str), v)]) ∧ Q v H1
theorem pe_byBadRun {a : Addr} {oe : Obj} {cls : Value} {d : Option Addr} {pn : List (Addr × Obj)} {e : Expr} {te : TE} {pos : Pos} (T : PySem.BadRunX.BadRunTxt X.K X.mg C fI) (hz : Zc cls d oe) (hf : ∃ vs, oe.data = .fields vs) (he : PE (X.suite a ((a, oe) :: pn)) e te)
    (hb : attributeBase e "place" X.env (eval e X.env) = eval e X.env := by rfl) :
    PE (X.suite a ((a, oe) :: pn)) (.Attribute e "place" pos) (tByBadRun C a cls d te) := by
  refine ⟨fun pins s σ H Q I h => ?_⟩
  refine attr_of hb (thn (he.run pins s σ H _ I h) fun u s1 hh => ?_)
  obtain ⟨x, H1, I1, rx, ex, ec, dd, v, ed, ea, q⟩ := hh
  subst ex
  obtain rfl : u = Value.ref a := rx
  subst ec
  subst ed
  obtain ⟨ha, _⟩ := I1.pin (a, oe) (List.mem_append_left _ List.mem_cons_self)
  obtain ⟨vs, hd⟩ := hf
  have hx : ObjOk X.prog X.w H1 s1.heap dd (.xd [(("place" : Str), v)]) := I1.hok dd _ ea
  obtain ⟨mA, hns, hr⟩ := hx
  obtain ⟨od, ho, hl⟩ := lookIn_ns hns
  have l : List.lookup ("place" : Str) [(("place" : Str), v)] = some v := by simp [List.lookup]
  obtain ⟨u, hu, ru⟩ := RelO.some_of (v := v) (o := mA "place") (by rw [← l]; exact hr "place")
  have J : PySem.W.InstAt s1.heap a oe C (some od) := ⟨ha, hz.1, by unfold PySem.W.notCls; rw [hd] <;> rfl, by rw [hz.2]; exact ho⟩
  exact HandSPX.exc_get I1.kIn J T.ga T.gg T.exC (PySem.W.findObj_own T.hdC T.noN rfl (by rw [hl, hu])) (handed_of ru) ⟨v, H1, I1.tok _, ru, q⟩
end
end L2



namespace L2
open PySem PySem.Spec PyProof.Rows HotX
/-- an argument that makes nothing -/
def Plain1 (X : Cx) (a : Expr) (t : St → Prop) : Prop := ∀ (pins : List (Addr × Obj)) (s : Shared) (σ : St) (H : Hp) (Q : Value → Shared → Prop), Inv X pins σ H s → t σ → (∀ u tk, Q u { s with toks := tk }) → wpAny (model X.prog X.w) X.A (eval a X.env) Q X.xe s
theorem plain_str {X : Cx} {x : Str} {j pos} : Plain1 X (.Constant (.str x) j pos) (fun _ => True) := fun _ _ _ _ _ _ _ h => Calls.Constant_str (h _ _)
theorem plain_var {X : Cx} {i : Nat} {x : Str} {pos : Pos} (hN : X.N[i]? = some x) (hv : Vis X.env.scope x) (hd : (x == ("__debug__" : Str)) = false := by decide) (hcd : (x == ("__classdict__" : Str)) = false := by decide) :
    Plain1 X (.Name x pos) (fun σ => ∃ v, σ[i]? = some (some v)) := by
  intro pins s σ H Q I ⟨v, e⟩ h
  obtain ⟨m, hn, hl⟩ := I.loc
  obtain ⟨u, r, l⟩ := hl i x v hN e hv
  rcases l with ⟨hk, hm⟩ | ⟨hk, c, hc, hcell⟩
  · exact wpAny_Name (wpAny_loadName_local I.ok.kind hk hn hm (h u s.toks)) hd
  · rcases hk with hk | hk
    · exact wpAny_Name (wpAny_loadName_cell I.ok.kind hk hc hcell (h u s.toks)) hd
    · exact wpAny_Name (wpAny_loadName_free I.ok.kind hk hc hcell (h u s.toks) hcd) hd
/-- an expression that makes an exception; all that stood stands -/
def Caus (X : Cx) (c : Expr) (t : St → Prop) : Prop := ∀ (pins : List (Addr × Obj)) (s : Shared) (σ : St) (H : Hp) (Q : Value → Shared → Prop), Inv X pins σ H s → t σ →
  (∀ (h' : Heap) (tk : Nat) (b : Addr) (ob : Obj) (cls : Value) (vs : Array Value), (∀ a o, s.heap.get? a = some o → h'.get? a = some o) → h'.get? b = some ob → ob.cls = cls → ob.data = .fields vs → Raises X cls → Q (.ref b) { s with heap := h', toks := tk }) →
  wpAny (model X.prog X.w) X.A (eval c X.env) Q X.xe s

theorem caus_BadNumber {X : Cx} {C fI : Addr} {a : Expr} {ta : St → Prop} {p pos : Pos} {k : Nat} (T : PySem.BadNumberX.BadNumberTxt X.K X.mg C fI) (hr : Room k X.A) (ha : Plain1 X a ta) (hg : Gl X "BadNumber" := by rfl)
    (he : starEach (a :: []) X.env = (false, eval a X.env) :: starEach [] X.env := by rfl) (hpl : (backTo pos (starEach [] X.env)).any (·.1) = false := by rfl) :
    Caus X (.Call (.Name "BadNumber" p) [a] [] pos) ta := by
  intro pins s σ H Q I h hq
  refine wpAny_Call_Name_kw (ld_glob I hg T.gC ?_)
  refine PySem.W.callWith_K (h₀ := X.base) I.ok.mod.kin T.kC ?_ he hpl
  rw [he]
  show wpAny _ _ (spliced ((false, eval a X.env) :: backTo pos (starEach [] X.env))) _ _ s
  refine Calls.spliced_cons (ha pins s σ H _ I h fun u tk => ?_)
  refine PySem.Calls.spliced_nil ?_
  have I2 : Inv X pins σ H { s with toks := tk } := I.tok tk
  refine ⟨I2.kIn, wpAny_call (PySem.BadNumberX.made_BadNumber (s := { s with toks := tk }) T I2.kIn I2.nolimit (by have := hr.dp; omega) fun h' tk' e d M => ?_)⟩
  obtain ⟨oe, fv, hoe, hc, hd, hdat, h1, _⟩ := M.obj
  exact hq h' tk' e oe (.ref C) fv M.keep hoe hc hdat (raises_own T.exC T.tyC)

theorem caus_BadRun {X : Cx} {C fI : Addr} {a : Expr} {ta : St → Prop} {p pos : Pos} {k : Nat} (T : PySem.BadRunX.BadRunTxt X.K X.mg C fI) (hr : Room k X.A) (ha : Plain1 X a ta) (hg : Gl X "BadRun" := by rfl)
    (he : starEach (a :: []) X.env = (false, eval a X.env) :: starEach [] X.env := by rfl) (hpl : (backTo pos (starEach [] X.env)).any (·.1) = false := by rfl) :
    Caus X (.Call (.Name "BadRun" p) [a] [] pos) ta := by
  intro pins s σ H Q I h hq
  refine wpAny_Call_Name_kw (ld_glob I hg T.gC ?_)
  refine PySem.W.callWith_K (h₀ := X.base) I.ok.mod.kin T.kC ?_ he hpl
  rw [he]
  show wpAny _ _ (spliced ((false, eval a X.env) :: backTo pos (starEach [] X.env))) _ _ s
  refine Calls.spliced_cons (ha pins s σ H _ I h fun u tk => ?_)
  refine PySem.Calls.spliced_nil ?_
  have I2 : Inv X pins σ H { s with toks := tk } := I.tok tk
  refine ⟨I2.kIn, wpAny_call (PySem.BadRunX.made_BadRun (s := { s with toks := tk }) T I2.kIn I2.nolimit (by have := hr.dp; omega) fun h' tk' e d M => ?_)⟩
  obtain ⟨oe, fv, hoe, hc, hd, hdat, h1, _⟩ := M.obj
  exact hq h' tk' e oe (.ref C) fv M.keep hoe hc hdat (raises_own T.exC T.tyC)

/-- the heap behind «from c» -/
def causeIn (h : Heap) (a : Addr) (c : Value) : Heap := (h.update a (Obj.mapFields (·.setIfInBounds 3 c))).update a (Obj.mapFields (·.setIfInBounds 4 (.bool true)))
theorem causeIn_at {h : Heap} {a : Addr} {c : Value} {oe : Obj} {vs : Array Value} (ha : h.get? a = some oe) (hd : oe.data = .fields vs) :
    (causeIn h a c).get? a = some ((oe.mapFields (·.setIfInBounds 3 c)).mapFields (·.setIfInBounds 4 (.bool true))) ∧ ((oe.mapFields (·.setIfInBounds 3 c)).mapFields (·.setIfInBounds 4 (.bool true))).data = .fields ((vs.setIfInBounds 3 c).setIfInBounds 4 (.bool true)) := by
  have hd3 := Obj.data_mapFields hd (·.setIfInBounds 3 c)
  have ha3 := Heap.get?_update_self (Obj.mapFields (·.setIfInBounds 3 c)) ha (Obj.isFreed_of_fields hd3)
  have hd4 := Obj.data_mapFields hd3 (·.setIfInBounds 4 (.bool true))
  exact ⟨Heap.get?_update_self (Obj.mapFields (·.setIfInBounds 4 (.bool true))) ha3 (Obj.isFreed_of_fields hd4), hd4⟩
theorem causeIn_other {h : Heap} {a b : Addr} {c : Value} (hne : a ≠ b) : (causeIn h a c).get? b = h.get? b := by
  unfold causeIn
  rw [Heap.get?_update_other _ _ hne, Heap.get?_update_other _ _ hne]
theorem raise_made_from {M : Model} {A : Around} {E : Value → Shared → Prop} {env : Env} {s : Shared} {x c : Sem Value} {Q : Flow → Shared → Prop} (hh : A.handled = none)
    (h : wpAny M A x (fun v s₁ => wpAny M A c (fun cv s₂ => ∃ a oe vs cls b ob cls2 ws, v = .ref a ∧ cv = .ref b ∧ s₂.heap.get? a = some oe ∧ oe.cls = cls ∧ oe.data = .fields vs ∧ vs[1]? = some .none ∧ 4 < vs.size ∧
      s₂.heap.get? b = some ob ∧ ob.cls = cls2 ∧ ob.data = .fields ws ∧
      PySem.W.Looks M s₂.heap (isSubtype cls (.type "BaseException")) true ∧ PySem.W.Looks M (causeIn s₂.heap a cv) (typeOf cls) (.type "type") ∧ PySem.W.Looks M s₂.heap (isSubtype cls2 (.type "BaseException")) true ∧ E (.ref a) { s₂ with heap := causeIn s₂.heap a cv }) E s₁) E s) :
    wpAny M A (raiseStmt env (some x) (some c)) Q E s := by
  unfold raiseStmt
  dsimp only
  refine wpAny_bind (wpAny_mono h (fun v s₁ h₁ => ?_) fun _ _ x => x)
  refine wpAny_bind (wpAny_holding (wpAny_mono h₁ (fun cv s₂ h₂ => ?_) fun _ _ x => x))
  obtain ⟨a, oe, vs, cls, b, ob, cls2, ws, rfl, rfl, ha, hcls, hd, h1, hi, hb, hcls2, hd2, L1, L3, L2', hE⟩ := h₂
  have LT : PySem.W.Looks M s₂.heap (typeOf (.ref a)) cls := fun A Q E s k q => wpAny_typeOf_ref (k _ _ ha) (by rw [hcls]; exact q)
  have LI : PySem.W.Looks M s₂.heap (isInstance (.ref a) (.type "BaseException")) true := LT.andThen L1
  have LTb : PySem.W.Looks M s₂.heap (typeOf (.ref b)) cls2 := fun A Q E s k q => wpAny_typeOf_ref (k _ _ hb) (by rw [hcls2]; exact q)
  have LIb : PySem.W.Looks M s₂.heap (isInstance (.ref b) (.type "BaseException")) true := LTb.andThen L2'
  have hnt : ∀ {Q' : Bool → Shared → Prop}, Q' false s₂ → wpAny M A (isType (.ref a)) Q' E s₂ := by
    intro Q' hq
    simp only [isType, loadHead]
    refine wpAny_bind (wpAny_loadPart ha ?_)
    rw [hd]; exact wpAny_pure hq
  have hntb : ∀ {Q' : Bool → Shared → Prop}, Q' false s₂ → wpAny M A (isType (.ref b)) Q' E s₂ := by
    intro Q' hq
    simp only [isType, loadHead]
    refine wpAny_bind (wpAny_loadPart hb ?_)
    rw [hd2]; exact wpAny_pure hq
  have hd3 := Obj.data_mapFields hd (·.setIfInBounds 3 (.ref b))
  have ha3 := Heap.get?_update_self (Obj.mapFields (·.setIfInBounds 3 (.ref b))) ha (Obj.isFreed_of_fields hd3)
  obtain ⟨ha4, hd4⟩ := causeIn_at (c := .ref b) ha hd
  have s3 : 3 < vs.size := by omega
  have s4 : 4 < (vs.setIfInBounds 3 (Value.ref b)).size := by rw [set_size]; exact hi
  have h14 : ((vs.setIfInBounds 3 (Value.ref b)).setIfInBounds 4 (Value.bool true))[1]? = some Value.none := set_other (by decide) (set_other (by decide) h1)
  have hcls4 : ((oe.mapFields (·.setIfInBounds 3 (.ref b))).mapFields (·.setIfInBounds 4 (.bool true))).cls = cls := by rw [Obj.cls_mapFields, Obj.cls_mapFields]; exact hcls
  have LT4 : PySem.W.Looks M (causeIn s₂.heap a (.ref b)) (typeOf (.ref a)) cls := fun A Q E s k q => wpAny_typeOf_ref (k _ _ ha4) (by rw [hcls4]; exact q)
  have hnt4 : ∀ {Q' : Bool → Shared → Prop}, Q' false { s₂ with heap := causeIn s₂.heap a (.ref b) } → wpAny M A (isType (.ref a)) Q' E { s₂ with heap := causeIn s₂.heap a (.ref b) } := by
    intro Q' hq
    simp only [isType, loadHead]
    refine wpAny_bind (wpAny_loadPart ha4 ?_)
    rw [hd4]; exact wpAny_pure hq
  have rest : wpAny M A (do
      let b ← isType (.ref a)
      if b = true then do
        let e ← holding [.ref a] (raisedFor (.ref a) (.ref a))
        setFlight e none
        raiseNew e
      else do
        let e ← raisedInstance (.ref a)
        setFlight e none
        raiseNew e : Sem Flow) Q E { s₂ with heap := causeIn s₂.heap a (.ref b) } := by
    refine wpAny_bind (hnt4 ?_)
    simp only [Bool.false_eq_true, if_false]
    unfold raisedInstance
    refine wpAny_bind (wpAny_bind (LT4.here (wpAny_bind (L3.here ?_))))
    rw [if_pos (beq_self_eq_true _)]
    refine wpAny_pure ?_
    unfold setFlight raiseNew
    refine wpAny_bind (wpAny_bind (wpAny_field ha4 hd4 h14 ?_))
    rw [if_neg (by decide)]
    refine wpAny_pure (wpAny_bind (wpAny_handled ?_))
    rw [hh]
    first
      | exact wpAny_throw hE
      | exact wpAny_bind (wpAny_pure (wpAny_throw hE))
  refine wpAny_bind (wpAny_pure ?_)
  dsimp only
  refine wpAny_bind (wpAny_holding ?_)
  unfold excFromValue isExcClass
  refine wpAny_bind (wpAny_bind (hnt ?_))
  simp only [Bool.false_eq_true, if_false]
  refine wpAny_pure ?_
  simp only [Bool.false_eq_true, if_false]
  refine wpAny_bind (LI.here ?_)
  simp only [if_true]
  refine wpAny_pure ?_
  rw [if_neg (show ¬ ((Value.ref b == Value.none) = true) from Bool.false_ne_true)]
  refine wpAny_bind (wpAny_holding ?_)
  refine wpAny_bind (wpAny_bind (hntb ?_))
  simp only [Bool.false_eq_true, if_false]
  refine wpAny_pure ?_
  simp only [Bool.false_eq_true, if_false]
  refine wpAny_bind (LIb.here ?_)
  simp only [if_true]
  refine wpAny_pure ?_
  refine wpAny_bind (wpAny_setField ha hd s3 (wpAny_bind (wpAny_setField ha3 hd3 s4 ?_)))
  exact rest
/-- raise X(..) from Y(..) -/
theorem ps_raiseFrom {X : Cx} {W : WX} {e c : Expr} {t : St → Hp → XK → Prop} {tc : St → Prop} {pos : Pos} (hc : X.calm = true) (tk : Takes X W) (he : PMk6 X e t) (hcs : Caus X c tc) :
    PS X (.Raise (some e) (some c) pos) (fun _ σ H => tc σ ∧ t σ H fun cls d H' => W cls d σ H') := by
  refine ⟨fun pins s σ H D I h => ?_⟩
  obtain ⟨h0, h⟩ := h
  show wpAny _ _ (do standAt pos; raiseStmt X.env (some (do let v ← eval e X.env; standAt pos; pure v)) (some (do let v ← eval c X.env; standAt pos; pure v))) _ _ _
  refine wpAny_bind (wpAny_standAt (raise_made_from (I.ok.hd hc) (wpAny_bind (wpAny_mono (he pins s σ H _ I h) (fun u s1 hu => wpAny_bind (wpAny_standAt (wpAny_pure ?_))) fun _ _ x => x))))
  obtain ⟨⟨a, oe, vs, sI, H', cls, d, rfl, J, k, hne, ha, hz, hd, h1, na, os, ag, r, q⟩, h5⟩ := hu
  have hi : 4 < vs.size := h5 a oe vs rfl ha hd
  have J1 : Inv X pins σ H' s1 := by
    obtain ⟨hh, g, dr, tk', os'⟩ := s1
    obtain rfl : os' = sI.os := os
    exact J.call (h' := hh) (g' := g) (t' := tk') (d' := dr) (ch := []) (Un.kept k) (J.hok.kept k) ag (fun b z => absurd z (by simp))
  refine wpAny_bind (wpAny_mono (hcs pins s1 σ H' (fun cv s2 => ∃ a' oe' vs' cls' b ob cls2 ws, Value.ref a = .ref a' ∧ cv = .ref b ∧ s2.heap.get? a' = some oe' ∧ oe'.cls = cls' ∧ oe'.data = .fields vs' ∧ vs'[1]? = some .none ∧ 4 < vs'.size ∧
      s2.heap.get? b = some ob ∧ ob.cls = cls2 ∧ ob.data = .fields ws ∧
      PySem.W.Looks (model X.prog X.w) s2.heap (isSubtype cls' (.type "BaseException")) true ∧ PySem.W.Looks (model X.prog X.w) (causeIn s2.heap a' cv) (typeOf cls') (.type "type") ∧ PySem.W.Looks (model X.prog X.w) s2.heap (isSubtype cls2 (.type "BaseException")) true ∧ X.xe (.ref a') { s2 with heap := causeIn s2.heap a' cv }) J1 h0 fun h' tk' b ob cls2 ws k2 hb hcl hw r2 => ?_) (fun u s1 hu => wpAny_bind (wpAny_standAt (wpAny_pure hu))) fun _ _ x => x)
  have ha2 := k2 _ _ ha
  have kk : ∀ y u, sI.heap.get? y = some u → (causeIn h' a (.ref b)).get? y = some u := fun y u z => by
    have nay : a ≠ y := fun e => by
      rw [← e, hne] at z
      cases z
    rw [causeIn_other nay]
    exact k2 _ _ (k y u z)
  obtain ⟨r3, _⟩ := r (model X.prog X.w) h' (J1.kIn.keeps k2)
  obtain ⟨_, r4⟩ := r (model X.prog X.w) (causeIn h' a (.ref b)) (J.kIn.keeps kk)
  obtain ⟨r5, _⟩ := r2 (model X.prog X.w) h' (J1.kIn.keeps k2)
  obtain ⟨ha4, hd4⟩ := causeIn_at (c := .ref b) ha2 hd
  refine ⟨a, oe, vs, cls, b, ob, cls2, ws, rfl, rfl, ha2, hz.1, hd, h1, hi, hb, hcl, hw, r3, r4, r5, tk _ _ (XE.new (s' := { s1 with heap := causeIn h' a (.ref b), toks := tk' }) J kk hne ha4 ⟨?_, ?_⟩ hd4 (set_other (by decide) (set_other (by decide) h1)) na os ag q)⟩
  · rw [Obj.cls_mapFields, Obj.cls_mapFields]
    exact hz.1
  · rw [HandSPX.dict_mapFields, HandSPX.dict_mapFields]
    exact hz.2
end L2


set_option Elab.async false
set_option linter.all false
set_option maxRecDepth 100000
set_option maxHeartbeats 4000000
/-! The head's facts: names, defs, defs over a cell, and a row of Bools. -/
namespace HkK
open PySem PySem.Spec PyProof.Rows L2 He
/-- a def that closes over one cell -/
abbrev FnC : Type := Option (Str × Str × Arguments × FuncBody × Scope × Addr × Addr)
def fnC (K : PySem.W.Frag) (p : Str × Option Str) : FnC := match K.lookup (fAd K p) with
  | some ⟨_, _, .func fd, _⟩ => some (fd.name, fd.qualname, fd.params, fd.body, fd.scope, fd.globals, fd.builtins)
  | _ => none
def valC (d : DefD) : FnC := some (d.name, d.qual, d.params, .stmts d.body, d.scope, mainGlobals, builtinsNs)
/-- the cell of its closure, its code -/
def cellAd (K : PySem.W.Frag) (p : Str × Option Str) : Addr := match K.lookup (fAd K p) with
  | some ⟨_, _, .func fd, _⟩ => (match fd.closure with
    | (_, c) :: _ => c
    | _ => 0)
  | _ => 0
def codeAd (K : PySem.W.Frag) (p : Str × Option Str) : Addr := match K.lookup (fAd K p) with
  | some ⟨_, _, .func fd, _⟩ => (match fd.code with
    | .ref c => c
    | _ => 0)
  | _ => 0
def supB (P : Program) (K : PySem.W.Frag) (C f2 : Addr) (p : Str × Option Str) (qual : Str) : Bool :=
  (match K.lookup (fAd K p) with
    | some ⟨_, _, .func fd, _⟩ => (match fd.closure with
      | [(x, c)] => decide (x = "__class__") && ((match fd.code with
        | .ref _ => true
        | _ => false) && ((match fd.defaults with
        | .none => true
        | _ => false) && (match fd.kwdefaults with
        | .ref _ => true
        | _ => false)))
      | _ => false)
    | _ => false) &&
  (PySem.W.codeIn K (.ref (codeAd K p)) qual && ((match K.lookup (codeAd K p) with
    | some ⟨_, _, .fields vs, _⟩ => (match ((vs : Array Value)[2]? : Option Value) with
      | some (.str file _) => ((P.main.file : Str) == file)
      | _ => false)
    | _ => false) && ((match K.lookup (cellAd K p) with
    | some ⟨_, _, .cell (some (.ref D)), _⟩ => decide (D = C)
    | _ => false) && (decide (PySem.W.mroIn K C (.ref C) = some true) && (eqO (PySem.W.ks_superIn K C C "__init__") (some (some (.ref f2))) && (decide (PySem.W.typeIn K (.ref f2) = some (.type "function")) && (PySem.W.fnIn K f2 &&
      (eqO (PySem.W.nsIn K cStatics "thirdparty.any") (some none) && (!(P.main.scope.names.lookup ("super" : Str)).isSome && (PySem.W.clsIn K C).isSome)))))))))
theorem supB_ok {P : Program} {K : PySem.W.Frag} {mg : Str → Option Value} {C f2 : Addr} {d : DefD} (e : fnC K d.at_ = valC d) (h : supB P K C f2 d.at_ d.qual = true) (hs : mg "super" = none) (hn : d.name = "__init__") :
    ∃ fd, SupI.SupTxt P K mg C (fAd K d.at_) f2 (cellAd K d.at_) (codeAd K d.at_) fd d.qual d.params d.body d.scope ∧ ∃ cd, PySem.W.clsIn K C = some cd := by
  obtain ⟨h1, h⟩ := ba h
  obtain ⟨h2, h⟩ := ba h
  obtain ⟨h3, h⟩ := ba h
  obtain ⟨h4, h⟩ := ba h
  obtain ⟨h5, h⟩ := ba h
  obtain ⟨h6, h⟩ := ba h
  obtain ⟨h7, h⟩ := ba h
  obtain ⟨h8, h⟩ := ba h
  obtain ⟨h9, h⟩ := ba h
  obtain ⟨h10, h11⟩ := ba h
  unfold fnC at e
  cases q : K.lookup (fAd K d.at_) with
  | none =>
    rw [q] at h1
    cases h1
  | some o =>
    obtain ⟨oc, od, dt, osl⟩ := o
    rw [q] at h1 e
    cases dt with
    | func fd =>
      obtain ⟨n1, n2, n3, n4, n5, n6, n7, n8, n9, n10, n11, n12, n13, n14, n15⟩ := fd
      have e2 : (some (n1, n2, n3, n4, n5, n6, n15) : FnC) = some (d.name, d.qual, d.params, .stmts d.body, d.scope, mainGlobals, builtinsNs) := e
      simp only [Option.some.injEq, Prod.mk.injEq] at e2
      obtain ⟨e1, e2, e3, e4, e5, e6, e7⟩ := e2
      subst e1 e2 e3 e4 e5 e6 e7
      cases n7 with
      | nil => cases h1
      | cons xc rest =>
        obtain ⟨x, c⟩ := xc
        cases rest with
        | cons _ _ => cases h1
        | nil =>
        obtain ⟨hx, h1'⟩ := ba h1
        obtain ⟨h1a, h1b⟩ := ba h1'
        obtain ⟨h1b, h1c⟩ := ba h1b
        obtain ⟨cda, rfl⟩ : ∃ cda, n13 = Value.ref cda := by
          cases n13 with
          | ref a => exact ⟨a, rfl⟩
          | _ => cases h1a
        obtain rfl : n8 = Value.none := by
          cases n8 with
          | none => rfl
          | _ => cases h1b
        obtain ⟨Dk, rfl⟩ : ∃ Dk, n9 = Value.ref Dk := by
          cases n9 with
          | ref a => exact ⟨a, rfl⟩
          | _ => cases h1c
        have hx' : x = "__class__" := of_decide_eq_true hx
        subst hx'
        have ec : cellAd K d.at_ = c := by
          unfold cellAd
          rw [q]
        have ed : codeAd K d.at_ = cda := by
          unfold codeAd
          rw [q]
        refine ⟨_, ⟨⟨oc, od, n12, Dk, n10, n11, n14, osl, ?_, q⟩, h2, ?_, ?_, of_decide_eq_true h5, hs, eqO_ok h6, of_decide_eq_true h7, h8, eqO_ok h9, by simpa using h10⟩, Option.isSome_iff_exists.mp h11⟩
        · rw [hn, ec, ed]
        · split at h3
          · rename_i a b vs cc hh
            split at h3
            · rename_i file tf hv
              exact ⟨a, b, vs, cc, file, tf, hh, hv, h3⟩
            · cases h3
          · cases h3
        · split at h4
          · rename_i a b D cc hh
            have : D = C := of_decide_eq_true h4
            subst this
            exact ⟨a, b, cc, hh⟩
          · cases h4
    | _ => cases h1
/-- an exception class of the program, its __init__ -/
def excB (K : PySem.W.Frag) (C : Addr) : Bool := match K.lookup C with
  | some ⟨.type "type", _, .cls cd, sl⟩ => (match cd.mro, sl.toList with
    | .ref C' :: bm, [_, _, _, _, some (.builtin n), _] => decide (C' = C) && (decide (n = "ValueError.__new__") && (!cd.hasDel && (cd.hasDict && PySem.HandSPX.refsVE bm)))
    | _, _ => false)
  | _ => false
theorem excB_ok {K : PySem.W.Frag} {C : Addr} (h : excB K C = true) : ∃ nm q N bs bm sn sub ab col dd k0 k1 k2 k3 k5, K.lookup C = some (excClassObj nm q C N bs bm true sn sub ab col dd k0 k1 k2 k3 k5 "ValueError.__new__") ∧ PySem.HandSPX.refsVE bm = true := by
  unfold excB at h
  split at h
  · rename_i dd cd sl ho
    split at h
    · rename_i C' bm k0 k1 k2 k3 n k5 hm hs
      obtain ⟨h1, h⟩ := ba h
      obtain ⟨h2, h⟩ := ba h
      obtain ⟨h3, h⟩ := ba h
      obtain ⟨h4, h5⟩ := ba h
      have e1 : C' = C := of_decide_eq_true h1
      have e2 : n = "ValueError.__new__" := of_decide_eq_true h2
      subst e1 e2
      obtain ⟨nm, bs, mro, ns, qn, hd, sn, sb, ab, col, del⟩ := cd
      dsimp only at hm h3 h4
      subst hm
      have e3 : del = false := by simpa using h3
      subst e3 h4
      have e4 : sl = #[k0, k1, k2, k3, some (.builtin "ValueError.__new__"), k5] := by
        apply Array.ext'
        simpa using hs
      subst e4
      exact ⟨nm, qn, ns, bs, bm, sn, sb, ab, col, dd, k0, k1, k2, k3, k5, ho, h5⟩
    · cases h
  · cases h
/-! ### the Hook -/
abbrev AlK : Type := AlD × List FnC × Bool
def obsK (fa : List Fa) (fn fc : List DefD) (ex : PySem.W.Frag → List Bool) (K : PySem.W.Frag) : AlK := (obsD fa fn K, fc.map (fun d => fnC K d.at_), (ex K).all id)
def valK (fn fc : List DefD) : AlK := (valD fn, fc.map valC, true)
def frK (n : Nat) (g : Addr → Option Obj) : PySem.W.Frag := frG g (asD g n ++ [cStatics])
def hookK (n : Nat) (fa : List Fa) (fn fc : List DefD) (ex : PySem.W.Frag → List Bool) : PySem.W.Hook where
  α := AlK
  obs := fun s => obsK fa fn fc ex (frK n s.heap.get?)
  val := fun _ => valK fn fc
  says := fun _ h => ∃ K : PySem.W.Frag, K.In h ∧ obsK fa fn fc ex K = valK fn fc
  of := fun _ _ e => ⟨_, frG_in, e⟩
  keeps := fun _ _ _ ⟨K, hK, c⟩ k => ⟨K, PySem.W.Frag.In.keeps hK k, c⟩
theorem obsK_eq {n : Nat} {fa : List Fa} {fn fc : List DefD} {ex : PySem.W.Frag → List Bool} {g : Addr → Option Obj} {s : Shared} (h : ∀ a, g a = s.heap.get? a) : obsK fa fn fc ex (frK n g) = (hookK n fa fn fc ex).obs s := by
  have e : g = s.heap.get? := funext h
  rw [e] <;> rfl
section
variable {fa : List Fa} {fn fc : List DefD} {ex : PySem.W.Frag → List Bool} {K : PySem.W.Frag}
theorem saysD_of (c : obsK fa fn fc ex K = valK fn fc) : SaysD fa fn K := congrArg (fun z : AlK => z.1) c
theorem says_ex (c : obsK fa fn fc ex K = valK fn fc) (i : Nat) {b : Bool} (h : (ex K)[i]? = some b) : b = true := by
  have e : (ex K).all id = true := congrArg (fun z : AlK => z.2.2) c
  exact List.all_eq_true.mp e b (List.mem_of_getElem? h)
theorem says_fc (c : obsK fa fn fc ex K = valK fn fc) (i : Nat) {d : DefD} (h : fc[i]? = some d) : fnC K d.at_ = valC d := by
  have e : fc.map (fun d => fnC K d.at_) = fc.map valC := congrArg (fun z : AlK => z.2.1) c
  have e2 : (fc.map fun d => fnC K d.at_)[i]? = (fc.map valC)[i]? := by rw [e]
  rw [List.getElem?_map, List.getElem?_map, h] at e2
  exact Option.some.inj e2
end
end HkK


set_option Elab.async false
set_option linter.all false
set_option maxRecDepth 100000
set_option maxHeartbeats 4000000
/-! The head's facts, widened by the getters of properties. -/
namespace HkQ
open PySem PySem.Spec PyProof.Rows L2 He HkK
def gAd (K : PySem.W.Frag) (p : Str × Option Str) : Addr := match PySem.W.recIn K (fAd K p) "property" with
  | some (.ref g :: _) => g
  | _ => 0
def fnG (K : PySem.W.Frag) (p : Str × Option Str) : FnV := match K.lookup (gAd K p) with
  | some ⟨_, _, .func fd, _⟩ => some (fd.name, fd.qualname, fd.params, fd.body, fd.scope, fd.globals, fd.closure, fd.defaults, fd.builtins)
  | _ => none
def valG (d : DefD) : FnV := some (d.name, d.qual, d.params, .stmts d.body, d.scope, mainGlobals, [], .none, builtinsNs)
def codeG (K : PySem.W.Frag) (p : Str × Option Str) (q : Str) : Bool := (match K.lookup (gAd K p) with
    | some ⟨_, _, .func fd, _⟩ => PySem.W.codeIn K fd.code q
    | _ => false) && PySem.W.keepIn K (.ref (gAd K p))
theorem fnG_ok {K : PySem.W.Frag} {d : DefD} (e : fnG K d.at_ = valG d) (c : codeG K d.at_ d.qual = true) : ∃ fd, FunD K d.name d.qual d.params d.body d.scope [] [] (gAd K d.at_) fd := by
  obtain ⟨c2, c3⟩ := ba c
  unfold fnG at e
  cases q : K.lookup (gAd K d.at_) with
  | none =>
    rw [q] at c2
    cases c2
  | some o =>
    obtain ⟨oc, od, dt, osl⟩ := o
    rw [q] at c2 e
    cases dt with
    | func fd =>
      obtain ⟨n1, n2, n3, n4, n5, n6, n7, n8, n9, n10, n11, n12, n13, n14, n15⟩ := fd
      have e2 : (some (n1, n2, n3, n4, n5, n6, n7, n8, n15) : FnV) = some (d.name, d.qual, d.params, .stmts d.body, d.scope, mainGlobals, [], .none, builtinsNs) := e
      simp only [Option.some.injEq, Prod.mk.injEq] at e2
      obtain ⟨h1, h2, h3, h4, h5, h6, h7, h8, h9⟩ := e2
      subst h1 h2 h3 h4 h5 h6 h7 h8 h9
      exact ⟨_, ⟨oc, od, .none, n9, n10, n11, n12, n13, n14, osl, rfl, q, c2, .inl ⟨rfl, rfl⟩, .inl rfl⟩, c3⟩
    | _ => cases c2
def prB (K : PySem.W.Frag) (C : Addr) (f : Str) (p g : Addr) : Bool :=
  eqO (PySem.W.findIn K (.ref C) f) (some (some (.ref p))) && (eqO (PySem.W.specialIn K (.ref p) "__get__") (some (some (.builtin "property.__get__"))) && (decide (PySem.W.takesIn K (.ref p) = some true) && (match PySem.W.recIn K p "property" with
    | some (.ref g' :: _) => decide (g' = g)
    | _ => false)))
theorem prB_ok {K : PySem.W.Frag} {C : Addr} {f : Str} {p g : Addr} (h : prB K C f p g = true) : PropOf K C f p g := by
  obtain ⟨h1, h⟩ := ba h
  obtain ⟨h2, h⟩ := ba h
  obtain ⟨h3, h4⟩ := ba h
  refine ⟨eqO_ok h1, eqO_ok h2, of_decide_eq_true h3, ?_⟩
  split at h4
  · rename_i g' r q
    have e : g' = g := of_decide_eq_true h4
    exact ⟨r, by rw [q, e]⟩
  · cases h4
abbrev AlQ : Type := AlK × List FnV
def obsQ (fa : List Fa) (fn fc fg : List DefD) (ex : PySem.W.Frag → List Bool) (K : PySem.W.Frag) : AlQ := (obsK fa fn fc ex K, fg.map (fun d => fnG K d.at_))
def valQ (fn fc fg : List DefD) : AlQ := (valK fn fc, fg.map valG)
def hookQ (n : Nat) (fa : List Fa) (fn fc fg : List DefD) (ex : PySem.W.Frag → List Bool) : PySem.W.Hook where
  α := AlQ
  obs := fun s => obsQ fa fn fc fg ex (frK n s.heap.get?)
  val := fun _ => valQ fn fc fg
  says := fun _ h => ∃ K : PySem.W.Frag, K.In h ∧ obsQ fa fn fc fg ex K = valQ fn fc fg
  of := fun _ _ e => ⟨_, frG_in, e⟩
  keeps := fun _ _ _ ⟨K, hK, c⟩ k => ⟨K, PySem.W.Frag.In.keeps hK k, c⟩
theorem obsQ_eq {n : Nat} {fa : List Fa} {fn fc fg : List DefD} {ex : PySem.W.Frag → List Bool} {g : Addr → Option Obj} {s : Shared} (h : ∀ a, g a = s.heap.get? a) : obsQ fa fn fc fg ex (frK n g) = (hookQ n fa fn fc fg ex).obs s := by
  have e : g = s.heap.get? := funext h
  rw [e] <;> rfl
section
variable {fa : List Fa} {fn fc fg : List DefD} {ex : PySem.W.Frag → List Bool} {K : PySem.W.Frag}
theorem saysK (c : obsQ fa fn fc fg ex K = valQ fn fc fg) : obsK fa fn fc ex K = valK fn fc := congrArg (fun z : AlQ => z.1) c
theorem says_fg (c : obsQ fa fn fc fg ex K = valQ fn fc fg) (i : Nat) {d : DefD} (h : fg[i]? = some d) : fnG K d.at_ = valG d := by
  have e : fg.map (fun d => fnG K d.at_) = fg.map valG := congrArg (fun z : AlQ => z.2) c
  have e2 : (fg.map fun d => fnG K d.at_)[i]? = (fg.map valG)[i]? := by rw [e]
  rw [List.getElem?_map, List.getElem?_map, h] at e2
  exact Option.some.inj e2
end
end HkQ


set_option Elab.async false
set_option linter.all false
set_option maxRecDepth 100000
set_option maxHeartbeats 4000000
/-! what the module's names reach, level by level, each object once (a number's bits tell which were met): the head's facts over it. -/
namespace HkB
open PySem PySem.Spec PyProof.Rows L2
def hasBit (m a : Nat) : Bool := Nat.beq (Nat.land 1 (Nat.shiftRight m a)) 1
def frN {α : Type} (n : Nat) (k : Nat → α) : α := match n with
  | 0 => k 0
  | m + 1 => k (m + 1)
/-- those that are new -/
def addNew : List Addr → Nat → List Addr → (Nat → List Addr → List Addr) → List Addr
  | [], m, nw, k => k m nw
  | a :: t, m, nw, k => frN a fun a => match hasBit m a with
    | true => addNew t m nw k
    | false => frN (Nat.lor m (Nat.shiftLeft 1 a)) fun m => addNew t m (a :: nw) k
def refsG (g : Addr → Option Obj) : List Addr → List Addr
  | [] => []
  | a :: t => (match g a with
    | some o => He.refsD o
    | none => []) ++ refsG g t
def levels (g : Addr → Option Obj) : Nat → Nat → List Addr → List Addr → List Addr
  | 0, _, fr, all => fr ++ all
  | n + 1, m, fr, all => addNew (refsG g fr) m [] fun m nw => levels g n m nw (fr ++ all)
def asB (g : Addr → Option Obj) (n : Nat) : List Addr := addNew [mainGlobals] 0 [] fun m nw => levels g n m nw []
def frB (n : Nat) (g : Addr → Option Obj) : PySem.W.Frag := He.frG g (asB g n ++ [cStatics])
def hookB (n : Nat) (fa : List He.Fa) (fn fc fg : List He.DefD) (ex : PySem.W.Frag → List Bool) : PySem.W.Hook where
  α := HkQ.AlQ
  obs := fun s => HkQ.obsQ fa fn fc fg ex (frB n s.heap.get?)
  val := fun _ => HkQ.valQ fn fc fg
  says := fun _ h => ∃ K : PySem.W.Frag, K.In h ∧ HkQ.obsQ fa fn fc fg ex K = HkQ.valQ fn fc fg
  of := fun _ _ e => ⟨_, He.frG_in, e⟩
  keeps := fun _ _ _ ⟨K, hK, c⟩ k => ⟨K, PySem.W.Frag.In.keeps hK k, c⟩
theorem obsB_eq {n : Nat} {fa : List He.Fa} {fn fc fg : List He.DefD} {ex : PySem.W.Frag → List Bool} {g : Addr → Option Obj} {s : Shared} (h : ∀ a, g a = s.heap.get? a) : HkQ.obsQ fa fn fc fg ex (frB n g) = (hookB n fa fn fc fg ex).obs s := by
  have e : g = s.heap.get? := funext h
  rw [e] <;> rfl
end HkB


set_option Elab.async false
set_option linter.all false
set_option maxRecDepth 100000
set_option maxHeartbeats 4000000
namespace K00
open PySem PySem.Spec PyProof.Rows L2
def top (i : Nat) : Stmt := PySem.Challenge.pw_keptparts_k00_covers_and_points.main.body.getD i (.Pass ⟨0, 0, 0, 0⟩)
abbrev s__wall : Stmt := top 0
abbrev s_BadNumber___init__ : Stmt := inClass (top 3) 0
abbrev s_BadRun___init__ : Stmt := inClass (top 4) 0
abbrev s_BadSet___init__ : Stmt := inClass (top 5) 0
abbrev s_BadPart___init__ : Stmt := inClass (top 6) 0
abbrev s_IsGone___init__ : Stmt := inClass (top 7) 0
abbrev s_BadDemand___init__ : Stmt := inClass (top 8) 0
abbrev s_NotJoin___init__ : Stmt := inClass (top 9) 0
abbrev s_NotAStock___init__ : Stmt := inClass (top 10) 0
abbrev s_is_whole : Stmt := top 12
abbrev s_is_within : Stmt := top 13
abbrev s_is_count : Stmt := top 14
abbrev s_is_row : Stmt := top 15
abbrev s_is_pair : Stmt := top 16
abbrev s_is_run : Stmt := top 17
abbrev s_first_wrong : Stmt := top 18
abbrev s_set_of : Stmt := top 20
abbrev s_both : Stmt := top 21
abbrev s_common : Stmt := top 22
abbrev s_minus : Stmt := top 23
abbrev s_subsets : Stmt := top 24
abbrev s_next_places : Stmt := top 25
abbrev s_Market___init__ : Stmt := inClass (top 28) 1
abbrev s_Market_many : Stmt := inClass (top 28) 2
abbrev s_Market_there : Stmt := inClass (top 28) 3
abbrev s_Market_run_of : Stmt := inClass (top 28) 4
abbrev s_Market_parts_over : Stmt := inClass (top 28) 5
abbrev s_Market___len__ : Stmt := inClass (top 28) 6
abbrev s_Market___iter__ : Stmt := inClass (top 28) 7
abbrev s_Market___contains__ : Stmt := inClass (top 28) 8
abbrev s_Market___eq__ : Stmt := inClass (top 28) 9
abbrev s_Join___init__ : Stmt := inClass (top 29) 1
abbrev s_Join_lose : Stmt := inClass (top 29) 2
abbrev s_Join_keep : Stmt := inClass (top 29) 3
abbrev s_Join_and_run : Stmt := inClass (top 29) 4
abbrev s_Join___sub__ : Stmt := inClass (top 29) 5
abbrev s_Join___add__ : Stmt := inClass (top 29) 6
abbrev s_Join___or__ : Stmt := inClass (top 29) 7
abbrev s_Join___invert__ : Stmt := inClass (top 29) 8
abbrev s_Join___mul__ : Stmt := inClass (top 29) 9
abbrev s_Lap___init__ : Stmt := inClass (top 30) 1
abbrev s_Lap_lose : Stmt := inClass (top 30) 2
abbrev s_Lap_keep : Stmt := inClass (top 30) 3
abbrev s_Lap_and_run : Stmt := inClass (top 30) 4
abbrev s_Lap___sub__ : Stmt := inClass (top 30) 5
abbrev s_Lap___add__ : Stmt := inClass (top 30) 6
abbrev s_Lap___or__ : Stmt := inClass (top 30) 7
abbrev s_Lap___invert__ : Stmt := inClass (top 30) 8
abbrev s_Lap___mul__ : Stmt := inClass (top 30) 9
abbrev s_checked_runs : Stmt := top 31
abbrev s_gone_after : Stmt := top 32
abbrev s_end_to_end_shape : Stmt := top 33
abbrev s_beside_shape : Stmt := top 34
abbrev s_joined_gone : Stmt := top 35
abbrev s_turned_runs : Stmt := top 36
abbrev s_repeated_parts : Stmt := top 37
abbrev s_check_times : Stmt := top 38
abbrev s_is_lap : Stmt := top 39
abbrev s_check_join : Stmt := top 40
abbrev s_check_run : Stmt := top 41
abbrev s_check_part : Stmt := top 42
abbrev s_part_there : Stmt := top 43
abbrev s_check_there : Stmt := top 44
abbrev s_demand_of : Stmt := top 46
abbrev s_covered : Stmt := top 47
abbrev s_cover : Stmt := top 48
abbrev s_fits_place : Stmt := top 49
abbrev s_wrong_place : Stmt := top 50
abbrev s_is_stock_of : Stmt := top 51
abbrev s_is_stock : Stmt := top 52
abbrev s_misfit_place : Stmt := top 53
abbrev s_check_stock : Stmt := top 54
abbrev s_over : Stmt := top 55
abbrev s_places_over : Stmt := top 56
abbrev s_begins : Stmt := top 57
abbrev s_begins_of : Stmt := top 58
abbrev s_changed : Stmt := top 59
abbrev s_is_amount : Stmt := top 61
abbrev s_check_amounts : Stmt := top 62
abbrev s_check_amount_row : Stmt := top 63
abbrev s_plus : Stmt := top 64
abbrev s_total : Stmt := top 65
abbrev s_least : Stmt := top 66
abbrev s_at_most : Stmt := top 67
abbrev s_gap : Stmt := top 68
abbrev s__law_draws : Stmt := top 70
abbrev s__law_take : Stmt := top 71
abbrev s__law_chains : Stmt := top 72
abbrev s__law_special : Stmt := top 73
abbrev s__law_market : Stmt := top 74
abbrev s__law_built : Stmt := top 75
abbrev s__law_kind : Stmt := top 76
abbrev s__law_size_wanted : Stmt := top 77
abbrev s__law_run : Stmt := top 78
abbrev s__law_demand : Stmt := top 79
abbrev s__law_parts : Stmt := top 80
abbrev s__law_cover : Stmt := top 81
abbrev s__law_misfit : Stmt := top 82
abbrev s__law_begins : Stmt := top 83
abbrev s__law_points_fit : Stmt := top 84
abbrev s__law_refused : Stmt := top 85
abbrev s__law_stock_refused : Stmt := top 86
abbrev s__law_door_refused : Stmt := top 87
abbrev s__law_doors_right : Stmt := top 88
abbrev s__law_wrong_sets : Stmt := top 89
abbrev s__law_amounts_right : Stmt := top 90
abbrev s__law_sets_right : Stmt := top 91
abbrev s__law_checks_right : Stmt := top 92
abbrev s_law : Stmt := top 93
/-- the keyword-only default x of the def at f, if it is an object -/
def kwA (f : Str × Option Str) (x : Str) (K : PySem.W.Frag) : Addr := match K.lookup (He.fAd K f) with
  | some ⟨_, _, .func fd, _⟩ => (match fd.kwdefaults with
    | .ref D => (match PySem.W.nsIn K D x with
      | some (some (.ref a)) => a
      | _ => 0)
    | _ => 0)
  | _ => 0
def d__wall : He.DefD := ⟨("_wall", none), "_wall", "_wall", defArgs s__wall, defBody s__wall, defScope s__wall, [], []⟩
def d_BadNumber___init__ : He.DefD := ⟨("BadNumber", some "__init__"), "__init__", "BadNumber.__init__", defArgs s_BadNumber___init__, defBody s_BadNumber___init__, defScope s_BadNumber___init__, [], []⟩
def d_BadRun___init__ : He.DefD := ⟨("BadRun", some "__init__"), "__init__", "BadRun.__init__", defArgs s_BadRun___init__, defBody s_BadRun___init__, defScope s_BadRun___init__, [], []⟩
def d_BadSet___init__ : He.DefD := ⟨("BadSet", some "__init__"), "__init__", "BadSet.__init__", defArgs s_BadSet___init__, defBody s_BadSet___init__, defScope s_BadSet___init__, [], []⟩
def d_BadPart___init__ : He.DefD := ⟨("BadPart", some "__init__"), "__init__", "BadPart.__init__", defArgs s_BadPart___init__, defBody s_BadPart___init__, defScope s_BadPart___init__, [], []⟩
def d_IsGone___init__ : He.DefD := ⟨("IsGone", some "__init__"), "__init__", "IsGone.__init__", defArgs s_IsGone___init__, defBody s_IsGone___init__, defScope s_IsGone___init__, [], []⟩
def d_BadDemand___init__ : He.DefD := ⟨("BadDemand", some "__init__"), "__init__", "BadDemand.__init__", defArgs s_BadDemand___init__, defBody s_BadDemand___init__, defScope s_BadDemand___init__, [], []⟩
def d_NotJoin___init__ : He.DefD := ⟨("NotJoin", some "__init__"), "__init__", "NotJoin.__init__", defArgs s_NotJoin___init__, defBody s_NotJoin___init__, defScope s_NotJoin___init__, [], []⟩
def d_NotAStock___init__ : He.DefD := ⟨("NotAStock", some "__init__"), "__init__", "NotAStock.__init__", defArgs s_NotAStock___init__, defBody s_NotAStock___init__, defScope s_NotAStock___init__, [], []⟩
def d_is_whole : He.DefD := ⟨("is_whole", none), "is_whole", "is_whole", defArgs s_is_whole, defBody s_is_whole, defScope s_is_whole, [], []⟩
def d_is_within : He.DefD := ⟨("is_within", none), "is_within", "is_within", defArgs s_is_within, defBody s_is_within, defScope s_is_within, [], []⟩
def d_is_count : He.DefD := ⟨("is_count", none), "is_count", "is_count", defArgs s_is_count, defBody s_is_count, defScope s_is_count, [], []⟩
def d_is_row : He.DefD := ⟨("is_row", none), "is_row", "is_row", defArgs s_is_row, defBody s_is_row, defScope s_is_row, [], []⟩
def d_is_pair : He.DefD := ⟨("is_pair", none), "is_pair", "is_pair", defArgs s_is_pair, defBody s_is_pair, defScope s_is_pair, [], []⟩
def d_is_run : He.DefD := ⟨("is_run", none), "is_run", "is_run", defArgs s_is_run, defBody s_is_run, defScope s_is_run, [], []⟩
def d_first_wrong : He.DefD := ⟨("first_wrong", none), "first_wrong", "first_wrong", defArgs s_first_wrong, defBody s_first_wrong, defScope s_first_wrong, [], []⟩
def d_set_of : He.DefD := ⟨("set_of", none), "set_of", "set_of", defArgs s_set_of, defBody s_set_of, defScope s_set_of, [], []⟩
def d_both : He.DefD := ⟨("both", none), "both", "both", defArgs s_both, defBody s_both, defScope s_both, [], []⟩
def d_common : He.DefD := ⟨("common", none), "common", "common", defArgs s_common, defBody s_common, defScope s_common, [], []⟩
def d_minus : He.DefD := ⟨("minus", none), "minus", "minus", defArgs s_minus, defBody s_minus, defScope s_minus, [], []⟩
def d_subsets : He.DefD := ⟨("subsets", none), "subsets", "subsets", defArgs s_subsets, defBody s_subsets, defScope s_subsets, [], []⟩
def d_next_places : He.DefD := ⟨("next_places", none), "next_places", "next_places", defArgs s_next_places, defBody s_next_places, defScope s_next_places, [], []⟩
def d_Market___init__ : He.DefD := ⟨("Market", some "__init__"), "__init__", "Market.__init__", defArgs s_Market___init__, defBody s_Market___init__, defScope s_Market___init__, [], [("gone", .adr (kwA (("Market", some "__init__")) "gone"))]⟩
def d_Market_many : He.DefD := ⟨("Market", some "many"), "many", "Market.many", defArgs s_Market_many, defBody s_Market_many, defScope s_Market_many, [], []⟩
def d_Market_there : He.DefD := ⟨("Market", some "there"), "there", "Market.there", defArgs s_Market_there, defBody s_Market_there, defScope s_Market_there, [], []⟩
def d_Market_run_of : He.DefD := ⟨("Market", some "run_of"), "run_of", "Market.run_of", defArgs s_Market_run_of, defBody s_Market_run_of, defScope s_Market_run_of, [], []⟩
def d_Market_parts_over : He.DefD := ⟨("Market", some "parts_over"), "parts_over", "Market.parts_over", defArgs s_Market_parts_over, defBody s_Market_parts_over, defScope s_Market_parts_over, [], []⟩
def d_Market___len__ : He.DefD := ⟨("Market", some "__len__"), "__len__", "Market.__len__", defArgs s_Market___len__, defBody s_Market___len__, defScope s_Market___len__, [], []⟩
def d_Market___iter__ : He.DefD := ⟨("Market", some "__iter__"), "__iter__", "Market.__iter__", defArgs s_Market___iter__, defBody s_Market___iter__, defScope s_Market___iter__, [], []⟩
def d_Market___contains__ : He.DefD := ⟨("Market", some "__contains__"), "__contains__", "Market.__contains__", defArgs s_Market___contains__, defBody s_Market___contains__, defScope s_Market___contains__, [], []⟩
def d_Market___eq__ : He.DefD := ⟨("Market", some "__eq__"), "__eq__", "Market.__eq__", defArgs s_Market___eq__, defBody s_Market___eq__, defScope s_Market___eq__, [], []⟩
def d_Join___init__ : He.DefD := ⟨("Join", some "__init__"), "__init__", "Join.__init__", defArgs s_Join___init__, defBody s_Join___init__, defScope s_Join___init__, [], [("gone", .adr (kwA (("Join", some "__init__")) "gone"))]⟩
def d_Join_lose : He.DefD := ⟨("Join", some "lose"), "lose", "Join.lose", defArgs s_Join_lose, defBody s_Join_lose, defScope s_Join_lose, [], []⟩
def d_Join_keep : He.DefD := ⟨("Join", some "keep"), "keep", "Join.keep", defArgs s_Join_keep, defBody s_Join_keep, defScope s_Join_keep, [], []⟩
def d_Join_and_run : He.DefD := ⟨("Join", some "and_run"), "and_run", "Join.and_run", defArgs s_Join_and_run, defBody s_Join_and_run, defScope s_Join_and_run, [], []⟩
def d_Join___sub__ : He.DefD := ⟨("Join", some "__sub__"), "__sub__", "Join.__sub__", defArgs s_Join___sub__, defBody s_Join___sub__, defScope s_Join___sub__, [], []⟩
def d_Join___add__ : He.DefD := ⟨("Join", some "__add__"), "__add__", "Join.__add__", defArgs s_Join___add__, defBody s_Join___add__, defScope s_Join___add__, [], []⟩
def d_Join___or__ : He.DefD := ⟨("Join", some "__or__"), "__or__", "Join.__or__", defArgs s_Join___or__, defBody s_Join___or__, defScope s_Join___or__, [], []⟩
def d_Join___invert__ : He.DefD := ⟨("Join", some "__invert__"), "__invert__", "Join.__invert__", defArgs s_Join___invert__, defBody s_Join___invert__, defScope s_Join___invert__, [], []⟩
def d_Join___mul__ : He.DefD := ⟨("Join", some "__mul__"), "__mul__", "Join.__mul__", defArgs s_Join___mul__, defBody s_Join___mul__, defScope s_Join___mul__, [], []⟩
def d_Lap___init__ : He.DefD := ⟨("Lap", some "__init__"), "__init__", "Lap.__init__", defArgs s_Lap___init__, defBody s_Lap___init__, defScope s_Lap___init__, [], [("gone", .adr (kwA (("Lap", some "__init__")) "gone"))]⟩
def d_Lap_lose : He.DefD := ⟨("Lap", some "lose"), "lose", "Lap.lose", defArgs s_Lap_lose, defBody s_Lap_lose, defScope s_Lap_lose, [], []⟩
def d_Lap_keep : He.DefD := ⟨("Lap", some "keep"), "keep", "Lap.keep", defArgs s_Lap_keep, defBody s_Lap_keep, defScope s_Lap_keep, [], []⟩
def d_Lap_and_run : He.DefD := ⟨("Lap", some "and_run"), "and_run", "Lap.and_run", defArgs s_Lap_and_run, defBody s_Lap_and_run, defScope s_Lap_and_run, [], []⟩
def d_Lap___sub__ : He.DefD := ⟨("Lap", some "__sub__"), "__sub__", "Lap.__sub__", defArgs s_Lap___sub__, defBody s_Lap___sub__, defScope s_Lap___sub__, [], []⟩
def d_Lap___add__ : He.DefD := ⟨("Lap", some "__add__"), "__add__", "Lap.__add__", defArgs s_Lap___add__, defBody s_Lap___add__, defScope s_Lap___add__, [], []⟩
def d_Lap___or__ : He.DefD := ⟨("Lap", some "__or__"), "__or__", "Lap.__or__", defArgs s_Lap___or__, defBody s_Lap___or__, defScope s_Lap___or__, [], []⟩
def d_Lap___invert__ : He.DefD := ⟨("Lap", some "__invert__"), "__invert__", "Lap.__invert__", defArgs s_Lap___invert__, defBody s_Lap___invert__, defScope s_Lap___invert__, [], []⟩
def d_Lap___mul__ : He.DefD := ⟨("Lap", some "__mul__"), "__mul__", "Lap.__mul__", defArgs s_Lap___mul__, defBody s_Lap___mul__, defScope s_Lap___mul__, [], []⟩
def d_checked_runs : He.DefD := ⟨("checked_runs", none), "checked_runs", "checked_runs", defArgs s_checked_runs, defBody s_checked_runs, defScope s_checked_runs, [], []⟩
def d_gone_after : He.DefD := ⟨("gone_after", none), "gone_after", "gone_after", defArgs s_gone_after, defBody s_gone_after, defScope s_gone_after, [], []⟩
def d_end_to_end_shape : He.DefD := ⟨("end_to_end_shape", none), "end_to_end_shape", "end_to_end_shape", defArgs s_end_to_end_shape, defBody s_end_to_end_shape, defScope s_end_to_end_shape, [], []⟩
def d_beside_shape : He.DefD := ⟨("beside_shape", none), "beside_shape", "beside_shape", defArgs s_beside_shape, defBody s_beside_shape, defScope s_beside_shape, [], []⟩
def d_joined_gone : He.DefD := ⟨("joined_gone", none), "joined_gone", "joined_gone", defArgs s_joined_gone, defBody s_joined_gone, defScope s_joined_gone, [], []⟩
def d_turned_runs : He.DefD := ⟨("turned_runs", none), "turned_runs", "turned_runs", defArgs s_turned_runs, defBody s_turned_runs, defScope s_turned_runs, [], []⟩
def d_repeated_parts : He.DefD := ⟨("repeated_parts", none), "repeated_parts", "repeated_parts", defArgs s_repeated_parts, defBody s_repeated_parts, defScope s_repeated_parts, [], []⟩
def d_check_times : He.DefD := ⟨("check_times", none), "check_times", "check_times", defArgs s_check_times, defBody s_check_times, defScope s_check_times, [], []⟩
def d_is_lap : He.DefD := ⟨("is_lap", none), "is_lap", "is_lap", defArgs s_is_lap, defBody s_is_lap, defScope s_is_lap, [], []⟩
def d_check_join : He.DefD := ⟨("check_join", none), "check_join", "check_join", defArgs s_check_join, defBody s_check_join, defScope s_check_join, [], []⟩
def d_check_run : He.DefD := ⟨("check_run", none), "check_run", "check_run", defArgs s_check_run, defBody s_check_run, defScope s_check_run, [], []⟩
def d_check_part : He.DefD := ⟨("check_part", none), "check_part", "check_part", defArgs s_check_part, defBody s_check_part, defScope s_check_part, [], []⟩
def d_part_there : He.DefD := ⟨("part_there", none), "part_there", "part_there", defArgs s_part_there, defBody s_part_there, defScope s_part_there, [], []⟩
def d_check_there : He.DefD := ⟨("check_there", none), "check_there", "check_there", defArgs s_check_there, defBody s_check_there, defScope s_check_there, [], []⟩
def d_demand_of : He.DefD := ⟨("demand_of", none), "demand_of", "demand_of", defArgs s_demand_of, defBody s_demand_of, defScope s_demand_of, [], []⟩
def d_covered : He.DefD := ⟨("covered", none), "covered", "covered", defArgs s_covered, defBody s_covered, defScope s_covered, [], []⟩
def d_cover : He.DefD := ⟨("cover", none), "cover", "cover", defArgs s_cover, defBody s_cover, defScope s_cover, [], []⟩
def d_fits_place : He.DefD := ⟨("fits_place", none), "fits_place", "fits_place", defArgs s_fits_place, defBody s_fits_place, defScope s_fits_place, [], []⟩
def d_wrong_place : He.DefD := ⟨("wrong_place", none), "wrong_place", "wrong_place", defArgs s_wrong_place, defBody s_wrong_place, defScope s_wrong_place, [], []⟩
def d_is_stock_of : He.DefD := ⟨("is_stock_of", none), "is_stock_of", "is_stock_of", defArgs s_is_stock_of, defBody s_is_stock_of, defScope s_is_stock_of, [], []⟩
def d_is_stock : He.DefD := ⟨("is_stock", none), "is_stock", "is_stock", defArgs s_is_stock, defBody s_is_stock, defScope s_is_stock, [], []⟩
def d_misfit_place : He.DefD := ⟨("misfit_place", none), "misfit_place", "misfit_place", defArgs s_misfit_place, defBody s_misfit_place, defScope s_misfit_place, [], []⟩
def d_check_stock : He.DefD := ⟨("check_stock", none), "check_stock", "check_stock", defArgs s_check_stock, defBody s_check_stock, defScope s_check_stock, [], []⟩
def d_over : He.DefD := ⟨("over", none), "over", "over", defArgs s_over, defBody s_over, defScope s_over, [], []⟩
def d_places_over : He.DefD := ⟨("places_over", none), "places_over", "places_over", defArgs s_places_over, defBody s_places_over, defScope s_places_over, [], []⟩
def d_begins : He.DefD := ⟨("begins", none), "begins", "begins", defArgs s_begins, defBody s_begins, defScope s_begins, [], []⟩
def d_begins_of : He.DefD := ⟨("begins_of", none), "begins_of", "begins_of", defArgs s_begins_of, defBody s_begins_of, defScope s_begins_of, [], []⟩
def d_changed : He.DefD := ⟨("changed", none), "changed", "changed", defArgs s_changed, defBody s_changed, defScope s_changed, [], []⟩
def d_is_amount : He.DefD := ⟨("is_amount", none), "is_amount", "is_amount", defArgs s_is_amount, defBody s_is_amount, defScope s_is_amount, [], []⟩
def d_check_amounts : He.DefD := ⟨("check_amounts", none), "check_amounts", "check_amounts", defArgs s_check_amounts, defBody s_check_amounts, defScope s_check_amounts, [], []⟩
def d_check_amount_row : He.DefD := ⟨("check_amount_row", none), "check_amount_row", "check_amount_row", defArgs s_check_amount_row, defBody s_check_amount_row, defScope s_check_amount_row, [], []⟩
def d_plus : He.DefD := ⟨("plus", none), "plus", "plus", defArgs s_plus, defBody s_plus, defScope s_plus, [], []⟩
def d_total : He.DefD := ⟨("total", none), "total", "total", defArgs s_total, defBody s_total, defScope s_total, [], []⟩
def d_least : He.DefD := ⟨("least", none), "least", "least", defArgs s_least, defBody s_least, defScope s_least, [], []⟩
def d_at_most : He.DefD := ⟨("at_most", none), "at_most", "at_most", defArgs s_at_most, defBody s_at_most, defScope s_at_most, [], []⟩
def d_gap : He.DefD := ⟨("gap", none), "gap", "gap", defArgs s_gap, defBody s_gap, defScope s_gap, [], []⟩
def d__law_draws : He.DefD := ⟨("_law_draws", none), "_law_draws", "_law_draws", defArgs s__law_draws, defBody s__law_draws, defScope s__law_draws, [], []⟩
def d__law_take : He.DefD := ⟨("_law_take", none), "_law_take", "_law_take", defArgs s__law_take, defBody s__law_take, defScope s__law_take, [], []⟩
def d__law_chains : He.DefD := ⟨("_law_chains", none), "_law_chains", "_law_chains", defArgs s__law_chains, defBody s__law_chains, defScope s__law_chains, [], []⟩
def d__law_special : He.DefD := ⟨("_law_special", none), "_law_special", "_law_special", defArgs s__law_special, defBody s__law_special, defScope s__law_special, [], []⟩
def d__law_market : He.DefD := ⟨("_law_market", none), "_law_market", "_law_market", defArgs s__law_market, defBody s__law_market, defScope s__law_market, [], []⟩
def d__law_built : He.DefD := ⟨("_law_built", none), "_law_built", "_law_built", defArgs s__law_built, defBody s__law_built, defScope s__law_built, [], []⟩
def d__law_kind : He.DefD := ⟨("_law_kind", none), "_law_kind", "_law_kind", defArgs s__law_kind, defBody s__law_kind, defScope s__law_kind, [], []⟩
def d__law_size_wanted : He.DefD := ⟨("_law_size_wanted", none), "_law_size_wanted", "_law_size_wanted", defArgs s__law_size_wanted, defBody s__law_size_wanted, defScope s__law_size_wanted, [], []⟩
def d__law_run : He.DefD := ⟨("_law_run", none), "_law_run", "_law_run", defArgs s__law_run, defBody s__law_run, defScope s__law_run, [], []⟩
def d__law_demand : He.DefD := ⟨("_law_demand", none), "_law_demand", "_law_demand", defArgs s__law_demand, defBody s__law_demand, defScope s__law_demand, [], []⟩
def d__law_parts : He.DefD := ⟨("_law_parts", none), "_law_parts", "_law_parts", defArgs s__law_parts, defBody s__law_parts, defScope s__law_parts, [], []⟩
def d__law_cover : He.DefD := ⟨("_law_cover", none), "_law_cover", "_law_cover", defArgs s__law_cover, defBody s__law_cover, defScope s__law_cover, [], []⟩
def d__law_misfit : He.DefD := ⟨("_law_misfit", none), "_law_misfit", "_law_misfit", defArgs s__law_misfit, defBody s__law_misfit, defScope s__law_misfit, [], []⟩
def d__law_begins : He.DefD := ⟨("_law_begins", none), "_law_begins", "_law_begins", defArgs s__law_begins, defBody s__law_begins, defScope s__law_begins, [], []⟩
def d__law_points_fit : He.DefD := ⟨("_law_points_fit", none), "_law_points_fit", "_law_points_fit", defArgs s__law_points_fit, defBody s__law_points_fit, defScope s__law_points_fit, [], []⟩
def d__law_refused : He.DefD := ⟨("_law_refused", none), "_law_refused", "_law_refused", defArgs s__law_refused, defBody s__law_refused, defScope s__law_refused, [], []⟩
def d__law_stock_refused : He.DefD := ⟨("_law_stock_refused", none), "_law_stock_refused", "_law_stock_refused", defArgs s__law_stock_refused, defBody s__law_stock_refused, defScope s__law_stock_refused, [], []⟩
def d__law_door_refused : He.DefD := ⟨("_law_door_refused", none), "_law_door_refused", "_law_door_refused", defArgs s__law_door_refused, defBody s__law_door_refused, defScope s__law_door_refused, [], []⟩
def d__law_doors_right : He.DefD := ⟨("_law_doors_right", none), "_law_doors_right", "_law_doors_right", defArgs s__law_doors_right, defBody s__law_doors_right, defScope s__law_doors_right, [], []⟩
def d__law_wrong_sets : He.DefD := ⟨("_law_wrong_sets", none), "_law_wrong_sets", "_law_wrong_sets", defArgs s__law_wrong_sets, defBody s__law_wrong_sets, defScope s__law_wrong_sets, [], []⟩
def d__law_amounts_right : He.DefD := ⟨("_law_amounts_right", none), "_law_amounts_right", "_law_amounts_right", defArgs s__law_amounts_right, defBody s__law_amounts_right, defScope s__law_amounts_right, [], []⟩
def d__law_sets_right : He.DefD := ⟨("_law_sets_right", none), "_law_sets_right", "_law_sets_right", defArgs s__law_sets_right, defBody s__law_sets_right, defScope s__law_sets_right, [], []⟩
def d__law_checks_right : He.DefD := ⟨("_law_checks_right", none), "_law_checks_right", "_law_checks_right", defArgs s__law_checks_right, defBody s__law_checks_right, defScope s__law_checks_right, [], []⟩
def d_law : He.DefD := ⟨("law", none), "law", "law", defArgs s_law, defBody s_law, defScope s_law, [], []⟩
end K00


set_option Elab.async false
set_option linter.all false
set_option maxRecDepth 100000
set_option maxHeartbeats 4000000
namespace K00
open PySem PySem.Spec PyProof.Rows L2
abbrev PP : Program := (PySem.Challenge.rw_keptparts_k00_covers_and_points).prog
def fn : List He.DefD := [d_is_whole, d_is_within, d_is_count, d_is_row, d_is_pair, d_is_run, d_first_wrong, d_set_of, d_both, d_common, d_minus, d_subsets, d_next_places, d_Market___init__, d_Market___len__, d_Market___eq__, d_checked_runs, d_is_lap, d_check_join, d_check_run, d_check_part, d_part_there, d_check_there, d_demand_of, d_covered, d_cover, d_fits_place, d_wrong_place, d_is_stock_of, d_is_stock, d_misfit_place, d_check_stock, d_over, d_places_over, d_begins, d_begins_of, d_changed, d_is_amount, d_check_amounts, d_check_amount_row, d_plus, d_total, d_least, d_at_most, d_gap, d__law_draws, d__law_take, d__law_chains, d__law_special, d__law_market, d__law_built, d__law_kind, d__law_size_wanted, d__law_run, d__law_demand, d__law_parts, d__law_cover, d__law_misfit, d__law_begins, d__law_points_fit, d__law_refused, d__law_stock_refused, d__law_door_refused, d__law_doors_right, d__law_wrong_sets, d__law_amounts_right, d__law_sets_right, d__law_checks_right, d_law, d_BadNumber___init__, d_BadRun___init__, d_BadSet___init__, d_BadPart___init__, d_IsGone___init__, d_BadDemand___init__, d_NotAStock___init__, d_NotJoin___init__]
def fc : List He.DefD := [d_Join___init__, d_Lap___init__]
def fg : List He.DefD := [d_Market_many]
def fa1 : List He.Fa := [.glo "is_whole", .glo "is_within", .glo "is_count", .glo "is_row", .glo "is_pair", .glo "is_run", .glo "first_wrong", .glo "set_of", .glo "both", .glo "common", .glo "minus", .glo "subsets", .glo "next_places", .glo "checked_runs", .glo "is_lap", .glo "check_join", .glo "check_run", .glo "check_part", .glo "part_there", .glo "check_there", .glo "demand_of", .glo "covered", .glo "cover", .glo "fits_place", .glo "wrong_place", .glo "is_stock_of", .glo "is_stock", .glo "misfit_place", .glo "check_stock", .glo "over"]
def fa2 : List He.Fa := [.glo "places_over", .glo "begins", .glo "begins_of", .glo "changed", .glo "is_amount", .glo "check_amounts", .glo "check_amount_row", .glo "plus", .glo "total", .glo "least", .glo "at_most", .glo "gap", .glo "_law_draws", .glo "_law_take", .glo "_law_chains", .glo "_law_special", .glo "_law_market", .glo "_law_built", .glo "_law_kind", .glo "_law_size_wanted", .glo "_law_run", .glo "_law_demand", .glo "_law_parts", .glo "_law_cover", .glo "_law_misfit", .glo "_law_begins", .glo "_law_points_fit", .glo "_law_refused", .glo "_law_stock_refused", .glo "_law_door_refused", .glo "_law_doors_right", .glo "_law_wrong_sets", .glo "_law_amounts_right", .glo "_law_sets_right", .glo "_law_checks_right", .glo "law", .glo "Market", .glo "Join", .glo "Lap", .glo "PartsError", .glo "BadNumber", .glo "BadRun", .glo "BadSet", .glo "BadPart", .glo "IsGone", .glo "BadDemand", .glo "NotAStock", .glo "NotJoin", .free "zip", .free "abs", .free "len", .free "isinstance", .free "int", .free "bool", .free "tuple", .free "list", .free "enumerate", .free "range", .free "set", .free "sorted", .free "str", .free "min", .free "super", .free "all", .free "sum", .free "any", .free "max", .int "GREATEST_SIZE" 30, .cls "Join", .mkr "Join", .noat "Join" "size", .noat "Join" "runs", .noat "Join" "gone", .cls "Lap", .mkr "Lap", .noat "Lap" "size", .noat "Lap" "runs", .noat "Lap" "gone", .exm "BadNumber" "BadNumber" true, .exm "BadRun" "BadRun" true, .exm "BadSet" "BadSet" true, .exm "BadPart" "BadPart" true, .exm "IsGone" "IsGone" true, .exm "BadDemand" "BadDemand" true, .exm "NotAStock" "NotAStock" true, .exm "NotJoin" "NotJoin" true, .exm "BadSet" "BadDemand" false, .exm "BadRun" "BadDemand" false, .exm "BadRun" "BadSet" false, .exm "BadNumber" "BadDemand" false, .exm "BadNumber" "BadSet" false, .exm "BadNumber" "BadRun" false, .exm "IsGone" "BadPart" false, .exm "BadPart" "IsGone" false]
def fa : List He.Fa := fa1 ++ fa2
def ex0 (K : PySem.W.Frag) : List Bool := [HkK.supB PP K (He.ga K "Join") (He.ma K (He.ga K "Market") "__init__") ("Join", some "__init__") "Join.__init__", He.conB K "Join" "KIND" (.str "join"), He.eqO (PySem.W.findIn K (.ref (He.ga K "Join")) "__eq__") (some (some (.ref (He.ma K (He.ga K "Market") "__eq__")))), He.eqO (PySem.W.findIn K (.ref (He.ga K "Join")) "__len__") (some (some (.ref (He.ma K (He.ga K "Market") "__len__")))), He.eqO (PySem.W.findIn K (.ref (He.ga K "Join")) "__class__") (some (some (.builtin "object.__class__"))), decide (PySem.W.mroIn K (He.ga K "Join") (.type "object") = some true), HkQ.prB K (He.ga K "Join") "many" (He.ma K (He.ga K "Join") "many") (HkQ.gAd K ("Market", some "many")), HkK.supB PP K (He.ga K "Lap") (He.ma K (He.ga K "Market") "__init__") ("Lap", some "__init__") "Lap.__init__", He.conB K "Lap" "KIND" (.str "lap"), He.eqO (PySem.W.findIn K (.ref (He.ga K "Lap")) "__eq__") (some (some (.ref (He.ma K (He.ga K "Market") "__eq__")))), He.eqO (PySem.W.findIn K (.ref (He.ga K "Lap")) "__len__") (some (some (.ref (He.ma K (He.ga K "Market") "__len__")))), He.eqO (PySem.W.findIn K (.ref (He.ga K "Lap")) "__class__") (some (some (.builtin "object.__class__")))]
def ex1 (K : PySem.W.Frag) : List Bool := [decide (PySem.W.mroIn K (He.ga K "Lap") (.type "object") = some true), HkQ.prB K (He.ga K "Lap") "many" (He.ma K (He.ga K "Lap") "many") (HkQ.gAd K ("Market", some "many")), HkQ.codeG K d_Market_many.at_ d_Market_many.qual, He.eqO (PySem.W.specialIn K (.builtin "object.__class__") "__get__") (some (some (.builtin "getset_descriptor.__get__"))), decide (PySem.W.takesIn K (.builtin "object.__class__") = some true), HkK.excB K (He.ga K "BadNumber"), He.eqO (PySem.W.findIn K (.ref (He.ga K "BadNumber")) "__setattr__") (some (some (.builtin "object.__setattr__"))), He.eqO (PySem.W.findIn K (.ref (He.ga K "BadNumber")) "__getattribute__") (some (some (.builtin "BaseException.__getattribute__"))), He.eqO (PySem.W.findIn K (.ref (He.ga K "BadNumber")) "__getattr__") (some none), He.eqO (PySem.W.findIn K (.ref (He.ga K "BadNumber")) "name") (some none), He.eqO (PySem.W.findIn K (.ref (He.ga K "BadNumber")) "__init__") (some (some (.ref (He.ma K (He.ga K "BadNumber") "__init__")))), He.eqO (PySem.W.findIn K (.ref (He.ga K "BadNumber")) "__class__") (some (some (.builtin "object.__class__")))]
def ex2 (K : PySem.W.Frag) : List Bool := [decide (PySem.W.typeIn K (.ref (He.ma K (He.ga K "BadNumber") "__init__")) = some (.type "function")), PySem.W.keepIn K (.ref (He.ga K "BadNumber")), decide (PySem.W.subIn K (.ref (He.ga K "BadNumber")) (.type "BaseException") = some true), decide (PySem.W.typeIn K (.ref (He.ga K "BadNumber")) = some (.type "type")), PySem.W.hasDictIn K (He.ga K "BadNumber"), decide (PySem.W.mroIn K (He.ga K "BadNumber") (.type "object") = some true), HkK.excB K (He.ga K "BadRun"), He.eqO (PySem.W.findIn K (.ref (He.ga K "BadRun")) "__setattr__") (some (some (.builtin "object.__setattr__"))), He.eqO (PySem.W.findIn K (.ref (He.ga K "BadRun")) "__getattribute__") (some (some (.builtin "BaseException.__getattribute__"))), He.eqO (PySem.W.findIn K (.ref (He.ga K "BadRun")) "__getattr__") (some none), He.eqO (PySem.W.findIn K (.ref (He.ga K "BadRun")) "place") (some none), He.eqO (PySem.W.findIn K (.ref (He.ga K "BadRun")) "__init__") (some (some (.ref (He.ma K (He.ga K "BadRun") "__init__"))))]
def ex3 (K : PySem.W.Frag) : List Bool := [He.eqO (PySem.W.findIn K (.ref (He.ga K "BadRun")) "__class__") (some (some (.builtin "object.__class__"))), decide (PySem.W.typeIn K (.ref (He.ma K (He.ga K "BadRun") "__init__")) = some (.type "function")), PySem.W.keepIn K (.ref (He.ga K "BadRun")), decide (PySem.W.subIn K (.ref (He.ga K "BadRun")) (.type "BaseException") = some true), decide (PySem.W.typeIn K (.ref (He.ga K "BadRun")) = some (.type "type")), PySem.W.hasDictIn K (He.ga K "BadRun"), decide (PySem.W.mroIn K (He.ga K "BadRun") (.type "object") = some true), HkK.excB K (He.ga K "BadSet"), He.eqO (PySem.W.findIn K (.ref (He.ga K "BadSet")) "__setattr__") (some (some (.builtin "object.__setattr__"))), He.eqO (PySem.W.findIn K (.ref (He.ga K "BadSet")) "__getattribute__") (some (some (.builtin "BaseException.__getattribute__"))), He.eqO (PySem.W.findIn K (.ref (He.ga K "BadSet")) "__getattr__") (some none), He.eqO (PySem.W.findIn K (.ref (He.ga K "BadSet")) "place") (some none)]
def ex4 (K : PySem.W.Frag) : List Bool := [He.eqO (PySem.W.findIn K (.ref (He.ga K "BadSet")) "__init__") (some (some (.ref (He.ma K (He.ga K "BadSet") "__init__")))), He.eqO (PySem.W.findIn K (.ref (He.ga K "BadSet")) "__class__") (some (some (.builtin "object.__class__"))), decide (PySem.W.typeIn K (.ref (He.ma K (He.ga K "BadSet") "__init__")) = some (.type "function")), PySem.W.keepIn K (.ref (He.ga K "BadSet")), decide (PySem.W.subIn K (.ref (He.ga K "BadSet")) (.type "BaseException") = some true), decide (PySem.W.typeIn K (.ref (He.ga K "BadSet")) = some (.type "type")), PySem.W.hasDictIn K (He.ga K "BadSet"), decide (PySem.W.mroIn K (He.ga K "BadSet") (.type "object") = some true), HkK.excB K (He.ga K "BadPart"), He.eqO (PySem.W.findIn K (.ref (He.ga K "BadPart")) "__setattr__") (some (some (.builtin "object.__setattr__"))), He.eqO (PySem.W.findIn K (.ref (He.ga K "BadPart")) "__getattribute__") (some (some (.builtin "BaseException.__getattribute__"))), He.eqO (PySem.W.findIn K (.ref (He.ga K "BadPart")) "__getattr__") (some none)]
def ex5 (K : PySem.W.Frag) : List Bool := [He.eqO (PySem.W.findIn K (.ref (He.ga K "BadPart")) "part") (some none), He.eqO (PySem.W.findIn K (.ref (He.ga K "BadPart")) "__init__") (some (some (.ref (He.ma K (He.ga K "BadPart") "__init__")))), He.eqO (PySem.W.findIn K (.ref (He.ga K "BadPart")) "__class__") (some (some (.builtin "object.__class__"))), decide (PySem.W.typeIn K (.ref (He.ma K (He.ga K "BadPart") "__init__")) = some (.type "function")), PySem.W.keepIn K (.ref (He.ga K "BadPart")), decide (PySem.W.subIn K (.ref (He.ga K "BadPart")) (.type "BaseException") = some true), decide (PySem.W.typeIn K (.ref (He.ga K "BadPart")) = some (.type "type")), PySem.W.hasDictIn K (He.ga K "BadPart"), decide (PySem.W.mroIn K (He.ga K "BadPart") (.type "object") = some true), HkK.excB K (He.ga K "IsGone"), He.eqO (PySem.W.findIn K (.ref (He.ga K "IsGone")) "__setattr__") (some (some (.builtin "object.__setattr__"))), He.eqO (PySem.W.findIn K (.ref (He.ga K "IsGone")) "__getattribute__") (some (some (.builtin "BaseException.__getattribute__")))]
def ex6 (K : PySem.W.Frag) : List Bool := [He.eqO (PySem.W.findIn K (.ref (He.ga K "IsGone")) "__getattr__") (some none), He.eqO (PySem.W.findIn K (.ref (He.ga K "IsGone")) "part") (some none), He.eqO (PySem.W.findIn K (.ref (He.ga K "IsGone")) "__init__") (some (some (.ref (He.ma K (He.ga K "IsGone") "__init__")))), He.eqO (PySem.W.findIn K (.ref (He.ga K "IsGone")) "__class__") (some (some (.builtin "object.__class__"))), decide (PySem.W.typeIn K (.ref (He.ma K (He.ga K "IsGone") "__init__")) = some (.type "function")), PySem.W.keepIn K (.ref (He.ga K "IsGone")), decide (PySem.W.subIn K (.ref (He.ga K "IsGone")) (.type "BaseException") = some true), decide (PySem.W.typeIn K (.ref (He.ga K "IsGone")) = some (.type "type")), PySem.W.hasDictIn K (He.ga K "IsGone"), decide (PySem.W.mroIn K (He.ga K "IsGone") (.type "object") = some true), HkK.excB K (He.ga K "BadDemand"), He.eqO (PySem.W.findIn K (.ref (He.ga K "BadDemand")) "__setattr__") (some (some (.builtin "object.__setattr__")))]
def ex7 (K : PySem.W.Frag) : List Bool := [He.eqO (PySem.W.findIn K (.ref (He.ga K "BadDemand")) "__getattribute__") (some (some (.builtin "BaseException.__getattribute__"))), He.eqO (PySem.W.findIn K (.ref (He.ga K "BadDemand")) "__getattr__") (some none), He.eqO (PySem.W.findIn K (.ref (He.ga K "BadDemand")) "place") (some none), He.eqO (PySem.W.findIn K (.ref (He.ga K "BadDemand")) "__init__") (some (some (.ref (He.ma K (He.ga K "BadDemand") "__init__")))), He.eqO (PySem.W.findIn K (.ref (He.ga K "BadDemand")) "__class__") (some (some (.builtin "object.__class__"))), decide (PySem.W.typeIn K (.ref (He.ma K (He.ga K "BadDemand") "__init__")) = some (.type "function")), PySem.W.keepIn K (.ref (He.ga K "BadDemand")), decide (PySem.W.subIn K (.ref (He.ga K "BadDemand")) (.type "BaseException") = some true), decide (PySem.W.typeIn K (.ref (He.ga K "BadDemand")) = some (.type "type")), PySem.W.hasDictIn K (He.ga K "BadDemand"), decide (PySem.W.mroIn K (He.ga K "BadDemand") (.type "object") = some true), HkK.excB K (He.ga K "NotAStock")]
def ex8 (K : PySem.W.Frag) : List Bool := [He.eqO (PySem.W.findIn K (.ref (He.ga K "NotAStock")) "__setattr__") (some (some (.builtin "object.__setattr__"))), He.eqO (PySem.W.findIn K (.ref (He.ga K "NotAStock")) "__getattribute__") (some (some (.builtin "BaseException.__getattribute__"))), He.eqO (PySem.W.findIn K (.ref (He.ga K "NotAStock")) "__getattr__") (some none), He.eqO (PySem.W.findIn K (.ref (He.ga K "NotAStock")) "place") (some none), He.eqO (PySem.W.findIn K (.ref (He.ga K "NotAStock")) "__init__") (some (some (.ref (He.ma K (He.ga K "NotAStock") "__init__")))), He.eqO (PySem.W.findIn K (.ref (He.ga K "NotAStock")) "__class__") (some (some (.builtin "object.__class__"))), decide (PySem.W.typeIn K (.ref (He.ma K (He.ga K "NotAStock") "__init__")) = some (.type "function")), PySem.W.keepIn K (.ref (He.ga K "NotAStock")), decide (PySem.W.subIn K (.ref (He.ga K "NotAStock")) (.type "BaseException") = some true), decide (PySem.W.typeIn K (.ref (He.ga K "NotAStock")) = some (.type "type")), PySem.W.hasDictIn K (He.ga K "NotAStock"), decide (PySem.W.mroIn K (He.ga K "NotAStock") (.type "object") = some true)]
def ex9 (K : PySem.W.Frag) : List Bool := [HkK.excB K (He.ga K "NotJoin"), He.eqO (PySem.W.findIn K (.ref (He.ga K "NotJoin")) "__setattr__") (some (some (.builtin "object.__setattr__"))), He.eqO (PySem.W.findIn K (.ref (He.ga K "NotJoin")) "__getattribute__") (some (some (.builtin "BaseException.__getattribute__"))), He.eqO (PySem.W.findIn K (.ref (He.ga K "NotJoin")) "__getattr__") (some none), He.eqO (PySem.W.findIn K (.ref (He.ga K "NotJoin")) "__init__") (some (some (.ref (He.ma K (He.ga K "NotJoin") "__init__")))), He.eqO (PySem.W.findIn K (.ref (He.ga K "NotJoin")) "__class__") (some (some (.builtin "object.__class__"))), decide (PySem.W.typeIn K (.ref (He.ma K (He.ga K "NotJoin") "__init__")) = some (.type "function")), PySem.W.keepIn K (.ref (He.ga K "NotJoin")), decide (PySem.W.subIn K (.ref (He.ga K "NotJoin")) (.type "BaseException") = some true), decide (PySem.W.typeIn K (.ref (He.ga K "NotJoin")) = some (.type "type")), PySem.W.hasDictIn K (He.ga K "NotJoin"), decide (PySem.W.mroIn K (He.ga K "NotJoin") (.type "object") = some true)]
def ex10 (K : PySem.W.Frag) : List Bool := [decide (PySem.W.kitOne K (.ref (He.ga K "BadSet")) (.ref (He.ga K "PartsError")) = some true), decide (PySem.W.kitOne K (.ref (He.ga K "BadDemand")) (.ref (He.ga K "PartsError")) = some true), decide (PySem.W.kitOne K (.ref (He.ga K "NotJoin")) (.ref (He.ga K "PartsError")) = some true), decide (PySem.W.kitOne K (.ref (He.ga K "BadDemand")) (.ref (He.ga K "BadSet")) = some false), decide (PySem.W.kitOne K (.ref (He.ga K "BadSet")) (.ref (He.ga K "BadDemand")) = some false)]
def ex (K : PySem.W.Frag) : List Bool := ex0 K ++ ex1 K ++ ex2 K ++ ex3 K ++ ex4 K ++ ex5 K ++ ex6 K ++ ex7 K ++ ex8 K ++ ex9 K ++ ex10 K
structure Ctx (K : PySem.W.Frag) (mg : Str → Option Value) : Prop where
  g_is_whole : mg "is_whole" = some (.ref (He.ga K "is_whole"))
  g_is_within : mg "is_within" = some (.ref (He.ga K "is_within"))
  g_is_count : mg "is_count" = some (.ref (He.ga K "is_count"))
  g_is_row : mg "is_row" = some (.ref (He.ga K "is_row"))
  g_is_pair : mg "is_pair" = some (.ref (He.ga K "is_pair"))
  g_is_run : mg "is_run" = some (.ref (He.ga K "is_run"))
  g_first_wrong : mg "first_wrong" = some (.ref (He.ga K "first_wrong"))
  g_set_of : mg "set_of" = some (.ref (He.ga K "set_of"))
  g_both : mg "both" = some (.ref (He.ga K "both"))
  g_common : mg "common" = some (.ref (He.ga K "common"))
  g_minus : mg "minus" = some (.ref (He.ga K "minus"))
  g_subsets : mg "subsets" = some (.ref (He.ga K "subsets"))
  g_next_places : mg "next_places" = some (.ref (He.ga K "next_places"))
  g_checked_runs : mg "checked_runs" = some (.ref (He.ga K "checked_runs"))
  g_is_lap : mg "is_lap" = some (.ref (He.ga K "is_lap"))
  g_check_join : mg "check_join" = some (.ref (He.ga K "check_join"))
  g_check_run : mg "check_run" = some (.ref (He.ga K "check_run"))
  g_check_part : mg "check_part" = some (.ref (He.ga K "check_part"))
  g_part_there : mg "part_there" = some (.ref (He.ga K "part_there"))
  g_check_there : mg "check_there" = some (.ref (He.ga K "check_there"))
  g_demand_of : mg "demand_of" = some (.ref (He.ga K "demand_of"))
  g_covered : mg "covered" = some (.ref (He.ga K "covered"))
  g_cover : mg "cover" = some (.ref (He.ga K "cover"))
  g_fits_place : mg "fits_place" = some (.ref (He.ga K "fits_place"))
  g_wrong_place : mg "wrong_place" = some (.ref (He.ga K "wrong_place"))
  g_is_stock_of : mg "is_stock_of" = some (.ref (He.ga K "is_stock_of"))
  g_is_stock : mg "is_stock" = some (.ref (He.ga K "is_stock"))
  g_misfit_place : mg "misfit_place" = some (.ref (He.ga K "misfit_place"))
  g_check_stock : mg "check_stock" = some (.ref (He.ga K "check_stock"))
  g_over : mg "over" = some (.ref (He.ga K "over"))
  g_places_over : mg "places_over" = some (.ref (He.ga K "places_over"))
  g_begins : mg "begins" = some (.ref (He.ga K "begins"))
  g_begins_of : mg "begins_of" = some (.ref (He.ga K "begins_of"))
  g_changed : mg "changed" = some (.ref (He.ga K "changed"))
  g_is_amount : mg "is_amount" = some (.ref (He.ga K "is_amount"))
  g_check_amounts : mg "check_amounts" = some (.ref (He.ga K "check_amounts"))
  g_check_amount_row : mg "check_amount_row" = some (.ref (He.ga K "check_amount_row"))
  g_plus : mg "plus" = some (.ref (He.ga K "plus"))
  g_total : mg "total" = some (.ref (He.ga K "total"))
  g_least : mg "least" = some (.ref (He.ga K "least"))
  g_at_most : mg "at_most" = some (.ref (He.ga K "at_most"))
  g_gap : mg "gap" = some (.ref (He.ga K "gap"))
  g__law_draws : mg "_law_draws" = some (.ref (He.ga K "_law_draws"))
  g__law_take : mg "_law_take" = some (.ref (He.ga K "_law_take"))
  g__law_chains : mg "_law_chains" = some (.ref (He.ga K "_law_chains"))
  g__law_special : mg "_law_special" = some (.ref (He.ga K "_law_special"))
  g__law_market : mg "_law_market" = some (.ref (He.ga K "_law_market"))
  g__law_built : mg "_law_built" = some (.ref (He.ga K "_law_built"))
  g__law_kind : mg "_law_kind" = some (.ref (He.ga K "_law_kind"))
  g__law_size_wanted : mg "_law_size_wanted" = some (.ref (He.ga K "_law_size_wanted"))
  g__law_run : mg "_law_run" = some (.ref (He.ga K "_law_run"))
  g__law_demand : mg "_law_demand" = some (.ref (He.ga K "_law_demand"))
  g__law_parts : mg "_law_parts" = some (.ref (He.ga K "_law_parts"))
  g__law_cover : mg "_law_cover" = some (.ref (He.ga K "_law_cover"))
  g__law_misfit : mg "_law_misfit" = some (.ref (He.ga K "_law_misfit"))
  g__law_begins : mg "_law_begins" = some (.ref (He.ga K "_law_begins"))
  g__law_points_fit : mg "_law_points_fit" = some (.ref (He.ga K "_law_points_fit"))
  g__law_refused : mg "_law_refused" = some (.ref (He.ga K "_law_refused"))
  g__law_stock_refused : mg "_law_stock_refused" = some (.ref (He.ga K "_law_stock_refused"))
  g__law_door_refused : mg "_law_door_refused" = some (.ref (He.ga K "_law_door_refused"))
  g__law_doors_right : mg "_law_doors_right" = some (.ref (He.ga K "_law_doors_right"))
  g__law_wrong_sets : mg "_law_wrong_sets" = some (.ref (He.ga K "_law_wrong_sets"))
  g__law_amounts_right : mg "_law_amounts_right" = some (.ref (He.ga K "_law_amounts_right"))
  g__law_sets_right : mg "_law_sets_right" = some (.ref (He.ga K "_law_sets_right"))
  g__law_checks_right : mg "_law_checks_right" = some (.ref (He.ga K "_law_checks_right"))
  g_law : mg "law" = some (.ref (He.ga K "law"))
  g_Market : mg "Market" = some (.ref (He.ga K "Market"))
  g_Join : mg "Join" = some (.ref (He.ga K "Join"))
  g_Lap : mg "Lap" = some (.ref (He.ga K "Lap"))
  g_PartsError : mg "PartsError" = some (.ref (He.ga K "PartsError"))
  g_BadNumber : mg "BadNumber" = some (.ref (He.ga K "BadNumber"))
  g_BadRun : mg "BadRun" = some (.ref (He.ga K "BadRun"))
  g_BadSet : mg "BadSet" = some (.ref (He.ga K "BadSet"))
  g_BadPart : mg "BadPart" = some (.ref (He.ga K "BadPart"))
  g_IsGone : mg "IsGone" = some (.ref (He.ga K "IsGone"))
  g_BadDemand : mg "BadDemand" = some (.ref (He.ga K "BadDemand"))
  g_NotAStock : mg "NotAStock" = some (.ref (He.ga K "NotAStock"))
  g_NotJoin : mg "NotJoin" = some (.ref (He.ga K "NotJoin"))
  b_zip : mg "zip" = none
  b_abs : mg "abs" = none
  b_len : mg "len" = none
  b_isinstance : mg "isinstance" = none
  b_int : mg "int" = none
  b_bool : mg "bool" = none
  b_tuple : mg "tuple" = none
  b_list : mg "list" = none
  b_enumerate : mg "enumerate" = none
  b_range : mg "range" = none
  b_set : mg "set" = none
  b_sorted : mg "sorted" = none
  b_str : mg "str" = none
  b_min : mg "min" = none
  b_super : mg "super" = none
  b_all : mg "all" = none
  b_sum : mg "sum" = none
  b_any : mg "any" = none
  b_max : mg "max" = none
  c_GREATEST_SIZE : ∃ t, mg "GREATEST_SIZE" = some (.int 30 t)
  cl_Join : Cls K (He.ga K "Join")
  mk_Join : Mk K (He.ga K "Join") (He.ma K (He.ga K "Join") "__init__")
  no_Join_size : NoAttr K (He.ga K "Join") "size"
  no_Join_runs : NoAttr K (He.ga K "Join") "runs"
  no_Join_gone : NoAttr K (He.ga K "Join") "gone"
  cl_Lap : Cls K (He.ga K "Lap")
  mk_Lap : Mk K (He.ga K "Lap") (He.ma K (He.ga K "Lap") "__init__")
  no_Lap_size : NoAttr K (He.ga K "Lap") "size"
  no_Lap_runs : NoAttr K (He.ga K "Lap") "runs"
  no_Lap_gone : NoAttr K (He.ga K "Lap") "gone"
  te_BadNumber : PySem.W.exmOne K (.ref (He.ga K "BadNumber")) (.ref (He.ga K "BadNumber")) = some true
  te_BadRun : PySem.W.exmOne K (.ref (He.ga K "BadRun")) (.ref (He.ga K "BadRun")) = some true
  te_BadSet : PySem.W.exmOne K (.ref (He.ga K "BadSet")) (.ref (He.ga K "BadSet")) = some true
  te_BadPart : PySem.W.exmOne K (.ref (He.ga K "BadPart")) (.ref (He.ga K "BadPart")) = some true
  te_IsGone : PySem.W.exmOne K (.ref (He.ga K "IsGone")) (.ref (He.ga K "IsGone")) = some true
  te_BadDemand : PySem.W.exmOne K (.ref (He.ga K "BadDemand")) (.ref (He.ga K "BadDemand")) = some true
  te_NotAStock : PySem.W.exmOne K (.ref (He.ga K "NotAStock")) (.ref (He.ga K "NotAStock")) = some true
  te_NotJoin : PySem.W.exmOne K (.ref (He.ga K "NotJoin")) (.ref (He.ga K "NotJoin")) = some true
  tf_BadSet_BadDemand : PySem.W.exmOne K (.ref (He.ga K "BadSet")) (.ref (He.ga K "BadDemand")) = some false
  tf_BadRun_BadDemand : PySem.W.exmOne K (.ref (He.ga K "BadRun")) (.ref (He.ga K "BadDemand")) = some false
  tf_BadRun_BadSet : PySem.W.exmOne K (.ref (He.ga K "BadRun")) (.ref (He.ga K "BadSet")) = some false
  tf_BadNumber_BadDemand : PySem.W.exmOne K (.ref (He.ga K "BadNumber")) (.ref (He.ga K "BadDemand")) = some false
  tf_BadNumber_BadSet : PySem.W.exmOne K (.ref (He.ga K "BadNumber")) (.ref (He.ga K "BadSet")) = some false
  tf_BadNumber_BadRun : PySem.W.exmOne K (.ref (He.ga K "BadNumber")) (.ref (He.ga K "BadRun")) = some false
  tf_IsGone_BadPart : PySem.W.exmOne K (.ref (He.ga K "IsGone")) (.ref (He.ga K "BadPart")) = some false
  tf_BadPart_IsGone : PySem.W.exmOne K (.ref (He.ga K "BadPart")) (.ref (He.ga K "IsGone")) = some false
  d_is_whole : ∃ fd, FunD K d_is_whole.name d_is_whole.qual d_is_whole.params d_is_whole.body d_is_whole.scope (d_is_whole.dvs K) (d_is_whole.kws K) (He.fAd K d_is_whole.at_) fd
  d_is_within : ∃ fd, FunD K d_is_within.name d_is_within.qual d_is_within.params d_is_within.body d_is_within.scope (d_is_within.dvs K) (d_is_within.kws K) (He.fAd K d_is_within.at_) fd
  d_is_count : ∃ fd, FunD K d_is_count.name d_is_count.qual d_is_count.params d_is_count.body d_is_count.scope (d_is_count.dvs K) (d_is_count.kws K) (He.fAd K d_is_count.at_) fd
  d_is_row : ∃ fd, FunD K d_is_row.name d_is_row.qual d_is_row.params d_is_row.body d_is_row.scope (d_is_row.dvs K) (d_is_row.kws K) (He.fAd K d_is_row.at_) fd
  d_is_pair : ∃ fd, FunD K d_is_pair.name d_is_pair.qual d_is_pair.params d_is_pair.body d_is_pair.scope (d_is_pair.dvs K) (d_is_pair.kws K) (He.fAd K d_is_pair.at_) fd
  d_is_run : ∃ fd, FunD K d_is_run.name d_is_run.qual d_is_run.params d_is_run.body d_is_run.scope (d_is_run.dvs K) (d_is_run.kws K) (He.fAd K d_is_run.at_) fd
  d_first_wrong : ∃ fd, FunD K d_first_wrong.name d_first_wrong.qual d_first_wrong.params d_first_wrong.body d_first_wrong.scope (d_first_wrong.dvs K) (d_first_wrong.kws K) (He.fAd K d_first_wrong.at_) fd
  d_set_of : ∃ fd, FunD K d_set_of.name d_set_of.qual d_set_of.params d_set_of.body d_set_of.scope (d_set_of.dvs K) (d_set_of.kws K) (He.fAd K d_set_of.at_) fd
  d_both : ∃ fd, FunD K d_both.name d_both.qual d_both.params d_both.body d_both.scope (d_both.dvs K) (d_both.kws K) (He.fAd K d_both.at_) fd
  d_common : ∃ fd, FunD K d_common.name d_common.qual d_common.params d_common.body d_common.scope (d_common.dvs K) (d_common.kws K) (He.fAd K d_common.at_) fd
  d_minus : ∃ fd, FunD K d_minus.name d_minus.qual d_minus.params d_minus.body d_minus.scope (d_minus.dvs K) (d_minus.kws K) (He.fAd K d_minus.at_) fd
  d_subsets : ∃ fd, FunD K d_subsets.name d_subsets.qual d_subsets.params d_subsets.body d_subsets.scope (d_subsets.dvs K) (d_subsets.kws K) (He.fAd K d_subsets.at_) fd
  d_next_places : ∃ fd, FunD K d_next_places.name d_next_places.qual d_next_places.params d_next_places.body d_next_places.scope (d_next_places.dvs K) (d_next_places.kws K) (He.fAd K d_next_places.at_) fd
  d_Market___init__ : ∃ fd, FunD K d_Market___init__.name d_Market___init__.qual d_Market___init__.params d_Market___init__.body d_Market___init__.scope (d_Market___init__.dvs K) (d_Market___init__.kws K) (He.fAd K d_Market___init__.at_) fd
  d_Market___len__ : ∃ fd, FunD K d_Market___len__.name d_Market___len__.qual d_Market___len__.params d_Market___len__.body d_Market___len__.scope (d_Market___len__.dvs K) (d_Market___len__.kws K) (He.fAd K d_Market___len__.at_) fd
  d_Market___eq__ : ∃ fd, FunD K d_Market___eq__.name d_Market___eq__.qual d_Market___eq__.params d_Market___eq__.body d_Market___eq__.scope (d_Market___eq__.dvs K) (d_Market___eq__.kws K) (He.fAd K d_Market___eq__.at_) fd
  d_checked_runs : ∃ fd, FunD K d_checked_runs.name d_checked_runs.qual d_checked_runs.params d_checked_runs.body d_checked_runs.scope (d_checked_runs.dvs K) (d_checked_runs.kws K) (He.fAd K d_checked_runs.at_) fd
  d_is_lap : ∃ fd, FunD K d_is_lap.name d_is_lap.qual d_is_lap.params d_is_lap.body d_is_lap.scope (d_is_lap.dvs K) (d_is_lap.kws K) (He.fAd K d_is_lap.at_) fd
  d_check_join : ∃ fd, FunD K d_check_join.name d_check_join.qual d_check_join.params d_check_join.body d_check_join.scope (d_check_join.dvs K) (d_check_join.kws K) (He.fAd K d_check_join.at_) fd
  d_check_run : ∃ fd, FunD K d_check_run.name d_check_run.qual d_check_run.params d_check_run.body d_check_run.scope (d_check_run.dvs K) (d_check_run.kws K) (He.fAd K d_check_run.at_) fd
  d_check_part : ∃ fd, FunD K d_check_part.name d_check_part.qual d_check_part.params d_check_part.body d_check_part.scope (d_check_part.dvs K) (d_check_part.kws K) (He.fAd K d_check_part.at_) fd
  d_part_there : ∃ fd, FunD K d_part_there.name d_part_there.qual d_part_there.params d_part_there.body d_part_there.scope (d_part_there.dvs K) (d_part_there.kws K) (He.fAd K d_part_there.at_) fd
  d_check_there : ∃ fd, FunD K d_check_there.name d_check_there.qual d_check_there.params d_check_there.body d_check_there.scope (d_check_there.dvs K) (d_check_there.kws K) (He.fAd K d_check_there.at_) fd
  d_demand_of : ∃ fd, FunD K d_demand_of.name d_demand_of.qual d_demand_of.params d_demand_of.body d_demand_of.scope (d_demand_of.dvs K) (d_demand_of.kws K) (He.fAd K d_demand_of.at_) fd
  d_covered : ∃ fd, FunD K d_covered.name d_covered.qual d_covered.params d_covered.body d_covered.scope (d_covered.dvs K) (d_covered.kws K) (He.fAd K d_covered.at_) fd
  d_cover : ∃ fd, FunD K d_cover.name d_cover.qual d_cover.params d_cover.body d_cover.scope (d_cover.dvs K) (d_cover.kws K) (He.fAd K d_cover.at_) fd
  d_fits_place : ∃ fd, FunD K d_fits_place.name d_fits_place.qual d_fits_place.params d_fits_place.body d_fits_place.scope (d_fits_place.dvs K) (d_fits_place.kws K) (He.fAd K d_fits_place.at_) fd
  d_wrong_place : ∃ fd, FunD K d_wrong_place.name d_wrong_place.qual d_wrong_place.params d_wrong_place.body d_wrong_place.scope (d_wrong_place.dvs K) (d_wrong_place.kws K) (He.fAd K d_wrong_place.at_) fd
  d_is_stock_of : ∃ fd, FunD K d_is_stock_of.name d_is_stock_of.qual d_is_stock_of.params d_is_stock_of.body d_is_stock_of.scope (d_is_stock_of.dvs K) (d_is_stock_of.kws K) (He.fAd K d_is_stock_of.at_) fd
  d_is_stock : ∃ fd, FunD K d_is_stock.name d_is_stock.qual d_is_stock.params d_is_stock.body d_is_stock.scope (d_is_stock.dvs K) (d_is_stock.kws K) (He.fAd K d_is_stock.at_) fd
  d_misfit_place : ∃ fd, FunD K d_misfit_place.name d_misfit_place.qual d_misfit_place.params d_misfit_place.body d_misfit_place.scope (d_misfit_place.dvs K) (d_misfit_place.kws K) (He.fAd K d_misfit_place.at_) fd
  d_check_stock : ∃ fd, FunD K d_check_stock.name d_check_stock.qual d_check_stock.params d_check_stock.body d_check_stock.scope (d_check_stock.dvs K) (d_check_stock.kws K) (He.fAd K d_check_stock.at_) fd
  d_over : ∃ fd, FunD K d_over.name d_over.qual d_over.params d_over.body d_over.scope (d_over.dvs K) (d_over.kws K) (He.fAd K d_over.at_) fd
  d_places_over : ∃ fd, FunD K d_places_over.name d_places_over.qual d_places_over.params d_places_over.body d_places_over.scope (d_places_over.dvs K) (d_places_over.kws K) (He.fAd K d_places_over.at_) fd
  d_begins : ∃ fd, FunD K d_begins.name d_begins.qual d_begins.params d_begins.body d_begins.scope (d_begins.dvs K) (d_begins.kws K) (He.fAd K d_begins.at_) fd
  d_begins_of : ∃ fd, FunD K d_begins_of.name d_begins_of.qual d_begins_of.params d_begins_of.body d_begins_of.scope (d_begins_of.dvs K) (d_begins_of.kws K) (He.fAd K d_begins_of.at_) fd
  d_changed : ∃ fd, FunD K d_changed.name d_changed.qual d_changed.params d_changed.body d_changed.scope (d_changed.dvs K) (d_changed.kws K) (He.fAd K d_changed.at_) fd
  d_is_amount : ∃ fd, FunD K d_is_amount.name d_is_amount.qual d_is_amount.params d_is_amount.body d_is_amount.scope (d_is_amount.dvs K) (d_is_amount.kws K) (He.fAd K d_is_amount.at_) fd
  d_check_amounts : ∃ fd, FunD K d_check_amounts.name d_check_amounts.qual d_check_amounts.params d_check_amounts.body d_check_amounts.scope (d_check_amounts.dvs K) (d_check_amounts.kws K) (He.fAd K d_check_amounts.at_) fd
  d_check_amount_row : ∃ fd, FunD K d_check_amount_row.name d_check_amount_row.qual d_check_amount_row.params d_check_amount_row.body d_check_amount_row.scope (d_check_amount_row.dvs K) (d_check_amount_row.kws K) (He.fAd K d_check_amount_row.at_) fd
  d_plus : ∃ fd, FunD K d_plus.name d_plus.qual d_plus.params d_plus.body d_plus.scope (d_plus.dvs K) (d_plus.kws K) (He.fAd K d_plus.at_) fd
  d_total : ∃ fd, FunD K d_total.name d_total.qual d_total.params d_total.body d_total.scope (d_total.dvs K) (d_total.kws K) (He.fAd K d_total.at_) fd
  d_least : ∃ fd, FunD K d_least.name d_least.qual d_least.params d_least.body d_least.scope (d_least.dvs K) (d_least.kws K) (He.fAd K d_least.at_) fd
  d_at_most : ∃ fd, FunD K d_at_most.name d_at_most.qual d_at_most.params d_at_most.body d_at_most.scope (d_at_most.dvs K) (d_at_most.kws K) (He.fAd K d_at_most.at_) fd
  d_gap : ∃ fd, FunD K d_gap.name d_gap.qual d_gap.params d_gap.body d_gap.scope (d_gap.dvs K) (d_gap.kws K) (He.fAd K d_gap.at_) fd
  d__law_draws : ∃ fd, FunD K d__law_draws.name d__law_draws.qual d__law_draws.params d__law_draws.body d__law_draws.scope (d__law_draws.dvs K) (d__law_draws.kws K) (He.fAd K d__law_draws.at_) fd
  d__law_take : ∃ fd, FunD K d__law_take.name d__law_take.qual d__law_take.params d__law_take.body d__law_take.scope (d__law_take.dvs K) (d__law_take.kws K) (He.fAd K d__law_take.at_) fd
  d__law_chains : ∃ fd, FunD K d__law_chains.name d__law_chains.qual d__law_chains.params d__law_chains.body d__law_chains.scope (d__law_chains.dvs K) (d__law_chains.kws K) (He.fAd K d__law_chains.at_) fd
  d__law_special : ∃ fd, FunD K d__law_special.name d__law_special.qual d__law_special.params d__law_special.body d__law_special.scope (d__law_special.dvs K) (d__law_special.kws K) (He.fAd K d__law_special.at_) fd
  d__law_market : ∃ fd, FunD K d__law_market.name d__law_market.qual d__law_market.params d__law_market.body d__law_market.scope (d__law_market.dvs K) (d__law_market.kws K) (He.fAd K d__law_market.at_) fd
  d__law_built : ∃ fd, FunD K d__law_built.name d__law_built.qual d__law_built.params d__law_built.body d__law_built.scope (d__law_built.dvs K) (d__law_built.kws K) (He.fAd K d__law_built.at_) fd
  d__law_kind : ∃ fd, FunD K d__law_kind.name d__law_kind.qual d__law_kind.params d__law_kind.body d__law_kind.scope (d__law_kind.dvs K) (d__law_kind.kws K) (He.fAd K d__law_kind.at_) fd
  d__law_size_wanted : ∃ fd, FunD K d__law_size_wanted.name d__law_size_wanted.qual d__law_size_wanted.params d__law_size_wanted.body d__law_size_wanted.scope (d__law_size_wanted.dvs K) (d__law_size_wanted.kws K) (He.fAd K d__law_size_wanted.at_) fd
  d__law_run : ∃ fd, FunD K d__law_run.name d__law_run.qual d__law_run.params d__law_run.body d__law_run.scope (d__law_run.dvs K) (d__law_run.kws K) (He.fAd K d__law_run.at_) fd
  d__law_demand : ∃ fd, FunD K d__law_demand.name d__law_demand.qual d__law_demand.params d__law_demand.body d__law_demand.scope (d__law_demand.dvs K) (d__law_demand.kws K) (He.fAd K d__law_demand.at_) fd
  d__law_parts : ∃ fd, FunD K d__law_parts.name d__law_parts.qual d__law_parts.params d__law_parts.body d__law_parts.scope (d__law_parts.dvs K) (d__law_parts.kws K) (He.fAd K d__law_parts.at_) fd
  d__law_cover : ∃ fd, FunD K d__law_cover.name d__law_cover.qual d__law_cover.params d__law_cover.body d__law_cover.scope (d__law_cover.dvs K) (d__law_cover.kws K) (He.fAd K d__law_cover.at_) fd
  d__law_misfit : ∃ fd, FunD K d__law_misfit.name d__law_misfit.qual d__law_misfit.params d__law_misfit.body d__law_misfit.scope (d__law_misfit.dvs K) (d__law_misfit.kws K) (He.fAd K d__law_misfit.at_) fd
  d__law_begins : ∃ fd, FunD K d__law_begins.name d__law_begins.qual d__law_begins.params d__law_begins.body d__law_begins.scope (d__law_begins.dvs K) (d__law_begins.kws K) (He.fAd K d__law_begins.at_) fd
  d__law_points_fit : ∃ fd, FunD K d__law_points_fit.name d__law_points_fit.qual d__law_points_fit.params d__law_points_fit.body d__law_points_fit.scope (d__law_points_fit.dvs K) (d__law_points_fit.kws K) (He.fAd K d__law_points_fit.at_) fd
  d__law_refused : ∃ fd, FunD K d__law_refused.name d__law_refused.qual d__law_refused.params d__law_refused.body d__law_refused.scope (d__law_refused.dvs K) (d__law_refused.kws K) (He.fAd K d__law_refused.at_) fd
  d__law_stock_refused : ∃ fd, FunD K d__law_stock_refused.name d__law_stock_refused.qual d__law_stock_refused.params d__law_stock_refused.body d__law_stock_refused.scope (d__law_stock_refused.dvs K) (d__law_stock_refused.kws K) (He.fAd K d__law_stock_refused.at_) fd
  d__law_door_refused : ∃ fd, FunD K d__law_door_refused.name d__law_door_refused.qual d__law_door_refused.params d__law_door_refused.body d__law_door_refused.scope (d__law_door_refused.dvs K) (d__law_door_refused.kws K) (He.fAd K d__law_door_refused.at_) fd
  d__law_doors_right : ∃ fd, FunD K d__law_doors_right.name d__law_doors_right.qual d__law_doors_right.params d__law_doors_right.body d__law_doors_right.scope (d__law_doors_right.dvs K) (d__law_doors_right.kws K) (He.fAd K d__law_doors_right.at_) fd
  d__law_wrong_sets : ∃ fd, FunD K d__law_wrong_sets.name d__law_wrong_sets.qual d__law_wrong_sets.params d__law_wrong_sets.body d__law_wrong_sets.scope (d__law_wrong_sets.dvs K) (d__law_wrong_sets.kws K) (He.fAd K d__law_wrong_sets.at_) fd
  d__law_amounts_right : ∃ fd, FunD K d__law_amounts_right.name d__law_amounts_right.qual d__law_amounts_right.params d__law_amounts_right.body d__law_amounts_right.scope (d__law_amounts_right.dvs K) (d__law_amounts_right.kws K) (He.fAd K d__law_amounts_right.at_) fd
  d__law_sets_right : ∃ fd, FunD K d__law_sets_right.name d__law_sets_right.qual d__law_sets_right.params d__law_sets_right.body d__law_sets_right.scope (d__law_sets_right.dvs K) (d__law_sets_right.kws K) (He.fAd K d__law_sets_right.at_) fd
  d__law_checks_right : ∃ fd, FunD K d__law_checks_right.name d__law_checks_right.qual d__law_checks_right.params d__law_checks_right.body d__law_checks_right.scope (d__law_checks_right.dvs K) (d__law_checks_right.kws K) (He.fAd K d__law_checks_right.at_) fd
  d_law : ∃ fd, FunD K d_law.name d_law.qual d_law.params d_law.body d_law.scope (d_law.dvs K) (d_law.kws K) (He.fAd K d_law.at_) fd
  d_BadNumber___init__ : ∃ fd, FunD K d_BadNumber___init__.name d_BadNumber___init__.qual d_BadNumber___init__.params d_BadNumber___init__.body d_BadNumber___init__.scope (d_BadNumber___init__.dvs K) (d_BadNumber___init__.kws K) (He.fAd K d_BadNumber___init__.at_) fd
  d_BadRun___init__ : ∃ fd, FunD K d_BadRun___init__.name d_BadRun___init__.qual d_BadRun___init__.params d_BadRun___init__.body d_BadRun___init__.scope (d_BadRun___init__.dvs K) (d_BadRun___init__.kws K) (He.fAd K d_BadRun___init__.at_) fd
  d_BadSet___init__ : ∃ fd, FunD K d_BadSet___init__.name d_BadSet___init__.qual d_BadSet___init__.params d_BadSet___init__.body d_BadSet___init__.scope (d_BadSet___init__.dvs K) (d_BadSet___init__.kws K) (He.fAd K d_BadSet___init__.at_) fd
  d_BadPart___init__ : ∃ fd, FunD K d_BadPart___init__.name d_BadPart___init__.qual d_BadPart___init__.params d_BadPart___init__.body d_BadPart___init__.scope (d_BadPart___init__.dvs K) (d_BadPart___init__.kws K) (He.fAd K d_BadPart___init__.at_) fd
  d_IsGone___init__ : ∃ fd, FunD K d_IsGone___init__.name d_IsGone___init__.qual d_IsGone___init__.params d_IsGone___init__.body d_IsGone___init__.scope (d_IsGone___init__.dvs K) (d_IsGone___init__.kws K) (He.fAd K d_IsGone___init__.at_) fd
  d_BadDemand___init__ : ∃ fd, FunD K d_BadDemand___init__.name d_BadDemand___init__.qual d_BadDemand___init__.params d_BadDemand___init__.body d_BadDemand___init__.scope (d_BadDemand___init__.dvs K) (d_BadDemand___init__.kws K) (He.fAd K d_BadDemand___init__.at_) fd
  d_NotAStock___init__ : ∃ fd, FunD K d_NotAStock___init__.name d_NotAStock___init__.qual d_NotAStock___init__.params d_NotAStock___init__.body d_NotAStock___init__.scope (d_NotAStock___init__.dvs K) (d_NotAStock___init__.kws K) (He.fAd K d_NotAStock___init__.at_) fd
  d_NotJoin___init__ : ∃ fd, FunD K d_NotJoin___init__.name d_NotJoin___init__.qual d_NotJoin___init__.params d_NotJoin___init__.body d_NotJoin___init__.scope (d_NotJoin___init__.dvs K) (d_NotJoin___init__.kws K) (He.fAd K d_NotJoin___init__.at_) fd
  sup_Join : ∃ fd, SupI.SupTxt PP K mg (He.ga K "Join") (He.fAd K d_Join___init__.at_) (He.ma K (He.ga K "Market") "__init__") (HkK.cellAd K d_Join___init__.at_) (HkK.codeAd K d_Join___init__.at_) fd d_Join___init__.qual d_Join___init__.params d_Join___init__.body d_Join___init__.scope ∧ ∃ cd, PySem.W.clsIn K (He.ga K "Join") = some cd
  kind_Join : ∃ u, Con K (He.ga K "Join") "KIND" (.str "join") u
  f__eq___Join : PySem.W.findIn K (.ref (He.ga K "Join")) "__eq__" = some (some (.ref (He.ma K (He.ga K "Market") "__eq__")))
  f__len___Join : PySem.W.findIn K (.ref (He.ga K "Join")) "__len__" = some (some (.ref (He.ma K (He.ga K "Market") "__len__")))
  cc_Join : PySem.W.findIn K (.ref (He.ga K "Join")) "__class__" = some (some (.builtin "object.__class__"))
  mo_Join : PySem.W.mroIn K (He.ga K "Join") (.type "object") = some true
  pr_many_Join : PropOf K (He.ga K "Join") "many" (He.ma K (He.ga K "Join") "many") (HkQ.gAd K ("Market", some "many"))
  sup_Lap : ∃ fd, SupI.SupTxt PP K mg (He.ga K "Lap") (He.fAd K d_Lap___init__.at_) (He.ma K (He.ga K "Market") "__init__") (HkK.cellAd K d_Lap___init__.at_) (HkK.codeAd K d_Lap___init__.at_) fd d_Lap___init__.qual d_Lap___init__.params d_Lap___init__.body d_Lap___init__.scope ∧ ∃ cd, PySem.W.clsIn K (He.ga K "Lap") = some cd
  kind_Lap : ∃ u, Con K (He.ga K "Lap") "KIND" (.str "lap") u
  f__eq___Lap : PySem.W.findIn K (.ref (He.ga K "Lap")) "__eq__" = some (some (.ref (He.ma K (He.ga K "Market") "__eq__")))
  f__len___Lap : PySem.W.findIn K (.ref (He.ga K "Lap")) "__len__" = some (some (.ref (He.ma K (He.ga K "Market") "__len__")))
  cc_Lap : PySem.W.findIn K (.ref (He.ga K "Lap")) "__class__" = some (some (.builtin "object.__class__"))
  mo_Lap : PySem.W.mroIn K (He.ga K "Lap") (.type "object") = some true
  pr_many_Lap : PropOf K (He.ga K "Lap") "many" (He.ma K (He.ga K "Lap") "many") (HkQ.gAd K ("Market", some "many"))
  d_Market_many : ∃ fd, FunD K d_Market_many.name d_Market_many.qual d_Market_many.params d_Market_many.body d_Market_many.scope [] [] (HkQ.gAd K d_Market_many.at_) fd
  gs : PySem.W.specialIn K (.builtin "object.__class__") "__get__" = some (some (.builtin "getset_descriptor.__get__"))
  tk : PySem.W.takesIn K (.builtin "object.__class__") = some true
  xc_BadNumber : ∃ nm q N bs bm sn sub ab col dd k0 k1 k2 k3 k5, K.lookup (He.ga K "BadNumber") = some (excClassObj nm q (He.ga K "BadNumber") N bs bm true sn sub ab col dd k0 k1 k2 k3 k5 "ValueError.__new__") ∧ PySem.HandSPX.refsVE bm = true
  xsa_BadNumber : PySem.W.findIn K (.ref (He.ga K "BadNumber")) "__setattr__" = some (some (.builtin "object.__setattr__"))
  xga_BadNumber : PySem.W.findIn K (.ref (He.ga K "BadNumber")) "__getattribute__" = some (some (.builtin "BaseException.__getattribute__"))
  xgg_BadNumber : PySem.W.findIn K (.ref (He.ga K "BadNumber")) "__getattr__" = some none
  xnn_BadNumber : PySem.W.findIn K (.ref (He.ga K "BadNumber")) "name" = some none
  xii_BadNumber : PySem.W.findIn K (.ref (He.ga K "BadNumber")) "__init__" = some (some (.ref (He.ma K (He.ga K "BadNumber") "__init__")))
  xcc_BadNumber : PySem.W.findIn K (.ref (He.ga K "BadNumber")) "__class__" = some (some (.builtin "object.__class__"))
  xt_BadNumber : PySem.W.typeIn K (.ref (He.ma K (He.ga K "BadNumber") "__init__")) = some (.type "function")
  xk_BadNumber : PySem.W.keepIn K (.ref (He.ga K "BadNumber")) = true
  xs_BadNumber : PySem.W.subIn K (.ref (He.ga K "BadNumber")) (.type "BaseException") = some true
  xy_BadNumber : PySem.W.typeIn K (.ref (He.ga K "BadNumber")) = some (.type "type")
  xd_BadNumber : PySem.W.hasDictIn K (He.ga K "BadNumber") = true
  xo_BadNumber : PySem.W.mroIn K (He.ga K "BadNumber") (.type "object") = some true
  xc_BadRun : ∃ nm q N bs bm sn sub ab col dd k0 k1 k2 k3 k5, K.lookup (He.ga K "BadRun") = some (excClassObj nm q (He.ga K "BadRun") N bs bm true sn sub ab col dd k0 k1 k2 k3 k5 "ValueError.__new__") ∧ PySem.HandSPX.refsVE bm = true
  xsa_BadRun : PySem.W.findIn K (.ref (He.ga K "BadRun")) "__setattr__" = some (some (.builtin "object.__setattr__"))
  xga_BadRun : PySem.W.findIn K (.ref (He.ga K "BadRun")) "__getattribute__" = some (some (.builtin "BaseException.__getattribute__"))
  xgg_BadRun : PySem.W.findIn K (.ref (He.ga K "BadRun")) "__getattr__" = some none
  xnn_BadRun : PySem.W.findIn K (.ref (He.ga K "BadRun")) "place" = some none
  xii_BadRun : PySem.W.findIn K (.ref (He.ga K "BadRun")) "__init__" = some (some (.ref (He.ma K (He.ga K "BadRun") "__init__")))
  xcc_BadRun : PySem.W.findIn K (.ref (He.ga K "BadRun")) "__class__" = some (some (.builtin "object.__class__"))
  xt_BadRun : PySem.W.typeIn K (.ref (He.ma K (He.ga K "BadRun") "__init__")) = some (.type "function")
  xk_BadRun : PySem.W.keepIn K (.ref (He.ga K "BadRun")) = true
  xs_BadRun : PySem.W.subIn K (.ref (He.ga K "BadRun")) (.type "BaseException") = some true
  xy_BadRun : PySem.W.typeIn K (.ref (He.ga K "BadRun")) = some (.type "type")
  xd_BadRun : PySem.W.hasDictIn K (He.ga K "BadRun") = true
  xo_BadRun : PySem.W.mroIn K (He.ga K "BadRun") (.type "object") = some true
  xc_BadSet : ∃ nm q N bs bm sn sub ab col dd k0 k1 k2 k3 k5, K.lookup (He.ga K "BadSet") = some (excClassObj nm q (He.ga K "BadSet") N bs bm true sn sub ab col dd k0 k1 k2 k3 k5 "ValueError.__new__") ∧ PySem.HandSPX.refsVE bm = true
  xsa_BadSet : PySem.W.findIn K (.ref (He.ga K "BadSet")) "__setattr__" = some (some (.builtin "object.__setattr__"))
  xga_BadSet : PySem.W.findIn K (.ref (He.ga K "BadSet")) "__getattribute__" = some (some (.builtin "BaseException.__getattribute__"))
  xgg_BadSet : PySem.W.findIn K (.ref (He.ga K "BadSet")) "__getattr__" = some none
  xnn_BadSet : PySem.W.findIn K (.ref (He.ga K "BadSet")) "place" = some none
  xii_BadSet : PySem.W.findIn K (.ref (He.ga K "BadSet")) "__init__" = some (some (.ref (He.ma K (He.ga K "BadSet") "__init__")))
  xcc_BadSet : PySem.W.findIn K (.ref (He.ga K "BadSet")) "__class__" = some (some (.builtin "object.__class__"))
  xt_BadSet : PySem.W.typeIn K (.ref (He.ma K (He.ga K "BadSet") "__init__")) = some (.type "function")
  xk_BadSet : PySem.W.keepIn K (.ref (He.ga K "BadSet")) = true
  xs_BadSet : PySem.W.subIn K (.ref (He.ga K "BadSet")) (.type "BaseException") = some true
  xy_BadSet : PySem.W.typeIn K (.ref (He.ga K "BadSet")) = some (.type "type")
  xd_BadSet : PySem.W.hasDictIn K (He.ga K "BadSet") = true
  xo_BadSet : PySem.W.mroIn K (He.ga K "BadSet") (.type "object") = some true
  xc_BadPart : ∃ nm q N bs bm sn sub ab col dd k0 k1 k2 k3 k5, K.lookup (He.ga K "BadPart") = some (excClassObj nm q (He.ga K "BadPart") N bs bm true sn sub ab col dd k0 k1 k2 k3 k5 "ValueError.__new__") ∧ PySem.HandSPX.refsVE bm = true
  xsa_BadPart : PySem.W.findIn K (.ref (He.ga K "BadPart")) "__setattr__" = some (some (.builtin "object.__setattr__"))
  xga_BadPart : PySem.W.findIn K (.ref (He.ga K "BadPart")) "__getattribute__" = some (some (.builtin "BaseException.__getattribute__"))
  xgg_BadPart : PySem.W.findIn K (.ref (He.ga K "BadPart")) "__getattr__" = some none
  xnn_BadPart : PySem.W.findIn K (.ref (He.ga K "BadPart")) "part" = some none
  xii_BadPart : PySem.W.findIn K (.ref (He.ga K "BadPart")) "__init__" = some (some (.ref (He.ma K (He.ga K "BadPart") "__init__")))
  xcc_BadPart : PySem.W.findIn K (.ref (He.ga K "BadPart")) "__class__" = some (some (.builtin "object.__class__"))
  xt_BadPart : PySem.W.typeIn K (.ref (He.ma K (He.ga K "BadPart") "__init__")) = some (.type "function")
  xk_BadPart : PySem.W.keepIn K (.ref (He.ga K "BadPart")) = true
  xs_BadPart : PySem.W.subIn K (.ref (He.ga K "BadPart")) (.type "BaseException") = some true
  xy_BadPart : PySem.W.typeIn K (.ref (He.ga K "BadPart")) = some (.type "type")
  xd_BadPart : PySem.W.hasDictIn K (He.ga K "BadPart") = true
  xo_BadPart : PySem.W.mroIn K (He.ga K "BadPart") (.type "object") = some true
  xc_IsGone : ∃ nm q N bs bm sn sub ab col dd k0 k1 k2 k3 k5, K.lookup (He.ga K "IsGone") = some (excClassObj nm q (He.ga K "IsGone") N bs bm true sn sub ab col dd k0 k1 k2 k3 k5 "ValueError.__new__") ∧ PySem.HandSPX.refsVE bm = true
  xsa_IsGone : PySem.W.findIn K (.ref (He.ga K "IsGone")) "__setattr__" = some (some (.builtin "object.__setattr__"))
  xga_IsGone : PySem.W.findIn K (.ref (He.ga K "IsGone")) "__getattribute__" = some (some (.builtin "BaseException.__getattribute__"))
  xgg_IsGone : PySem.W.findIn K (.ref (He.ga K "IsGone")) "__getattr__" = some none
  xnn_IsGone : PySem.W.findIn K (.ref (He.ga K "IsGone")) "part" = some none
  xii_IsGone : PySem.W.findIn K (.ref (He.ga K "IsGone")) "__init__" = some (some (.ref (He.ma K (He.ga K "IsGone") "__init__")))
  xcc_IsGone : PySem.W.findIn K (.ref (He.ga K "IsGone")) "__class__" = some (some (.builtin "object.__class__"))
  xt_IsGone : PySem.W.typeIn K (.ref (He.ma K (He.ga K "IsGone") "__init__")) = some (.type "function")
  xk_IsGone : PySem.W.keepIn K (.ref (He.ga K "IsGone")) = true
  xs_IsGone : PySem.W.subIn K (.ref (He.ga K "IsGone")) (.type "BaseException") = some true
  xy_IsGone : PySem.W.typeIn K (.ref (He.ga K "IsGone")) = some (.type "type")
  xd_IsGone : PySem.W.hasDictIn K (He.ga K "IsGone") = true
  xo_IsGone : PySem.W.mroIn K (He.ga K "IsGone") (.type "object") = some true
  xc_BadDemand : ∃ nm q N bs bm sn sub ab col dd k0 k1 k2 k3 k5, K.lookup (He.ga K "BadDemand") = some (excClassObj nm q (He.ga K "BadDemand") N bs bm true sn sub ab col dd k0 k1 k2 k3 k5 "ValueError.__new__") ∧ PySem.HandSPX.refsVE bm = true
  xsa_BadDemand : PySem.W.findIn K (.ref (He.ga K "BadDemand")) "__setattr__" = some (some (.builtin "object.__setattr__"))
  xga_BadDemand : PySem.W.findIn K (.ref (He.ga K "BadDemand")) "__getattribute__" = some (some (.builtin "BaseException.__getattribute__"))
  xgg_BadDemand : PySem.W.findIn K (.ref (He.ga K "BadDemand")) "__getattr__" = some none
  xnn_BadDemand : PySem.W.findIn K (.ref (He.ga K "BadDemand")) "place" = some none
  xii_BadDemand : PySem.W.findIn K (.ref (He.ga K "BadDemand")) "__init__" = some (some (.ref (He.ma K (He.ga K "BadDemand") "__init__")))
  xcc_BadDemand : PySem.W.findIn K (.ref (He.ga K "BadDemand")) "__class__" = some (some (.builtin "object.__class__"))
  xt_BadDemand : PySem.W.typeIn K (.ref (He.ma K (He.ga K "BadDemand") "__init__")) = some (.type "function")
  xk_BadDemand : PySem.W.keepIn K (.ref (He.ga K "BadDemand")) = true
  xs_BadDemand : PySem.W.subIn K (.ref (He.ga K "BadDemand")) (.type "BaseException") = some true
  xy_BadDemand : PySem.W.typeIn K (.ref (He.ga K "BadDemand")) = some (.type "type")
  xd_BadDemand : PySem.W.hasDictIn K (He.ga K "BadDemand") = true
  xo_BadDemand : PySem.W.mroIn K (He.ga K "BadDemand") (.type "object") = some true
  xc_NotAStock : ∃ nm q N bs bm sn sub ab col dd k0 k1 k2 k3 k5, K.lookup (He.ga K "NotAStock") = some (excClassObj nm q (He.ga K "NotAStock") N bs bm true sn sub ab col dd k0 k1 k2 k3 k5 "ValueError.__new__") ∧ PySem.HandSPX.refsVE bm = true
  xsa_NotAStock : PySem.W.findIn K (.ref (He.ga K "NotAStock")) "__setattr__" = some (some (.builtin "object.__setattr__"))
  xga_NotAStock : PySem.W.findIn K (.ref (He.ga K "NotAStock")) "__getattribute__" = some (some (.builtin "BaseException.__getattribute__"))
  xgg_NotAStock : PySem.W.findIn K (.ref (He.ga K "NotAStock")) "__getattr__" = some none
  xnn_NotAStock : PySem.W.findIn K (.ref (He.ga K "NotAStock")) "place" = some none
  xii_NotAStock : PySem.W.findIn K (.ref (He.ga K "NotAStock")) "__init__" = some (some (.ref (He.ma K (He.ga K "NotAStock") "__init__")))
  xcc_NotAStock : PySem.W.findIn K (.ref (He.ga K "NotAStock")) "__class__" = some (some (.builtin "object.__class__"))
  xt_NotAStock : PySem.W.typeIn K (.ref (He.ma K (He.ga K "NotAStock") "__init__")) = some (.type "function")
  xk_NotAStock : PySem.W.keepIn K (.ref (He.ga K "NotAStock")) = true
  xs_NotAStock : PySem.W.subIn K (.ref (He.ga K "NotAStock")) (.type "BaseException") = some true
  xy_NotAStock : PySem.W.typeIn K (.ref (He.ga K "NotAStock")) = some (.type "type")
  xd_NotAStock : PySem.W.hasDictIn K (He.ga K "NotAStock") = true
  xo_NotAStock : PySem.W.mroIn K (He.ga K "NotAStock") (.type "object") = some true
  xc_NotJoin : ∃ nm q N bs bm sn sub ab col dd k0 k1 k2 k3 k5, K.lookup (He.ga K "NotJoin") = some (excClassObj nm q (He.ga K "NotJoin") N bs bm true sn sub ab col dd k0 k1 k2 k3 k5 "ValueError.__new__") ∧ PySem.HandSPX.refsVE bm = true
  xsa_NotJoin : PySem.W.findIn K (.ref (He.ga K "NotJoin")) "__setattr__" = some (some (.builtin "object.__setattr__"))
  xga_NotJoin : PySem.W.findIn K (.ref (He.ga K "NotJoin")) "__getattribute__" = some (some (.builtin "BaseException.__getattribute__"))
  xgg_NotJoin : PySem.W.findIn K (.ref (He.ga K "NotJoin")) "__getattr__" = some none
  xii_NotJoin : PySem.W.findIn K (.ref (He.ga K "NotJoin")) "__init__" = some (some (.ref (He.ma K (He.ga K "NotJoin") "__init__")))
  xcc_NotJoin : PySem.W.findIn K (.ref (He.ga K "NotJoin")) "__class__" = some (some (.builtin "object.__class__"))
  xt_NotJoin : PySem.W.typeIn K (.ref (He.ma K (He.ga K "NotJoin") "__init__")) = some (.type "function")
  xk_NotJoin : PySem.W.keepIn K (.ref (He.ga K "NotJoin")) = true
  xs_NotJoin : PySem.W.subIn K (.ref (He.ga K "NotJoin")) (.type "BaseException") = some true
  xy_NotJoin : PySem.W.typeIn K (.ref (He.ga K "NotJoin")) = some (.type "type")
  xd_NotJoin : PySem.W.hasDictIn K (He.ga K "NotJoin") = true
  xo_NotJoin : PySem.W.mroIn K (He.ga K "NotJoin") (.type "object") = some true
  ki_BadSet_PartsError : PySem.W.kitOne K (.ref (He.ga K "BadSet")) (.ref (He.ga K "PartsError")) = some true
  ki_BadDemand_PartsError : PySem.W.kitOne K (.ref (He.ga K "BadDemand")) (.ref (He.ga K "PartsError")) = some true
  ki_NotJoin_PartsError : PySem.W.kitOne K (.ref (He.ga K "NotJoin")) (.ref (He.ga K "PartsError")) = some true
  ki_BadDemand_BadSet : PySem.W.kitOne K (.ref (He.ga K "BadDemand")) (.ref (He.ga K "BadSet")) = some false
  ki_BadSet_BadDemand : PySem.W.kitOne K (.ref (He.ga K "BadSet")) (.ref (He.ga K "BadDemand")) = some false
theorem ctx_of {K : PySem.W.Frag} {h : Heap} {mg : Str → Option Value} (X : K.In h) (G : h.Ns mainGlobals mg) (c : HkQ.obsQ fa fn fc fg ex K = HkQ.valQ fn fc fg) : Ctx K mg := by
  have ck := HkQ.saysK c
  have S := HkK.saysD_of ck
  exact {
    g_is_whole := He.glo_ok X G (S.fact 0 (by kernel_rfl)),
    g_is_within := He.glo_ok X G (S.fact 1 (by kernel_rfl)),
    g_is_count := He.glo_ok X G (S.fact 2 (by kernel_rfl)),
    g_is_row := He.glo_ok X G (S.fact 3 (by kernel_rfl)),
    g_is_pair := He.glo_ok X G (S.fact 4 (by kernel_rfl)),
    g_is_run := He.glo_ok X G (S.fact 5 (by kernel_rfl)),
    g_first_wrong := He.glo_ok X G (S.fact 6 (by kernel_rfl)),
    g_set_of := He.glo_ok X G (S.fact 7 (by kernel_rfl)),
    g_both := He.glo_ok X G (S.fact 8 (by kernel_rfl)),
    g_common := He.glo_ok X G (S.fact 9 (by kernel_rfl)),
    g_minus := He.glo_ok X G (S.fact 10 (by kernel_rfl)),
    g_subsets := He.glo_ok X G (S.fact 11 (by kernel_rfl)),
    g_next_places := He.glo_ok X G (S.fact 12 (by kernel_rfl)),
    g_checked_runs := He.glo_ok X G (S.fact 13 (by kernel_rfl)),
    g_is_lap := He.glo_ok X G (S.fact 14 (by kernel_rfl)),
    g_check_join := He.glo_ok X G (S.fact 15 (by kernel_rfl)),
    g_check_run := He.glo_ok X G (S.fact 16 (by kernel_rfl)),
    g_check_part := He.glo_ok X G (S.fact 17 (by kernel_rfl)),
    g_part_there := He.glo_ok X G (S.fact 18 (by kernel_rfl)),
    g_check_there := He.glo_ok X G (S.fact 19 (by kernel_rfl)),
    g_demand_of := He.glo_ok X G (S.fact 20 (by kernel_rfl)),
    g_covered := He.glo_ok X G (S.fact 21 (by kernel_rfl)),
    g_cover := He.glo_ok X G (S.fact 22 (by kernel_rfl)),
    g_fits_place := He.glo_ok X G (S.fact 23 (by kernel_rfl)),
    g_wrong_place := He.glo_ok X G (S.fact 24 (by kernel_rfl)),
    g_is_stock_of := He.glo_ok X G (S.fact 25 (by kernel_rfl)),
    g_is_stock := He.glo_ok X G (S.fact 26 (by kernel_rfl)),
    g_misfit_place := He.glo_ok X G (S.fact 27 (by kernel_rfl)),
    g_check_stock := He.glo_ok X G (S.fact 28 (by kernel_rfl)),
    g_over := He.glo_ok X G (S.fact 29 (by kernel_rfl)),
    g_places_over := He.glo_ok X G (S.fact 30 (by kernel_rfl)),
    g_begins := He.glo_ok X G (S.fact 31 (by kernel_rfl)),
    g_begins_of := He.glo_ok X G (S.fact 32 (by kernel_rfl)),
    g_changed := He.glo_ok X G (S.fact 33 (by kernel_rfl)),
    g_is_amount := He.glo_ok X G (S.fact 34 (by kernel_rfl)),
    g_check_amounts := He.glo_ok X G (S.fact 35 (by kernel_rfl)),
    g_check_amount_row := He.glo_ok X G (S.fact 36 (by kernel_rfl)),
    g_plus := He.glo_ok X G (S.fact 37 (by kernel_rfl)),
    g_total := He.glo_ok X G (S.fact 38 (by kernel_rfl)),
    g_least := He.glo_ok X G (S.fact 39 (by kernel_rfl)),
    g_at_most := He.glo_ok X G (S.fact 40 (by kernel_rfl)),
    g_gap := He.glo_ok X G (S.fact 41 (by kernel_rfl)),
    g__law_draws := He.glo_ok X G (S.fact 42 (by kernel_rfl)),
    g__law_take := He.glo_ok X G (S.fact 43 (by kernel_rfl)),
    g__law_chains := He.glo_ok X G (S.fact 44 (by kernel_rfl)),
    g__law_special := He.glo_ok X G (S.fact 45 (by kernel_rfl)),
    g__law_market := He.glo_ok X G (S.fact 46 (by kernel_rfl)),
    g__law_built := He.glo_ok X G (S.fact 47 (by kernel_rfl)),
    g__law_kind := He.glo_ok X G (S.fact 48 (by kernel_rfl)),
    g__law_size_wanted := He.glo_ok X G (S.fact 49 (by kernel_rfl)),
    g__law_run := He.glo_ok X G (S.fact 50 (by kernel_rfl)),
    g__law_demand := He.glo_ok X G (S.fact 51 (by kernel_rfl)),
    g__law_parts := He.glo_ok X G (S.fact 52 (by kernel_rfl)),
    g__law_cover := He.glo_ok X G (S.fact 53 (by kernel_rfl)),
    g__law_misfit := He.glo_ok X G (S.fact 54 (by kernel_rfl)),
    g__law_begins := He.glo_ok X G (S.fact 55 (by kernel_rfl)),
    g__law_points_fit := He.glo_ok X G (S.fact 56 (by kernel_rfl)),
    g__law_refused := He.glo_ok X G (S.fact 57 (by kernel_rfl)),
    g__law_stock_refused := He.glo_ok X G (S.fact 58 (by kernel_rfl)),
    g__law_door_refused := He.glo_ok X G (S.fact 59 (by kernel_rfl)),
    g__law_doors_right := He.glo_ok X G (S.fact 60 (by kernel_rfl)),
    g__law_wrong_sets := He.glo_ok X G (S.fact 61 (by kernel_rfl)),
    g__law_amounts_right := He.glo_ok X G (S.fact 62 (by kernel_rfl)),
    g__law_sets_right := He.glo_ok X G (S.fact 63 (by kernel_rfl)),
    g__law_checks_right := He.glo_ok X G (S.fact 64 (by kernel_rfl)),
    g_law := He.glo_ok X G (S.fact 65 (by kernel_rfl)),
    g_Market := He.glo_ok X G (S.fact 66 (by kernel_rfl)),
    g_Join := He.glo_ok X G (S.fact 67 (by kernel_rfl)),
    g_Lap := He.glo_ok X G (S.fact 68 (by kernel_rfl)),
    g_PartsError := He.glo_ok X G (S.fact 69 (by kernel_rfl)),
    g_BadNumber := He.glo_ok X G (S.fact 70 (by kernel_rfl)),
    g_BadRun := He.glo_ok X G (S.fact 71 (by kernel_rfl)),
    g_BadSet := He.glo_ok X G (S.fact 72 (by kernel_rfl)),
    g_BadPart := He.glo_ok X G (S.fact 73 (by kernel_rfl)),
    g_IsGone := He.glo_ok X G (S.fact 74 (by kernel_rfl)),
    g_BadDemand := He.glo_ok X G (S.fact 75 (by kernel_rfl)),
    g_NotAStock := He.glo_ok X G (S.fact 76 (by kernel_rfl)),
    g_NotJoin := He.glo_ok X G (S.fact 77 (by kernel_rfl)),
    b_zip := He.free_ok X G (S.fact 78 (by kernel_rfl)),
    b_abs := He.free_ok X G (S.fact 79 (by kernel_rfl)),
    b_len := He.free_ok X G (S.fact 80 (by kernel_rfl)),
    b_isinstance := He.free_ok X G (S.fact 81 (by kernel_rfl)),
    b_int := He.free_ok X G (S.fact 82 (by kernel_rfl)),
    b_bool := He.free_ok X G (S.fact 83 (by kernel_rfl)),
    b_tuple := He.free_ok X G (S.fact 84 (by kernel_rfl)),
    b_list := He.free_ok X G (S.fact 85 (by kernel_rfl)),
    b_enumerate := He.free_ok X G (S.fact 86 (by kernel_rfl)),
    b_range := He.free_ok X G (S.fact 87 (by kernel_rfl)),
    b_set := He.free_ok X G (S.fact 88 (by kernel_rfl)),
    b_sorted := He.free_ok X G (S.fact 89 (by kernel_rfl)),
    b_str := He.free_ok X G (S.fact 90 (by kernel_rfl)),
    b_min := He.free_ok X G (S.fact 91 (by kernel_rfl)),
    b_super := He.free_ok X G (S.fact 92 (by kernel_rfl)),
    b_all := He.free_ok X G (S.fact 93 (by kernel_rfl)),
    b_sum := He.free_ok X G (S.fact 94 (by kernel_rfl)),
    b_any := He.free_ok X G (S.fact 95 (by kernel_rfl)),
    b_max := He.free_ok X G (S.fact 96 (by kernel_rfl)),
    c_GREATEST_SIZE := He.int_ok X G (S.fact 97 (by kernel_rfl)),
    cl_Join := He.cls_ok (S.fact 98 (by kernel_rfl)),
    mk_Join := He.mkr_ok (S.fact 99 (by kernel_rfl)),
    no_Join_size := He.noat_ok (S.fact 100 (by kernel_rfl)),
    no_Join_runs := He.noat_ok (S.fact 101 (by kernel_rfl)),
    no_Join_gone := He.noat_ok (S.fact 102 (by kernel_rfl)),
    cl_Lap := He.cls_ok (S.fact 103 (by kernel_rfl)),
    mk_Lap := He.mkr_ok (S.fact 104 (by kernel_rfl)),
    no_Lap_size := He.noat_ok (S.fact 105 (by kernel_rfl)),
    no_Lap_runs := He.noat_ok (S.fact 106 (by kernel_rfl)),
    no_Lap_gone := He.noat_ok (S.fact 107 (by kernel_rfl)),
    te_BadNumber := He.exm_ok (S.fact 108 (by kernel_rfl)),
    te_BadRun := He.exm_ok (S.fact 109 (by kernel_rfl)),
    te_BadSet := He.exm_ok (S.fact 110 (by kernel_rfl)),
    te_BadPart := He.exm_ok (S.fact 111 (by kernel_rfl)),
    te_IsGone := He.exm_ok (S.fact 112 (by kernel_rfl)),
    te_BadDemand := He.exm_ok (S.fact 113 (by kernel_rfl)),
    te_NotAStock := He.exm_ok (S.fact 114 (by kernel_rfl)),
    te_NotJoin := He.exm_ok (S.fact 115 (by kernel_rfl)),
    tf_BadSet_BadDemand := He.exm_ok (S.fact 116 (by kernel_rfl)),
    tf_BadRun_BadDemand := He.exm_ok (S.fact 117 (by kernel_rfl)),
    tf_BadRun_BadSet := He.exm_ok (S.fact 118 (by kernel_rfl)),
    tf_BadNumber_BadDemand := He.exm_ok (S.fact 119 (by kernel_rfl)),
    tf_BadNumber_BadSet := He.exm_ok (S.fact 120 (by kernel_rfl)),
    tf_BadNumber_BadRun := He.exm_ok (S.fact 121 (by kernel_rfl)),
    tf_IsGone_BadPart := He.exm_ok (S.fact 122 (by kernel_rfl)),
    tf_BadPart_IsGone := He.exm_ok (S.fact 123 (by kernel_rfl)),
    d_is_whole := S.def_ 0 (by kernel_rfl),
    d_is_within := S.def_ 1 (by kernel_rfl),
    d_is_count := S.def_ 2 (by kernel_rfl),
    d_is_row := S.def_ 3 (by kernel_rfl),
    d_is_pair := S.def_ 4 (by kernel_rfl),
    d_is_run := S.def_ 5 (by kernel_rfl),
    d_first_wrong := S.def_ 6 (by kernel_rfl),
    d_set_of := S.def_ 7 (by kernel_rfl),
    d_both := S.def_ 8 (by kernel_rfl),
    d_common := S.def_ 9 (by kernel_rfl),
    d_minus := S.def_ 10 (by kernel_rfl),
    d_subsets := S.def_ 11 (by kernel_rfl),
    d_next_places := S.def_ 12 (by kernel_rfl),
    d_Market___init__ := S.def_ 13 (by kernel_rfl),
    d_Market___len__ := S.def_ 14 (by kernel_rfl),
    d_Market___eq__ := S.def_ 15 (by kernel_rfl),
    d_checked_runs := S.def_ 16 (by kernel_rfl),
    d_is_lap := S.def_ 17 (by kernel_rfl),
    d_check_join := S.def_ 18 (by kernel_rfl),
    d_check_run := S.def_ 19 (by kernel_rfl),
    d_check_part := S.def_ 20 (by kernel_rfl),
    d_part_there := S.def_ 21 (by kernel_rfl),
    d_check_there := S.def_ 22 (by kernel_rfl),
    d_demand_of := S.def_ 23 (by kernel_rfl),
    d_covered := S.def_ 24 (by kernel_rfl),
    d_cover := S.def_ 25 (by kernel_rfl),
    d_fits_place := S.def_ 26 (by kernel_rfl),
    d_wrong_place := S.def_ 27 (by kernel_rfl),
    d_is_stock_of := S.def_ 28 (by kernel_rfl),
    d_is_stock := S.def_ 29 (by kernel_rfl),
    d_misfit_place := S.def_ 30 (by kernel_rfl),
    d_check_stock := S.def_ 31 (by kernel_rfl),
    d_over := S.def_ 32 (by kernel_rfl),
    d_places_over := S.def_ 33 (by kernel_rfl),
    d_begins := S.def_ 34 (by kernel_rfl),
    d_begins_of := S.def_ 35 (by kernel_rfl),
    d_changed := S.def_ 36 (by kernel_rfl),
    d_is_amount := S.def_ 37 (by kernel_rfl),
    d_check_amounts := S.def_ 38 (by kernel_rfl),
    d_check_amount_row := S.def_ 39 (by kernel_rfl),
    d_plus := S.def_ 40 (by kernel_rfl),
    d_total := S.def_ 41 (by kernel_rfl),
    d_least := S.def_ 42 (by kernel_rfl),
    d_at_most := S.def_ 43 (by kernel_rfl),
    d_gap := S.def_ 44 (by kernel_rfl),
    d__law_draws := S.def_ 45 (by kernel_rfl),
    d__law_take := S.def_ 46 (by kernel_rfl),
    d__law_chains := S.def_ 47 (by kernel_rfl),
    d__law_special := S.def_ 48 (by kernel_rfl),
    d__law_market := S.def_ 49 (by kernel_rfl),
    d__law_built := S.def_ 50 (by kernel_rfl),
    d__law_kind := S.def_ 51 (by kernel_rfl),
    d__law_size_wanted := S.def_ 52 (by kernel_rfl),
    d__law_run := S.def_ 53 (by kernel_rfl),
    d__law_demand := S.def_ 54 (by kernel_rfl),
    d__law_parts := S.def_ 55 (by kernel_rfl),
    d__law_cover := S.def_ 56 (by kernel_rfl),
    d__law_misfit := S.def_ 57 (by kernel_rfl),
    d__law_begins := S.def_ 58 (by kernel_rfl),
    d__law_points_fit := S.def_ 59 (by kernel_rfl),
    d__law_refused := S.def_ 60 (by kernel_rfl),
    d__law_stock_refused := S.def_ 61 (by kernel_rfl),
    d__law_door_refused := S.def_ 62 (by kernel_rfl),
    d__law_doors_right := S.def_ 63 (by kernel_rfl),
    d__law_wrong_sets := S.def_ 64 (by kernel_rfl),
    d__law_amounts_right := S.def_ 65 (by kernel_rfl),
    d__law_sets_right := S.def_ 66 (by kernel_rfl),
    d__law_checks_right := S.def_ 67 (by kernel_rfl),
    d_law := S.def_ 68 (by kernel_rfl),
    d_BadNumber___init__ := S.def_ 69 (by kernel_rfl),
    d_BadRun___init__ := S.def_ 70 (by kernel_rfl),
    d_BadSet___init__ := S.def_ 71 (by kernel_rfl),
    d_BadPart___init__ := S.def_ 72 (by kernel_rfl),
    d_IsGone___init__ := S.def_ 73 (by kernel_rfl),
    d_BadDemand___init__ := S.def_ 74 (by kernel_rfl),
    d_NotAStock___init__ := S.def_ 75 (by kernel_rfl),
    d_NotJoin___init__ := S.def_ 76 (by kernel_rfl),
    sup_Join := HkK.supB_ok (d := d_Join___init__) (HkK.says_fc ck 0 (by kernel_rfl)) (HkK.says_ex ck 0 (by kernel_rfl)) (He.free_ok X G (S.fact 92 (by kernel_rfl))) rfl,
    kind_Join := He.conB_ok (HkK.says_ex ck 1 rfl),
    f__eq___Join := He.eqO_ok (HkK.says_ex ck 2 (by kernel_rfl)),
    f__len___Join := He.eqO_ok (HkK.says_ex ck 3 (by kernel_rfl)),
    cc_Join := He.eqO_ok (HkK.says_ex ck 4 (by kernel_rfl)),
    mo_Join := of_decide_eq_true (HkK.says_ex ck 5 (by kernel_rfl)),
    pr_many_Join := HkQ.prB_ok (HkK.says_ex ck 6 (by kernel_rfl)),
    sup_Lap := HkK.supB_ok (d := d_Lap___init__) (HkK.says_fc ck 1 (by kernel_rfl)) (HkK.says_ex ck 7 (by kernel_rfl)) (He.free_ok X G (S.fact 92 (by kernel_rfl))) rfl,
    kind_Lap := He.conB_ok (HkK.says_ex ck 8 rfl),
    f__eq___Lap := He.eqO_ok (HkK.says_ex ck 9 (by kernel_rfl)),
    f__len___Lap := He.eqO_ok (HkK.says_ex ck 10 (by kernel_rfl)),
    cc_Lap := He.eqO_ok (HkK.says_ex ck 11 (by kernel_rfl)),
    mo_Lap := of_decide_eq_true (HkK.says_ex ck 12 (by kernel_rfl)),
    pr_many_Lap := HkQ.prB_ok (HkK.says_ex ck 13 (by kernel_rfl)),
    d_Market_many := HkQ.fnG_ok (d := d_Market_many) (HkQ.says_fg c 0 (by kernel_rfl)) (HkK.says_ex ck 14 (by kernel_rfl)),
    gs := He.eqO_ok (HkK.says_ex ck 15 (by kernel_rfl)),
    tk := of_decide_eq_true (HkK.says_ex ck 16 (by kernel_rfl)),
    xc_BadNumber := HkK.excB_ok (HkK.says_ex ck 17 (by kernel_rfl)),
    xsa_BadNumber := He.eqO_ok (HkK.says_ex ck 18 (by kernel_rfl)),
    xga_BadNumber := He.eqO_ok (HkK.says_ex ck 19 (by kernel_rfl)),
    xgg_BadNumber := He.eqO_ok (HkK.says_ex ck 20 (by kernel_rfl)),
    xnn_BadNumber := He.eqO_ok (HkK.says_ex ck 21 (by kernel_rfl)),
    xii_BadNumber := He.eqO_ok (HkK.says_ex ck 22 (by kernel_rfl)),
    xcc_BadNumber := He.eqO_ok (HkK.says_ex ck 23 (by kernel_rfl)),
    xt_BadNumber := of_decide_eq_true (HkK.says_ex ck 24 (by kernel_rfl)),
    xk_BadNumber := (HkK.says_ex ck 25 (by kernel_rfl)),
    xs_BadNumber := of_decide_eq_true (HkK.says_ex ck 26 (by kernel_rfl)),
    xy_BadNumber := of_decide_eq_true (HkK.says_ex ck 27 (by kernel_rfl)),
    xd_BadNumber := (HkK.says_ex ck 28 (by kernel_rfl)),
    xo_BadNumber := of_decide_eq_true (HkK.says_ex ck 29 (by kernel_rfl)),
    xc_BadRun := HkK.excB_ok (HkK.says_ex ck 30 (by kernel_rfl)),
    xsa_BadRun := He.eqO_ok (HkK.says_ex ck 31 (by kernel_rfl)),
    xga_BadRun := He.eqO_ok (HkK.says_ex ck 32 (by kernel_rfl)),
    xgg_BadRun := He.eqO_ok (HkK.says_ex ck 33 (by kernel_rfl)),
    xnn_BadRun := He.eqO_ok (HkK.says_ex ck 34 (by kernel_rfl)),
    xii_BadRun := He.eqO_ok (HkK.says_ex ck 35 (by kernel_rfl)),
    xcc_BadRun := He.eqO_ok (HkK.says_ex ck 36 (by kernel_rfl)),
    xt_BadRun := of_decide_eq_true (HkK.says_ex ck 37 (by kernel_rfl)),
    xk_BadRun := (HkK.says_ex ck 38 (by kernel_rfl)),
    xs_BadRun := of_decide_eq_true (HkK.says_ex ck 39 (by kernel_rfl)),
    xy_BadRun := of_decide_eq_true (HkK.says_ex ck 40 (by kernel_rfl)),
    xd_BadRun := (HkK.says_ex ck 41 (by kernel_rfl)),
    xo_BadRun := of_decide_eq_true (HkK.says_ex ck 42 (by kernel_rfl)),
    xc_BadSet := HkK.excB_ok (HkK.says_ex ck 43 (by kernel_rfl)),
    xsa_BadSet := He.eqO_ok (HkK.says_ex ck 44 (by kernel_rfl)),
    xga_BadSet := He.eqO_ok (HkK.says_ex ck 45 (by kernel_rfl)),
    xgg_BadSet := He.eqO_ok (HkK.says_ex ck 46 (by kernel_rfl)),
    xnn_BadSet := He.eqO_ok (HkK.says_ex ck 47 (by kernel_rfl)),
    xii_BadSet := He.eqO_ok (HkK.says_ex ck 48 (by kernel_rfl)),
    xcc_BadSet := He.eqO_ok (HkK.says_ex ck 49 (by kernel_rfl)),
    xt_BadSet := of_decide_eq_true (HkK.says_ex ck 50 (by kernel_rfl)),
    xk_BadSet := (HkK.says_ex ck 51 (by kernel_rfl)),
    xs_BadSet := of_decide_eq_true (HkK.says_ex ck 52 (by kernel_rfl)),
    xy_BadSet := of_decide_eq_true (HkK.says_ex ck 53 (by kernel_rfl)),
    xd_BadSet := (HkK.says_ex ck 54 (by kernel_rfl)),
    xo_BadSet := of_decide_eq_true (HkK.says_ex ck 55 (by kernel_rfl)),
    xc_BadPart := HkK.excB_ok (HkK.says_ex ck 56 (by kernel_rfl)),
    xsa_BadPart := He.eqO_ok (HkK.says_ex ck 57 (by kernel_rfl)),
    xga_BadPart := He.eqO_ok (HkK.says_ex ck 58 (by kernel_rfl)),
    xgg_BadPart := He.eqO_ok (HkK.says_ex ck 59 (by kernel_rfl)),
    xnn_BadPart := He.eqO_ok (HkK.says_ex ck 60 (by kernel_rfl)),
    xii_BadPart := He.eqO_ok (HkK.says_ex ck 61 (by kernel_rfl)),
    xcc_BadPart := He.eqO_ok (HkK.says_ex ck 62 (by kernel_rfl)),
    xt_BadPart := of_decide_eq_true (HkK.says_ex ck 63 (by kernel_rfl)),
    xk_BadPart := (HkK.says_ex ck 64 (by kernel_rfl)),
    xs_BadPart := of_decide_eq_true (HkK.says_ex ck 65 (by kernel_rfl)),
    xy_BadPart := of_decide_eq_true (HkK.says_ex ck 66 (by kernel_rfl)),
    xd_BadPart := (HkK.says_ex ck 67 (by kernel_rfl)),
    xo_BadPart := of_decide_eq_true (HkK.says_ex ck 68 (by kernel_rfl)),
    xc_IsGone := HkK.excB_ok (HkK.says_ex ck 69 (by kernel_rfl)),
    xsa_IsGone := He.eqO_ok (HkK.says_ex ck 70 (by kernel_rfl)),
    xga_IsGone := He.eqO_ok (HkK.says_ex ck 71 (by kernel_rfl)),
    xgg_IsGone := He.eqO_ok (HkK.says_ex ck 72 (by kernel_rfl)),
    xnn_IsGone := He.eqO_ok (HkK.says_ex ck 73 (by kernel_rfl)),
    xii_IsGone := He.eqO_ok (HkK.says_ex ck 74 (by kernel_rfl)),
    xcc_IsGone := He.eqO_ok (HkK.says_ex ck 75 (by kernel_rfl)),
    xt_IsGone := of_decide_eq_true (HkK.says_ex ck 76 (by kernel_rfl)),
    xk_IsGone := (HkK.says_ex ck 77 (by kernel_rfl)),
    xs_IsGone := of_decide_eq_true (HkK.says_ex ck 78 (by kernel_rfl)),
    xy_IsGone := of_decide_eq_true (HkK.says_ex ck 79 (by kernel_rfl)),
    xd_IsGone := (HkK.says_ex ck 80 (by kernel_rfl)),
    xo_IsGone := of_decide_eq_true (HkK.says_ex ck 81 (by kernel_rfl)),
    xc_BadDemand := HkK.excB_ok (HkK.says_ex ck 82 (by kernel_rfl)),
    xsa_BadDemand := He.eqO_ok (HkK.says_ex ck 83 (by kernel_rfl)),
    xga_BadDemand := He.eqO_ok (HkK.says_ex ck 84 (by kernel_rfl)),
    xgg_BadDemand := He.eqO_ok (HkK.says_ex ck 85 (by kernel_rfl)),
    xnn_BadDemand := He.eqO_ok (HkK.says_ex ck 86 (by kernel_rfl)),
    xii_BadDemand := He.eqO_ok (HkK.says_ex ck 87 (by kernel_rfl)),
    xcc_BadDemand := He.eqO_ok (HkK.says_ex ck 88 (by kernel_rfl)),
    xt_BadDemand := of_decide_eq_true (HkK.says_ex ck 89 (by kernel_rfl)),
    xk_BadDemand := (HkK.says_ex ck 90 (by kernel_rfl)),
    xs_BadDemand := of_decide_eq_true (HkK.says_ex ck 91 (by kernel_rfl)),
    xy_BadDemand := of_decide_eq_true (HkK.says_ex ck 92 (by kernel_rfl)),
    xd_BadDemand := (HkK.says_ex ck 93 (by kernel_rfl)),
    xo_BadDemand := of_decide_eq_true (HkK.says_ex ck 94 (by kernel_rfl)),
    xc_NotAStock := HkK.excB_ok (HkK.says_ex ck 95 (by kernel_rfl)),
    xsa_NotAStock := He.eqO_ok (HkK.says_ex ck 96 (by kernel_rfl)),
    xga_NotAStock := He.eqO_ok (HkK.says_ex ck 97 (by kernel_rfl)),
    xgg_NotAStock := He.eqO_ok (HkK.says_ex ck 98 (by kernel_rfl)),
    xnn_NotAStock := He.eqO_ok (HkK.says_ex ck 99 (by kernel_rfl)),
    xii_NotAStock := He.eqO_ok (HkK.says_ex ck 100 (by kernel_rfl)),
    xcc_NotAStock := He.eqO_ok (HkK.says_ex ck 101 (by kernel_rfl)),
    xt_NotAStock := of_decide_eq_true (HkK.says_ex ck 102 (by kernel_rfl)),
    xk_NotAStock := (HkK.says_ex ck 103 (by kernel_rfl)),
    xs_NotAStock := of_decide_eq_true (HkK.says_ex ck 104 (by kernel_rfl)),
    xy_NotAStock := of_decide_eq_true (HkK.says_ex ck 105 (by kernel_rfl)),
    xd_NotAStock := (HkK.says_ex ck 106 (by kernel_rfl)),
    xo_NotAStock := of_decide_eq_true (HkK.says_ex ck 107 (by kernel_rfl)),
    xc_NotJoin := HkK.excB_ok (HkK.says_ex ck 108 (by kernel_rfl)),
    xsa_NotJoin := He.eqO_ok (HkK.says_ex ck 109 (by kernel_rfl)),
    xga_NotJoin := He.eqO_ok (HkK.says_ex ck 110 (by kernel_rfl)),
    xgg_NotJoin := He.eqO_ok (HkK.says_ex ck 111 (by kernel_rfl)),
    xii_NotJoin := He.eqO_ok (HkK.says_ex ck 112 (by kernel_rfl)),
    xcc_NotJoin := He.eqO_ok (HkK.says_ex ck 113 (by kernel_rfl)),
    xt_NotJoin := of_decide_eq_true (HkK.says_ex ck 114 (by kernel_rfl)),
    xk_NotJoin := (HkK.says_ex ck 115 (by kernel_rfl)),
    xs_NotJoin := of_decide_eq_true (HkK.says_ex ck 116 (by kernel_rfl)),
    xy_NotJoin := of_decide_eq_true (HkK.says_ex ck 117 (by kernel_rfl)),
    xd_NotJoin := (HkK.says_ex ck 118 (by kernel_rfl)),
    xo_NotJoin := of_decide_eq_true (HkK.says_ex ck 119 (by kernel_rfl)),
    ki_BadSet_PartsError := of_decide_eq_true (HkK.says_ex ck 120 (by kernel_rfl)),
    ki_BadDemand_PartsError := of_decide_eq_true (HkK.says_ex ck 121 (by kernel_rfl)),
    ki_NotJoin_PartsError := of_decide_eq_true (HkK.says_ex ck 122 (by kernel_rfl)),
    ki_BadDemand_BadSet := of_decide_eq_true (HkK.says_ex ck 123 (by kernel_rfl)),
    ki_BadSet_BadDemand := of_decide_eq_true (HkK.says_ex ck 124 (by kernel_rfl)) }
end K00


set_option Elab.async false
set_option linter.all false
set_option maxRecDepth 100000
set_option maxHeartbeats 0
namespace K00
open PySem PySem.Spec PyProof.Rows L2
abbrev R : PySem.W.OpenRow := PySem.W.OpenLaw.row PySem.Challenge.rw_keptparts_k00_covers_and_points
abbrev hk : PySem.W.Hook := HkB.hookB 6 fa fn fc fg ex
def ob (s : PySem.W.SharedT) : HkQ.AlQ := HkQ.obsQ fa fn fc fg ex (HkB.frB 6 (HandSHeadRun.getT s))
theorem ob_eq (s : PySem.W.SharedT) : ob s = hk.obs s.abs := HkB.obsB_eq (HandSHeadRun.getT_eq s)
def names1 : List PySem.Str := ["_wall", "PartsError", "BadNumber", "BadRun", "BadSet", "BadPart", "IsGone", "BadDemand", "NotJoin", "NotAStock", "is_whole", "is_within", "is_count", "is_row", "is_pair", "is_run", "first_wrong", "set_of", "both", "common", "minus", "subsets", "next_places", "GREATEST_SIZE"]
def names2 : List PySem.Str := ["Market", "Join", "Lap", "checked_runs", "gone_after", "end_to_end_shape", "beside_shape", "joined_gone", "turned_runs", "repeated_parts", "check_times", "is_lap", "check_join", "check_run", "check_part", "part_there", "check_there", "demand_of", "covered", "cover", "fits_place", "wrong_place", "is_stock_of", "is_stock"]
def names3 : List PySem.Str := ["misfit_place", "check_stock", "over", "places_over", "begins", "begins_of", "changed", "is_amount", "check_amounts", "check_amount_row", "plus", "total", "least", "at_most", "gap", "_law_draws", "_law_take", "_law_chains", "_law_special", "_law_market", "_law_built", "_law_kind", "_law_size_wanted", "_law_run"]
def names4 : List PySem.Str := ["_law_demand", "_law_parts", "_law_cover", "_law_misfit", "_law_begins", "_law_points_fit", "_law_refused", "_law_stock_refused", "_law_door_refused", "_law_doors_right", "_law_wrong_sets", "_law_amounts_right", "_law_sets_right", "_law_checks_right"]
def names : List PySem.Str := names1 ++ names2 ++ names3 ++ names4
theorem map3 {α β γ δ ε ζ : Type} {o : Option α} {f : α → β × γ} {g : α → δ} {h : α → ε × ζ} {b : β} {b2 : γ} {c : δ} {d : ε} {d2 : ζ} (h1 : o.map f = some (b, b2)) (h2 : o.map g = some c) (h3 : o.map h = some (d, d2)) :
    o.map (fun s => ((f s).1, (f s).2, ((g s, (h s).1), (h s).2))) = some (b, b2, ((c, d), d2)) := by
  cases o with
  | none => cases h1
  | some s =>
    have e1 : f s = (b, b2) := Option.some.inj h1
    have e2 : g s = c := Option.some.inj h2
    have e3 : h s = (d, d2) := Option.some.inj h3
    show some ((f s).1, (f s).2, ((g s, (h s).1), (h s).2)) = _
    rw [e1, e2, e3]
theorem runA (w : World) (os : PySem.OsState) : (HandSHeadRun.endF (HandSHeadRun.stepQ (HandSHeadRun.denQ HandSHeadRun.tabQ) R.prog w) 40000 R.prog w os).map (fun s => (HandSHeadRun.looksF R.prog (PySem.W.boot_heap w.params) s.abs, HandSHeadRun.seenQ (PySem.W.view R.prog [93]) names (PySem.importedModules R.prog.main.body) (fun s => PySem.W.xlAt (PySem.W.view R.prog [93]) [] s && PySem.W.recOk R.toRowW.records s) s.abs)) = some (true, PySem.W.openGood (PySem.W.view R.prog [93]) names) := by
  kernel_rfl
theorem runC (w : World) (os : PySem.OsState) : (HandSHeadRun.endF (HandSHeadRun.stepQ (HandSHeadRun.denQ HandSHeadRun.tabQ) R.prog w) 40000 R.prog w os).map (fun s => He.obsD fa fn (HkB.frB 6 (HandSHeadRun.getT s))) = some (He.valD fn) := by
  kernel_rfl
theorem runD (w : World) (os : PySem.OsState) : (HandSHeadRun.endF (HandSHeadRun.stepQ (HandSHeadRun.denQ HandSHeadRun.tabQ) R.prog w) 40000 R.prog w os).map (fun s => ((fc.map (fun d => HkK.fnC (HkB.frB 6 (HandSHeadRun.getT s)) d.at_), (ex (HkB.frB 6 (HandSHeadRun.getT s))).all id), fg.map (fun d => HkQ.fnG (HkB.frB 6 (HandSHeadRun.getT s)) d.at_))) = some ((fc.map HkK.valC, true), fg.map HkQ.valG) := by
  kernel_rfl
theorem run (w : World) : HandSHeadRun.RunEq R (PySem.W.view R.prog [93]) hk ob 40000 names w := by
  intro os
  have a := runA w os
  have c := runC w os
  have d := runD w os
  revert a c d
  generalize HandSHeadRun.endF (HandSHeadRun.stepQ (HandSHeadRun.denQ HandSHeadRun.tabQ) R.prog w) 40000 R.prog w os = o
  intro a c d
  exact map3 a c d
end K00


set_option Elab.async false
set_option linter.all false
set_option maxRecDepth 100000
set_option maxHeartbeats 4000000
namespace K00
open PySem PySem.Spec PyProof.Rows L2
open Evl (Ex)
section
variable {w : World} {K : PySem.W.Frag} {mg : Str → Option Value} {base : Heap}
/-- the module's def x keeps the promise -/
def Has (w : World) (K : PySem.W.Frag) (mg : Str → Option Value) (base : Heap) (CX : CXT) (x : Str) (k : Nat) (ps : List Str) (sp : Sp) : Prop :=
  ∃ (f : Addr) (fd : FuncData), mg x = some (.ref f) ∧ PySem.W.keepIn K (.ref f) = true ∧ FnOk PP w K mg base CX k f fd ps sp ∧ Binds K fd ps []
theorem has_of {x : Str} {st : Stmt} {f : Addr} {CX : CXT} {k : Nat} {ps : List Str} {sp : Sp} (d : ∃ fd, FunD K x x (defArgs st) (defBody st) (defScope st) [] [] f fd) (g : mg x = some (.ref f))
    (h : ∀ (kV doc pm : Value) (an : Option Addr) (cdv ct : Value) (us : List Value), us.length = ps.length → bindArgs (PySem.W.fnOf x x (defArgs st) (defBody st) (defScope st) .none kV doc pm an cdv ct) ⟨us, []⟩ = pure (ps.zip us))
    (ok : ∀ fd, FunD K x x (defArgs st) (defBody st) (defScope st) [] [] f fd → FnOk PP w K mg base CX k f fd ps sp) : Has w K mg base CX x k ps sp := by
  obtain ⟨fd, F⟩ := d
  exact ⟨f, fd, g, F.kp, ok fd F, F.bindsN h⟩
theorem Has.imp {CX : CXT} {x : Str} {k : Nat} {ps : List Str} {sp sp' : Sp} (H : Has w K mg base CX x k ps sp) (h : ∀ vs H Q E, sp' vs H Q E → sp vs H Q E) : Has w K mg base CX x k ps sp' := by
  obtain ⟨f, fd, a, b, c, d⟩ := H
  exact ⟨f, fd, a, b, c.imp h, d⟩
theorem ok0 {x : Str} {st : Stmt} {f : Addr} {fd : FuncData} {N ps : List Str} {k : Nat} {sp : Sp} {dvs : List V} {kws : List (Str × V)} {qual : Str} (F : FunD K x qual (defArgs st) (defBody st) (defScope st) dvs kws f fd) (S : FnScope N ps (defScope st)) (len : ∀ vs H Q E, sp vs H Q E → vs.length = ps.length)
    (hbody : ∀ (cdv : Value) (A : Around) (outer : List Env) (s : Shared) (H : Hp) (vs : List V) (Q : VK) (E : XK), Room k (A.deeper (envOfC qual (defScope st) s.heap.objs.size f cdv)) → sp vs H Q E →
      ∃ t, PSs (cxOf CX0 PP w K mg base N qual (defScope st) f cdv A outer s H E).nox (defBody st) t ∧ t { nx := fun _ H' => Q .non H', rt := Q } (start N vs) H) : FnOk PP w K mg base CX0 (k + 1) f fd ps sp := by
  refine F.ok S len fun cdv A outer s H vs Q E hr h => ?_
  obtain ⟨t, h1, h2⟩ := hbody cdv A outer s H vs Q E hr h
  exact ⟨t, h1.nox, h2⟩
/-- isinstance(an int, int | bool | str ..) -/
theorem isi_b {K : PySem.W.Frag} {H : Hp} {x : V} {a b : String} {r : Bool} {Q : VK} (hx : TyX K H x (.type a)) (hk : kitB a b = some r) (q : Q (.bl r) H) : rIsi K [x, .ty b] H Q := ⟨x, .ty b, _, _, r, rfl, .ty b, hx, kit_ty hk, q⟩

/-! ### checks -/
def spWhole : Sp := fun vs H Q _ => ∃ n : Int, vs = [.int n] ∧ Q (.bl true) H
theorem sc_is_whole : FnScope ["value"] ["value"] (defScope s_is_whole) := ⟨rfl, rfl, rfl, by decide +kernel, rfl, by decide +kernel, by decide +kernel⟩
theorem has_is_whole (T : Ctx K mg) : Has w K mg base CX0 "is_whole" 1 ["value"] spWhole := by
  refine has_of (st := s_is_whole) (f := He.ga K "is_whole") T.d_is_whole T.g_is_whole (fun _ _ _ _ _ _ us hl => match us, hl with | [_], _ => rfl) fun fd F => ?_
  refine ok0 F sc_is_whole (fun vs H Q E h => ?_) (fun cdv A outer s H vs Q E hr h => ?_)
  · obtain ⟨n, rfl, _⟩ := h
    rfl
  · obtain ⟨n, rfl, k⟩ := h
    refine ⟨_, pss_one (ps_ret (pe_and (pe_callB call_isi (by rfl) T.b_isinstance (by decide +kernel) (pa_cons (pv 0) (pa_cons (pe_bltn (by rfl) T.b_int (by decide +kernel) (v := .ty "int") rfl) pa_nil)))
      (pe_one (pe_not (pe_callB call_isi (by rfl) T.b_isinstance (by decide +kernel) (pa_cons (pv 0) (pa_cons (pe_bltn (by rfl) T.b_bool (by decide +kernel) (v := .ty "bool") rfl) pa_nil))))))), ?_⟩
    refine ⟨_, rfl, _, _, _, _, true, rfl, .ty "int", .base (.int n), kit_ty (by decide +kernel), true, rfl, iteT ?_⟩
    exact ⟨_, rfl, _, _, _, _, false, rfl, .ty "bool", .base (.int n), kit_ty (by decide +kernel), false, rfl, k⟩

def spWithin : Sp := fun vs H Q _ => ∃ n lo hi : Int, vs = [.int n, .int lo, .int hi] ∧ Q (.bl (decide (lo ≤ n ∧ n ≤ hi))) H
theorem sc_is_within : FnScope ["value", "low", "high"] ["value", "low", "high"] (defScope s_is_within) := ⟨rfl, rfl, rfl, by decide +kernel, rfl, by decide +kernel, by decide +kernel⟩
theorem has_is_within (T : Ctx K mg) : Has w K mg base CX0 "is_within" 2 ["value", "low", "high"] spWithin := by
  obtain ⟨f1, fd1, m1, kp1, F1, b1⟩ := has_is_whole (w := w) (base := base) T
  refine has_of (st := s_is_within) (f := He.ga K "is_within") T.d_is_within T.g_is_within (fun _ _ _ _ _ _ us hl => match us, hl with | [_, _, _], _ => rfl) fun fd F => ?_
  refine ok0 F sc_is_within (fun vs H Q E h => ?_) (fun cdv A outer s H vs Q E hr h => ?_)
  · obtain ⟨n, lo, hi, rfl, _⟩ := h
    rfl
  · obtain ⟨n, lo, hi, rfl, k⟩ := h
    refine ⟨_, pss_one (ps_ret (pe_and (pe_call F1 hr (by rfl) m1 kp1 b1 .nil pass0 (pa_cons (pv 0) pa_nil)) (pe_one (pe_chain op_le op_le (pv 1) (pv 0) (pv 2))))), ?_⟩
    refine ⟨_, rfl, n, rfl, true, rfl, iteT ?_⟩
    refine ⟨_, rfl, _, rfl, _, _, rfl, rfl, _, rfl, ?_⟩
    by_cases c : lo ≤ n
    · rw [decide_eq_true c]
      refine iteT ⟨_, rfl, _, _, rfl, rfl, ?_⟩
      have e : decide (lo ≤ n ∧ n ≤ hi) = decide (n ≤ hi) := by simp [c]
      rw [e] at k
      exact k
    · rw [decide_eq_false c]
      refine iteF ?_
      have e : decide (lo ≤ n ∧ n ≤ hi) = false := by simp [c]
      rw [e] at k
      exact k
def spCount : Sp := fun vs H Q _ => ∃ n : Int, vs = [.int n] ∧ Q (.bl (decide (0 ≤ n))) H
theorem sc_is_count : FnScope ["value"] ["value"] (defScope s_is_count) := ⟨rfl, rfl, rfl, by decide +kernel, rfl, by decide +kernel, by decide +kernel⟩
theorem has_is_count (T : Ctx K mg) : Has w K mg base CX0 "is_count" 2 ["value"] spCount := by
  obtain ⟨f1, fd1, m1, kp1, F1, b1⟩ := has_is_whole (w := w) (base := base) T
  refine has_of (st := s_is_count) (f := He.ga K "is_count") T.d_is_count T.g_is_count (fun _ _ _ _ _ _ us hl => match us, hl with | [_], _ => rfl) fun fd F => ?_
  refine ok0 F sc_is_count (fun vs H Q E h => ?_) (fun cdv A outer s H vs Q E hr h => ?_)
  · obtain ⟨n, rfl, _⟩ := h
    rfl
  · obtain ⟨n, rfl, k⟩ := h
    refine ⟨_, pss_one (ps_ret (pe_and (pe_call F1 hr (by rfl) m1 kp1 b1 .nil pass0 (pa_cons (pv 0) pa_nil)) (pe_one (pe_cmpR op_ge (pv 0) pe_int (nomark _))))), ?_⟩
    exact ⟨_, rfl, n, rfl, true, rfl, iteT ⟨_, rfl, _, _, rfl, rfl, k⟩⟩
/-- a list or a tuple stands at a -/
def RowAt (H : Hp) (a : Addr) : Prop := (∃ xs, H a = some (.lst xs)) ∨ ∃ xs, H a = some (.tup xs)
def spRow : Sp := fun vs H Q _ => ∃ a, vs = [.ref a] ∧ RowAt H a ∧ ∀ H', Ex H H' → Q (.bl true) H'
theorem sc_is_row : FnScope ["value"] ["value"] (defScope s_is_row) := ⟨rfl, rfl, rfl, by decide +kernel, rfl, by decide +kernel, by decide +kernel⟩
theorem has_is_row (T : Ctx K mg) : Has w K mg base CX0 "is_row" 1 ["value"] spRow := by
  refine has_of (st := s_is_row) (f := He.ga K "is_row") T.d_is_row T.g_is_row (fun _ _ _ _ _ _ us hl => match us, hl with | [_], _ => rfl) fun fd F => ?_
  refine ok0 F sc_is_row (fun vs H Q E h => ?_) (fun cdv A outer s H vs Q E hr h => ?_)
  · obtain ⟨a, rfl, _⟩ := h
    rfl
  · obtain ⟨a, rfl, ha, k⟩ := h
    refine ⟨_, pss_one (ps_ret (pe_callB call_isiT (by rfl) T.b_isinstance (by decide +kernel) (pa_cons (pv 0) (pa_cons (pe_tup (pa_cons (pe_bltn (by rfl) T.b_tuple (by decide +kernel) (v := .ty "tuple") rfl) (pa_cons (pe_bltn (by rfl) T.b_list (by decide +kernel) (v := .ty "list") rfl) pa_nil))) pa_nil)))), ?_⟩
    refine ⟨_, rfl, (by show 2 ≤ sizeLine; decide), fun p hp => ?_⟩
    have hk : ∀ o, H a = some o → upd H p (.tup [.ty "tuple", .ty "list"]) a = some o := fun o e => by rw [upd_ne (ne_of_none e hp)]; exact e
    rcases ha with ⟨xs, e⟩ | ⟨xs, e⟩
    · exact ⟨_, p, _, _, _, true, rfl, upd_same, .cons (.ty "tuple") (.cons (.ty "list") .nil), .base (.lst (hk _ e)), kitAny_cons (kit_ty (by decide +kernel : kitB "list" "tuple" = some false)) (fun _ => kitAny_cons (kit_ty (by decide +kernel : kitB "list" "list" = some true)) (fun h => nomatch h) fun _ => rfl) (fun h => nomatch h), k _ (Ex.new hp)⟩
    · exact ⟨_, p, _, _, _, true, rfl, upd_same, .cons (.ty "tuple") (.cons (.ty "list") .nil), .base (.tup (hk _ e)), kitAny_cons (kit_ty (by decide +kernel : kitB "tuple" "tuple" = some true)) (fun h => nomatch h) (fun _ => rfl), k _ (Ex.new hp)⟩
def spPair : Sp := fun vs H Q _ => ∃ a x y, vs = [.ref a] ∧ H a = some (.tup [x, y]) ∧ ∀ H', Ex H H' → Q (.bl true) H'
theorem sc_is_pair : FnScope ["value"] ["value"] (defScope s_is_pair) := ⟨rfl, rfl, rfl, by decide +kernel, rfl, by decide +kernel, by decide +kernel⟩
theorem has_is_pair (T : Ctx K mg) : Has w K mg base CX0 "is_pair" 2 ["value"] spPair := by
  obtain ⟨f1, fd1, m1, kp1, F1, b1⟩ := has_is_row (w := w) (base := base) T
  refine has_of (st := s_is_pair) (f := He.ga K "is_pair") T.d_is_pair T.g_is_pair (fun _ _ _ _ _ _ us hl => match us, hl with | [_], _ => rfl) fun fd F => ?_
  refine ok0 F sc_is_pair (fun vs H Q E h => ?_) (fun cdv A outer s H vs Q E hr h => ?_)
  · obtain ⟨a, x, y, rfl, _⟩ := h
    rfl
  · obtain ⟨a, x, y, rfl, ha, k⟩ := h
    refine ⟨_, pss_one (ps_ret (pe_and (pe_call F1 hr (by rfl) m1 kp1 b1 .nil pass0 (pa_cons (pv 0) pa_nil)) (pe_one (pe_cmpR op_eq (pe_callB call_len_seq (by rfl) T.b_len PySem.boot_len (pa_cons (pv 0) pa_nil)) pe_int (nomark _))))), ?_⟩
    refine ⟨_, rfl, a, rfl, .inr ⟨_, ha⟩, fun H1 e1 => ⟨true, rfl, iteT ?_⟩⟩
    refine ⟨_, rfl, a, [x, y], rfl, .inr (SqT.of (e1 _ _ ha)), rfl, ?_⟩
    show Q (V.bl (decide (V.int 2 = V.int 2))) H1
    rw [decide_eq_true rfl]
    exact k H1 e1
def spRun : Sp := fun vs H Q _ => ∃ (s : Int) (a : Addr) (x y : Int), vs = [.int s, .ref a] ∧ H a = some (.tup [.int x, .int y]) ∧ ∀ H', Ex H H' → Q (.bl (decide (0 ≤ x ∧ x < y ∧ y ≤ s))) H'
theorem sc_is_run : FnScope ["size", "run"] ["size", "run"] (defScope s_is_run) := ⟨rfl, rfl, rfl, by decide +kernel, rfl, by decide +kernel, by decide +kernel⟩
theorem has_is_run (T : Ctx K mg) : Has w K mg base CX0 "is_run" 3 ["size", "run"] spRun := by
  obtain ⟨f1, fd1, m1, kp1, F1, b1⟩ := has_is_pair (w := w) (base := base) T
  obtain ⟨f2, fd2, m2, kp2, F2, b2⟩ := has_is_within (w := w) (base := base) T
  refine has_of (st := s_is_run) (f := He.ga K "is_run") T.d_is_run T.g_is_run (fun _ _ _ _ _ _ us hl => match us, hl with | [_, _], _ => rfl) fun fd F => ?_
  refine ok0 F sc_is_run (fun vs H Q E h => ?_) (fun cdv A outer s H vs Q E hr h => ?_)
  · obtain ⟨s, a, x, y, rfl, _⟩ := h
    rfl
  · obtain ⟨s, a, x, y, rfl, ha, k⟩ := h
    refine ⟨_, pss_cons (ps_if (pt_not (pt_val (pe_call F1 hr (by rfl) m1 kp1 b1 .nil pass0 (pa_cons (pv 1) pa_nil)))) (pss_one (ps_ret pe_bl)) pss_nil)
      (pss_one (ps_ret (pe_and (pe_call F2 hr (by rfl) m2 kp2 b2 .nil pass0 (pa_cons (pe_ix ix_tup (pv 1) pe_int (fun _ _ => rfl)) (pa_cons pe_int (pa_cons (pv 0) pa_nil))))
        (pe_and (pe_call F2 hr (by rfl) m2 kp2 b2 .nil pass0 (pa_cons (pe_ix ix_tup (pv 1) pe_int (fun _ _ => rfl)) (pa_cons pe_int (pa_cons (pv 0) pa_nil))))
          (pe_one (pe_cmpR op_lt (pe_ix ix_tup (pv 1) pe_int (fun _ _ => rfl)) (pe_ix ix_tup (pv 1) pe_int (fun _ _ => rfl)) (nomark _))))))), ?_⟩
    refine ⟨_, rfl, a, _, _, rfl, ha, fun H1 e1 => ⟨true, rfl, iteF ?_⟩⟩
    have h1 := e1 _ _ ha
    have t1 : SqT K H1 a [V.int x, V.int y] := SqT.of h1
    refine ⟨_, rfl, a, _, _, _, rfl, rfl, t1, rfl, _, rfl, x, 0, s, rfl, _, rfl, ?_⟩
    have k1 := k H1 e1
    by_cases c1 : 0 ≤ x ∧ x ≤ s
    · rw [decide_eq_true c1]
      refine iteT ?_
      refine ⟨_, rfl, a, _, _, _, rfl, rfl, t1, rfl, _, rfl, y, 0, s, rfl, _, rfl, ?_⟩
      by_cases c2 : 0 ≤ y ∧ y ≤ s
      · rw [decide_eq_true c2]
        refine iteT ?_
        refine ⟨_, rfl, a, _, _, _, rfl, rfl, t1, rfl, _, rfl, a, _, _, _, rfl, rfl, t1, rfl, _, _, rfl, rfl, ?_⟩
        have e : decide (0 ≤ x ∧ x < y ∧ y ≤ s) = decide (x < y) := by
          apply decide_eq_decide.mpr
          omega
        rw [e] at k1
        exact k1
      · rw [decide_eq_false c2]
        refine iteF ?_
        have e : decide (0 ≤ x ∧ x < y ∧ y ≤ s) = false := decide_eq_false (by omega)
        rw [e] at k1
        exact k1
    · rw [decide_eq_false c1]
      refine iteF ?_
      have e : decide (0 ≤ x ∧ x < y ∧ y ≤ s) = false := decide_eq_false (by omega)
      rw [e] at k1
      exact k1
end
end K00


set_option Elab.async false
set_option linter.all false
set_option maxRecDepth 100000
set_option maxHeartbeats 4000000
namespace K00
open PySem PySem.Spec PyProof.Rows L2
open Evl (Ex)
theorem Ex.lst {K : PySem.W.Frag} {H H' : Hp} {a : Addr} {xs : List V} (e : Ex H H') (h : H a = some (.lst xs)) : SqL K H' a xs := SqL.of (e _ _ h)
theorem Ex.tup {K : PySem.W.Frag} {H H' : Hp} {a : Addr} {xs : List V} (e : Ex H H') (h : H a = some (.tup xs)) : SqT K H' a xs := SqT.of (e _ _ h)
section
variable {w : World} {K : PySem.W.Frag} {mg : Str → Option Value} {base : Heap}
/-! ### first_wrong: where nothing is wrong -/
def spFirst : Sp := fun vs H Q _ => ∃ a xs, vs = [.ref a] ∧ H a = some (.lst xs) ∧ (∀ (i : Nat) (x : V), xs[i]? = some x → x = V.bl true) ∧ ∀ H', Ex H H' → Q .non H'
theorem sc_first_wrong : FnScope ["flags", "place", "flag"] ["flags"] (defScope s_first_wrong) := ⟨rfl, rfl, rfl, by decide +kernel, rfl, by decide +kernel, by decide +kernel⟩
theorem has_first_wrong (T : Ctx K mg) : Has w K mg base CX0 "first_wrong" 1 ["flags"] spFirst := by
  refine has_of (st := s_first_wrong) (f := He.ga K "first_wrong") T.d_first_wrong T.g_first_wrong (fun _ _ _ _ _ _ us hl => match us, hl with | [_], _ => rfl) fun fd F => ?_
  refine ok0 F sc_first_wrong (fun vs H Q E h => ?_) (fun cdv A outer s H vs Q E hr h => ?_)
  · obtain ⟨a, xs, rfl, _⟩ := h
    rfl
  · obtain ⟨a, xs, rfl, ha, hx, k⟩ := h
    have nd := sc_first_wrong.nd
    refine ⟨_, pss_cons (ps_for PassesOwn.never rfl (pi_enum (by rfl) T.b_enumerate (pa_cons (pv 0) pa_nil)) (pg_tup (by rfl) (pgs_cons (pg_name (i := 1) nd rfl (.inl rfl)) (pgs_cons (pg_name (i := 2) nd rfl (.inl rfl)) pgs_nil)))
        (pss_one (ps_if (pt_not (pt_val (pv 2))) (pss_one (ps_ret (pv 1))) pss_nil)))
      (pss_one (ps_ret pe_non)), ?_⟩
    refine ⟨_, rfl, a, xs, rfl, SqL.of ha, for_it walk_enum (fun i σ H' => ∃ p f : Option V, σ = [some (.ref a), p, f] ∧ Ex H H') ⟨none, none, rfl, Ex.refl H⟩ (fun i σ H' _ ⟨_, _, _, e⟩ => Ex.lst e ha) ?_ ?_⟩
    · rintro i v σ H1 H2 hi ⟨p, f, rfl, e⟩ ⟨t, x, y, rfl, ht, rfl, hx1, hy⟩
      cases hx1
      have := hx i y hy
      subst this
      refine ⟨t, _, rfl, SqT.of upd_same, rfl, _, _, rfl, _, _, rfl, rfl, ?_⟩
      refine ⟨_, rfl, true, rfl, iteF ?_⟩
      exact ⟨_, _, rfl, e.trans (Ex.new ht)⟩
    · rintro σ H1 ⟨p, f, rfl, e⟩
      exact k H1 e

theorem asc_eq : ∀ {l l' : List Int}, l.Pairwise (· < ·) → l'.Pairwise (· < ·) → (∀ k, k ∈ l ↔ k ∈ l') → l = l'
  | [], [], _, _, _ => rfl
  | [], y :: ys, _, _, h => absurd ((h y).mpr (List.mem_cons_self ..)) (by simp)
  | x :: xs, [], _, _, h => absurd ((h x).mp (List.mem_cons_self ..)) (by simp)
  | x :: xs, y :: ys, h1, h2, h => by
    have a1 := List.pairwise_cons.mp h1
    have a2 := List.pairwise_cons.mp h2
    have e : x = y := by
      rcases List.mem_cons.mp ((h x).mp (List.mem_cons_self ..)) with e | e
      · exact e
      · rcases List.mem_cons.mp ((h y).mpr (List.mem_cons_self ..)) with e' | e'
        · exact e'.symm
        · have := a1.1 y e'
          have := a2.1 x e
          omega
    subst e
    rw [asc_eq a1.2 a2.2 fun k => ?_]
    have hk := h k
    constructor
    · intro q
      have := a1.1 k q
      rcases List.mem_cons.mp (hk.mp (List.mem_cons_of_mem _ q)) with z | z
      · omega
      · exact z
    · intro q
      have := a2.1 k q
      rcases List.mem_cons.mp (hk.mpr (List.mem_cons_of_mem _ q)) with z | z
      · omega
      · exact z
theorem take_succ_mem {ns : List Int} {i : Nat} {z : Int} (h : ns[i]? = some z) (k : Int) : k ∈ ns.take (i + 1) ↔ k ∈ ns.take i ∨ k = z := by
  have e : ns.take (i + 1) = ns.take i ++ [z] := by
    rw [List.take_add_one, h]
    rfl
  rw [e, List.mem_append, List.mem_singleton]
theorem asc_new {ns : List Int} {i : Nat} {z : Int} (hp : ns.Pairwise (· < ·)) (h : ns[i]? = some z) : z ∉ ns.take i := by
  intro q
  obtain ⟨j, hj, e⟩ := List.mem_iff_getElem.mp q
  have hi := (List.getElem?_eq_some_iff.mp h)
  obtain ⟨hil, hie⟩ := hi
  rw [List.length_take] at hj
  have hji : j < i := by omega
  have := List.pairwise_iff_getElem.mp hp j i (by omega) hil hji
  rw [List.getElem_take] at e
  omega
theorem map_int_get {ns : List Int} {i : Nat} {y : V} (h : (ns.map V.int)[i]? = some y) : ∃ z, ns[i]? = some z ∧ y = V.int z := by
  rw [List.getElem?_map] at h
  cases e : ns[i]? with
  | none => rw [e] at h; cases h
  | some z => rw [e] at h; exact ⟨z, rfl, (Option.some.inj h).symm⟩
/-! ### set_of: of ascending parts -/
def spSetOf : Sp := fun vs H Q _ => ∃ (m : Int) (a : Addr) (ns : List Int), vs = [.int m, .ref a] ∧ H a = some (.lst (ns.map V.int)) ∧ ns.Pairwise (· < ·) ∧ (∀ n ∈ ns, 0 ≤ n ∧ n < m) ∧ 0 ≤ m ∧ ns.length < 60 ∧
  ∀ H' p, Ex H H' → H p = none → H' p = some (.tup (ns.map V.int)) → Q (.ref p) H'
theorem sc_set_of : FnScope ["many", "parts", "seen", "place", "part"] ["many", "parts"] (defScope s_set_of) := ⟨rfl, rfl, rfl, by decide +kernel, rfl, by decide +kernel, by decide +kernel⟩
theorem has_set_of (T : Ctx K mg) : Has w K mg base CX0 "set_of" 3 ["many", "parts"] spSetOf := by
  obtain ⟨f1, fd1, m1, kp1, F1, b1⟩ := has_is_count (w := w) (base := base) T
  obtain ⟨f2, fd2, m2, kp2, F2, b2⟩ := has_is_row (w := w) (base := base) T
  obtain ⟨f3, fd3, m3, kp3, F3, b3⟩ := has_is_within (w := w) (base := base) T
  refine has_of (st := s_set_of) (f := He.ga K "set_of") T.d_set_of T.g_set_of (fun _ _ _ _ _ _ us hl => match us, hl with | [_, _], _ => rfl) fun fd F => ?_
  refine ok0 F sc_set_of (fun vs H Q E h => ?_) (fun cdv A outer s H vs Q E hr h => ?_)
  · obtain ⟨m, a, ns, rfl, _⟩ := h
    rfl
  · obtain ⟨m, a, ns, rfl, ha, hp, hb, hm, hl, k⟩ := h
    have nd := sc_set_of.nd
    have hr1 := hr.mono (show 1 ≤ 2 by decide)
    refine ⟨_, pss_cons (ps_if (pt_not (pt_val (pe_call F1 hr (by rfl) m1 kp1 b1 .nil pass0 (pa_cons (pv 0) pa_nil)))) (pss_one ps_never) pss_nil)
      (pss_cons (ps_if (pt_not (pt_val (pe_call F2 hr1 (by rfl) m2 kp2 b2 .nil pass0 (pa_cons (pv 1) pa_nil)))) (pss_one ps_never) pss_nil)
      (pss_cons (ps_set (i := 2) nd rfl (.inl rfl) (pe_callTy0 cr_set0 (by rfl) T.b_set (by decide +kernel)))
      (pss_cons (ps_for PassesOwn.never rfl (pi_enum (by rfl) T.b_enumerate (pa_cons (pv 1) pa_nil)) (pg_tup (by rfl) (pgs_cons (pg_name (i := 3) nd rfl (.inl rfl)) (pgs_cons (pg_name (i := 4) nd rfl (.inl rfl)) pgs_nil)))
        (pss_cons (ps_if (PW.pt (pw_or (pt_not (pt_val (pe_call F3 hr (by rfl) m3 kp3 b3 .nil pass0 (pa_cons (pv 4) (pa_cons pe_int (pa_cons (pe_op op_sub (pv 0) pe_int) pa_nil)))))) (pw_or1 (pt_cmpR or_sin (pv 4) (pv 2) (by rfl))))) (pss_one ps_never) pss_nil)
        (pss_one (ps_expr (pe_sadd (pv 2) (pa_cons (pv 4) pa_nil))))))
      (pss_one (ps_ret (pe_callTy call_tuple_of (by rfl) T.b_tuple (by decide +kernel) (pa_cons (pe_callB (cr_sortedSet rfl) (by rfl) T.b_sorted (by decide +kernel) (pa_cons (pv 2) pa_nil)) pa_nil))))))), ?_⟩
    refine ⟨_, rfl, m, rfl, decide (0 ≤ m), rfl, ?_⟩
    rw [decide_eq_true hm]
    refine iteF ?_
    refine ⟨_, rfl, a, rfl, .inl ⟨_, ha⟩, fun H1 e1 => ⟨true, rfl, iteF ?_⟩⟩
    refine ⟨rfl, fun q hq => ?_⟩
    have e2 : Ex H (upd H1 q (SetO w q (fun _ => false) 0)) := e1.trans (Ex.new hq)
    have hq0 : H q = none := Evl.fresh_back e1 hq
    refine ⟨_, rfl, a, _, rfl, Ex.lst e2 ha, for_it walk_enum (fun i σ H' => ∃ (p f : Option V) (S : Int → Bool), σ = [some (.int m), some (.ref a), some (.ref q), p, f] ∧ Ex H H' ∧ H' q = some (SetO w q S i) ∧ ∀ j, S j = true ↔ j ∈ ns.take i)
      ⟨none, none, _, rfl, e2, upd_same, fun j => by simp⟩ (fun i σ H' _ ⟨_, _, _, _, e, _⟩ => Ex.lst e ha) ?_ ?_⟩
    · rintro i v σ H2 H3 hi ⟨p, f, S, rfl, e3, hS, hSm⟩ ⟨t, x, y, rfl, ht, rfl, hx1, hy⟩
      cases hx1
      obtain ⟨z, hz, rfl⟩ := map_int_get hy
      have hzb := hb z (List.mem_of_getElem? hz)
      have hqt : q ≠ t := ne_of_none hS ht
      have hSf : S z = false := by
        cases c : S z with
        | false => rfl
        | true => exact absurd ((hSm z).mp c) (asc_new hp hz)
      have hil : i < ns.length := (List.getElem?_eq_some_iff.mp hz).1
      refine ⟨t, _, rfl, SqT.of upd_same, rfl, _, _, rfl, _, _, rfl, rfl, ?_⟩
      refine ⟨_, rfl, _, rfl, _, _, rfl, rfl, z, 0, m - 1, rfl, decide (0 ≤ z ∧ z ≤ m - 1), rfl, ?_⟩
      rw [decide_eq_true (show 0 ≤ z ∧ z ≤ m - 1 by omega)]
      refine iteF ?_
      refine ⟨_, rfl, _, rfl, z, q, S, i, rfl, rfl, by rw [upd_ne hqt]; exact hS, S z, rfl, ?_⟩
      rw [hSf]
      refine iteF ?_
      refine ⟨_, rfl, ⟨q, S, i, rfl, by rw [upd_ne hqt]; exact hS⟩, _, rfl, q, z, S, i, rfl, rfl, by rw [upd_ne hqt]; exact hS, ?_, ?_⟩
      · show i + 1 < 4096
        omega
      · rw [hSf, if_neg Bool.false_ne_true]
        refine ⟨_, _, _, rfl, Evl.Ex.mut (e3.trans (Ex.new ht)) hq0, upd_same, fun j => ?_⟩
        rw [take_succ_mem hz, Bool.or_eq_true, decide_eq_true_iff, hSm]
    · rintro σ H2 ⟨p, f, S, rfl, e3, hS, hSm⟩
      rw [List.length_map] at hS hSm
      rw [List.take_length] at hSm
      refine ⟨_, rfl, q, S, _, rfl, hS, by omega, fun ns' p' hp' hmem hlen hnew => ?_⟩
      have en : ns' = ns := asc_eq hp' hp fun j => (hmem j).trans (hSm j)
      subst en
      refine ⟨p', _, rfl, .inl ⟨SqL.of upd_same, fun l hl2 => ?_⟩⟩
      exact k _ _ ((e3.trans (Ex.new hnew)).trans (Ex.new hl2)) (Evl.fresh_back (e3.trans (Ex.new hnew)) hl2) upd_same
end
end K00


set_option Elab.async false
set_option linter.all false
set_option maxRecDepth 100000
set_option maxHeartbeats 4000000
namespace K00
open PySem PySem.Spec PyProof.Rows L2
open Evl (Ex)
/-- vs stand for the runs rs, each one a tuple -/
structure Runs (H : Hp) (vs : List V) (rs : List (Int × Int)) : Prop where
  len : vs.length = rs.length
  at_ : ∀ (i : Nat) (r : Int × Int), rs[i]? = some r → ∃ t, vs[i]? = some (.ref t) ∧ H t = some (.tup [.int r.1, .int r.2])
theorem Runs.mono {H H' : Hp} {vs : List V} {rs : List (Int × Int)} (h : Runs H vs rs) (e : ∀ t xs, H t = some (.tup xs) → H' t = some (.tup xs)) : Runs H' vs rs :=
  ⟨h.len, fun i r hi => let ⟨t, a, b⟩ := h.at_ i r hi; ⟨t, a, e _ _ b⟩⟩
theorem Runs.ex {H H' : Hp} {vs : List V} {rs : List (Int × Int)} (h : Runs H vs rs) (e : Ex H H') : Runs H' vs rs := h.mono fun _ _ q => e _ _ q
theorem Runs.get {H : Hp} {vs : List V} {rs : List (Int × Int)} (h : Runs H vs rs) {i : Nat} {v : V} (hv : vs[i]? = some v) : ∃ t r, rs[i]? = some r ∧ v = .ref t ∧ H t = some (.tup [.int r.1, .int r.2]) := by
  have hi : i < rs.length := by
    rw [← h.len]
    exact (List.getElem?_eq_some_iff.mp hv).1
  obtain ⟨t, a, b⟩ := h.at_ i rs[i] (by simp [hi])
  rw [hv] at a
  exact ⟨t, rs[i], by simp [hi], Option.some.inj a, b⟩
/-- a run over a row of s places -/
def Fits (s : Int) (r : Int × Int) : Prop := 0 ≤ r.1 ∧ r.1 < r.2 ∧ r.2 ≤ s
section
variable {w : World} {K : PySem.W.Frag} {mg : Str → Option Value} {base : Heap}
theorem tYesI {σ : L2.St} {H : Hp} {F G : Hp → Prop} (h : F H) : tYes σ H (fun b H3 => if b = true then F H3 else G H3) := by
  show if true = true then F H else G H
  exact iteT h
def rTupT (K : PySem.W.Frag) : List V → Hp → VK → Prop := fun xs H Q => ∃ a ys, xs = [.ref a] ∧ SqT K H a ys ∧ Q (.ref a) H
theorem cr_tupT {X : Cx} (h : X.K = K) : CallR X (.type "tuple") (rTupT K) := by
  subst h
  exact call_tupleT
def spChecked : Sp := fun vs H Q _ => ∃ (s : Int) (a : Addr) (us : List V) (rs : List (Int × Int)), vs = [.int s, .ref a] ∧ H a = some (.lst us) ∧ Runs H us rs ∧ (∀ r ∈ rs, Fits s r) ∧ us.length ≤ 1000 ∧
  ∀ H' p, Ex H H' → H p = none → H' p = some (.tup us) → Q (.ref p) H'
theorem sc_checked_runs : FnScope ["size", "runs", "place", "run"] ["size", "runs"] (defScope s_checked_runs) := ⟨rfl, rfl, rfl, by decide +kernel, rfl, by decide +kernel, by decide +kernel⟩
theorem has_checked_runs (T : Ctx K mg) : Has w K mg base CX0 "checked_runs" 4 ["size", "runs"] spChecked := by
  obtain ⟨f1, fd1, m1, kp1, F1, b1⟩ := has_is_row (w := w) (base := base) T
  obtain ⟨f2, fd2, m2, kp2, F2, b2⟩ := has_first_wrong (w := w) (base := base) T
  obtain ⟨f3, fd3, m3, kp3, F3, b3⟩ := has_is_run (w := w) (base := base) T
  refine has_of (st := s_checked_runs) (f := He.ga K "checked_runs") T.d_checked_runs T.g_checked_runs (fun _ _ _ _ _ _ us hl => match us, hl with | [_, _], _ => rfl) fun fd F => ?_
  refine ok0 F sc_checked_runs (fun vs H Q E h => ?_) (fun cdv A outer s H vs Q E hr h => ?_)
  · obtain ⟨m, a, us, rs, rfl, _⟩ := h
    rfl
  · obtain ⟨m, a, us, rs, rfl, ha, hR, hF, hl, k⟩ := h
    have nd := sc_checked_runs.nd
    have hr1 := hr.mono (show 1 ≤ 3 by decide)
    refine ⟨_, pss_cons (ps_if (pt_not (pt_val (pe_call F1 hr1 (by rfl) m1 kp1 b1 .nil pass0 (pa_cons (pv 1) pa_nil)))) (pss_one ps_never) pss_nil)
      (pss_cons (ps_set (i := 2) nd rfl (.inl rfl) (pe_call F2 hr1 (by rfl) m2 kp2 b2 .nil pass0 (pa_cons
        (pe_lc (own := [("run", 3)]) (g := gName 3) (tt := tYes) rfl nd (pi_list (pv 1)) (blkOk_by (own := [("run", 3)]) (N := ["size", "runs", "place", "run"]) (sc := defScope s_checked_runs) (by decide +kernel)) (fun _ _ _ _ _ => pg_name (i := 3) nd rfl (Or.inl rfl)) (fun _ _ _ _ _ => pts_nil)
          (fun _ _ _ _ _ => pe_call F3 hr (by rfl) m3 kp3 b3 .nil pass0 (pa_cons (pv 0) (pa_cons (pv 3) pa_nil)))) pa_nil)))
      (pss_cons (ps_if (pt_cmpR op_notN (pv 2) pe_non (nomark _)) (pss_one ps_never) pss_nil)
      (pss_one (ps_ret (pe_callTy call_tuple_of (by rfl) T.b_tuple (by decide +kernel) (pa_cons
        (pe_lc (own := [("run", 3)]) (g := gName 3) (tt := tYes) rfl nd (pi_list (pv 1)) (blkOk_by (own := [("run", 3)]) (N := ["size", "runs", "place", "run"]) (sc := defScope s_checked_runs) (by decide +kernel)) (fun _ _ _ _ _ => pg_name (i := 3) nd rfl (Or.inl rfl)) (fun _ _ _ _ _ => pts_nil)
          (fun _ _ _ _ _ => pe_callTy (T := "tuple") (cr_tupT (K := K) rfl) (by rfl) T.b_tuple (by decide +kernel) (pa_cons (pv 3) pa_nil))) pa_nil)))))), ?_⟩
    refine ⟨_, rfl, a, rfl, .inl ⟨_, ha⟩, fun H1 e1 => ⟨true, rfl, iteF ?_⟩⟩
    refine ⟨_, rfl, a, rfl, ⟨_, Ex.lst e1 ha⟩, fun D hD => lc_list (xs := us) (fun i H' => Ex H H' ∧ H' D = some (.lst (List.replicate i (V.bl true)))) ⟨e1.trans (Ex.new hD), upd_same⟩ (fun i H' _ q => Ex.lst q.1 ha) ?_ ?_⟩
    · rintro i x H2 hx ⟨e2, hD2⟩
      obtain ⟨t, r, hr', rfl, ht⟩ := (hR.ex e2).get hx
      have hf := hF r (List.mem_of_getElem? hr')
      refine ⟨rfl, ?_⟩
      refine tYesI ?_
      refine ⟨_, rfl, _, rfl, m, t, r.1, r.2, rfl, ht, fun H3 e3 => ?_⟩
      have hil : i < us.length := (List.getElem?_eq_some_iff.mp hx).1
      refine ⟨_, e3 _ _ hD2, by rw [List.length_replicate]; exact small1000 (by omega), Evl.Ex.mut (e2.trans e3) (Evl.fresh_back e1 hD), ?_⟩
      rw [upd_same, decide_eq_true (show 0 ≤ r.1 ∧ r.1 < r.2 ∧ r.2 ≤ m from hf), List.replicate_succ']
    · rintro H2 ⟨e2, hD2⟩
      refine ⟨D, _, rfl, hD2, fun i x hx => ?_, fun H3 e3 => ?_⟩
      · rw [List.getElem?_replicate] at hx
        split at hx
        · exact (Option.some.inj hx).symm
        · cases hx
      · have e4 := e2.trans e3
        refine ⟨_, rfl, rfl, _, rfl, iteF ?_⟩
        refine ⟨_, rfl, a, rfl, ⟨_, Ex.lst e4 ha⟩, fun D2 hD2' => lc_list (xs := us) (fun i H' => Ex H H' ∧ H' D2 = some (.lst (us.take i))) ⟨e4.trans (Ex.new hD2'), upd_same⟩ (fun i H' _ q => Ex.lst q.1 ha) ?_ ?_⟩
        · rintro i x H5 hx ⟨e5, hD5⟩
          obtain ⟨t, r, hr', rfl, ht⟩ := (hR.ex e5).get hx
          refine ⟨rfl, ?_⟩
          refine tYesI ?_
          refine ⟨_, rfl, t, _, rfl, SqT.of ht, ?_⟩
          refine ⟨_, hD5, ?_, Evl.Ex.mut e5 (Evl.fresh_back e4 hD2'), ?_⟩
          · rw [List.length_take]
            exact small1000 (by omega)
          · rw [upd_same, List.take_add_one, hx]
            rfl
        · rintro H5 ⟨e5, hD5⟩
          rw [List.take_length] at hD5
          exact ⟨D2, us, rfl, .inl ⟨SqL.of hD5, fun l hl2 => k _ l (e5.trans (Ex.new hl2)) (Evl.fresh_back e5 hl2) upd_same⟩⟩
end
end K00


set_option Elab.async false
set_option linter.all false
set_option maxRecDepth 100000
set_option maxHeartbeats 4000000
namespace K00
open PySem PySem.Spec PyProof.Rows L2
open Evl (Ex)
/-! ### markets -/
theorem k_rs : ¬ (("runs" : Str) = "size") := by decide +kernel
theorem k_sr : ¬ (("size" : Str) = "runs") := by decide +kernel
theorem k_gs : ¬ (("gone" : Str) = "size") := by decide +kernel
theorem k_sg : ¬ (("size" : Str) = "gone") := by decide +kernel
theorem k_rg : ¬ (("runs" : Str) = "gone") := by decide +kernel
theorem k_gr : ¬ (("gone" : Str) = "runs") := by decide +kernel
def mflds (s : Int) (pr pg : Addr) : List (Str × V) := putF "gone" (.ref pg) (putF "runs" (.ref pr) (putF "size" (.int s) []))
theorem mf_size (s : Int) (pr pg : Addr) : (mflds s pr pg).lookup ("size" : Str) = some (.int s) := by
  unfold mflds
  rw [lookup_putF, if_neg k_sg, lookup_putF, if_neg k_sr, lookup_putF, if_pos rfl]
theorem mf_runs (s : Int) (pr pg : Addr) : (mflds s pr pg).lookup ("runs" : Str) = some (.ref pr) := by
  unfold mflds
  rw [lookup_putF, if_neg k_rg, lookup_putF, if_pos rfl]
theorem mf_gone (s : Int) (pr pg : Addr) : (mflds s pr pg).lookup ("gone" : Str) = some (.ref pg) := by
  unfold mflds
  rw [lookup_putF, if_pos rfl]
theorem mf_no (s : Int) (pr pg : Addr) {m : Str} (h1 : ¬ m = "size") (h2 : ¬ m = "runs") (h3 : ¬ m = "gone") : (mflds s pr pg).lookup m = none := by
  unfold mflds
  rw [lookup_putF, if_neg h3, lookup_putF, if_neg h2, lookup_putF, if_neg h1]
  all_goals rfl
/-- the class at C is the market's class of this kind -/
def IsM (K : PySem.W.Frag) (C : Addr) (kind : Str) : Prop := (C = He.ga K "Join" ∧ kind = "join") ∨ (C = He.ga K "Lap" ∧ kind = "lap")
section
variable {w : World} {K : PySem.W.Frag} {mg : Str → Option Value} {base : Heap} {C : Addr} {kind : Str}
theorem IsM.cl (h : IsM K C kind) (T : Ctx K mg) : Cls K C := by
  rcases h with ⟨rfl, _⟩ | ⟨rfl, _⟩
  · exact T.cl_Join
  · exact T.cl_Lap
theorem IsM.nS (h : IsM K C kind) (T : Ctx K mg) : NoAttr K C "size" := by
  rcases h with ⟨rfl, _⟩ | ⟨rfl, _⟩
  · exact T.no_Join_size
  · exact T.no_Lap_size
theorem IsM.nR (h : IsM K C kind) (T : Ctx K mg) : NoAttr K C "runs" := by
  rcases h with ⟨rfl, _⟩ | ⟨rfl, _⟩
  · exact T.no_Join_runs
  · exact T.no_Lap_runs
theorem IsM.nG (h : IsM K C kind) (T : Ctx K mg) : NoAttr K C "gone" := by
  rcases h with ⟨rfl, _⟩ | ⟨rfl, _⟩
  · exact T.no_Join_gone
  · exact T.no_Lap_gone
theorem IsM.con (h : IsM K C kind) (T : Ctx K mg) : ∃ u, Con K C "KIND" (.str kind) u := by
  rcases h with ⟨rfl, rfl⟩ | ⟨rfl, rfl⟩
  · exact T.kind_Join
  · exact T.kind_Lap
/-- what a market is made of -/
structure MArg (H : Hp) (s : Int) (a g : Addr) (us : List V) (rs : List (Int × Int)) (ns : List Int) : Prop where
  ha : H a = some (.lst us)
  runs : Runs H us rs
  fits : ∀ r ∈ rs, Fits s r
  few : us.length ≤ 50
  hg : H g = some (.lst (ns.map V.int))
  asc : ns.Pairwise (· < ·)
  inn : ∀ n ∈ ns, 0 ≤ n ∧ n < us.length
  size : 1 ≤ s ∧ s ≤ 30
theorem asc_few : ∀ {ns : List Int} {lo m : Int}, ns.Pairwise (· < ·) → (∀ n ∈ ns, lo ≤ n ∧ n < m) → lo ≤ m → (ns.length : Int) ≤ m - lo
  | [], lo, m, _, _, h => by simp; omega
  | n :: ns, lo, m, hp, hb, h => by
    have hp' := List.pairwise_cons.mp hp
    have h0 := hb n (List.mem_cons_self ..)
    have := asc_few (ns := ns) (lo := n + 1) (m := m) hp'.2 (fun k hk => ⟨by have := hp'.1 k hk; omega, (hb k (List.mem_cons_of_mem _ hk)).2⟩) (by omega)
    rw [List.length_cons]
    push_cast
    omega
def spMarket (K : PySem.W.Frag) : Sp := fun vs H Q _ => ∃ (C x dx a g : Addr) (kind : Str) (s : Int) (us : List V) (rs : List (Int × Int)) (ns : List Int), vs = [.ref x, .int s, .ref a, .ref g] ∧ IsM K C kind ∧ H x = some (.ins C dx []) ∧ MArg H s a g us rs ns ∧
  ∀ H' pr pg, (∀ b o, b ≠ x → H b = some o → H' b = some o) → H pr = none → H pg = none → H' x = some (.ins C dx (mflds s pr pg)) → H' pr = some (.tup us) → H' pg = some (.tup (ns.map V.int)) → Q .non H'
theorem sc_Market_init : FnScope ["self", "size", "runs", "gone"] ["self", "size", "runs", "gone"] (defScope s_Market___init__) := ⟨rfl, rfl, rfl, by decide +kernel, rfl, by decide +kernel, by decide +kernel⟩
theorem ok_Market_init (T : Ctx K mg) {f : Addr} {fd : FuncData} {kws : List (Str × V)} (F : FunD K "__init__" "Market.__init__" (defArgs s_Market___init__) (defBody s_Market___init__) (defScope s_Market___init__) [] kws f fd) :
    FnOk PP w K mg base CX0 5 f fd ["self", "size", "runs", "gone"] (spMarket K) := by
  obtain ⟨f1, fd1, m1, kp1, F1, b1⟩ := has_is_within (w := w) (base := base) T
  obtain ⟨f2, fd2, m2, kp2, F2, b2⟩ := has_checked_runs (w := w) (base := base) T
  obtain ⟨f3, fd3, m3, kp3, F3, b3⟩ := has_set_of (w := w) (base := base) T
  obtain ⟨tg, hG⟩ := T.c_GREATEST_SIZE
  refine ok0 F sc_Market_init (fun vs H Q E h => ?_) (fun cdv A outer s0 H vs Q E hr h => ?_)
  · obtain ⟨C, x, dx, a, g, kind, s, us, rs, ns, rfl, _⟩ := h
    rfl
  · obtain ⟨C, x, dx, a, g, kind, s, us, rs, ns, rfl, hM, hx, A0, k⟩ := h
    have nd := sc_Market_init.nd
    have hr2 := hr.mono (show 2 ≤ 4 by decide)
    have hr3 := hr.mono (show 3 ≤ 4 by decide)
    refine ⟨_, pss_cons (ps_if (pt_not (pt_val (pe_call F1 hr2 (by rfl) m1 kp1 b1 .nil pass0 (pa_cons (pv 1) (pa_cons pe_int (pa_cons (pe_glob (v := .int 30) rfl hG ⟨_, rfl⟩) pa_nil)))))) (pss_one ps_never) pss_nil)
      (pss_cons (ps_fld (pv 0) (pv 1) rfl)
      (pss_cons (ps_fld (pv 0) (pe_call F2 hr (by rfl) m2 kp2 b2 .nil pass0 (pa_cons (pv 1) (pa_cons (pv 2) pa_nil))) rfl)
      (pss_one (ps_fld (pv 0) (pe_call F3 hr3 (by rfl) m3 kp3 b3 .nil pass0 (pa_cons (pe_callB call_len_seq (by rfl) T.b_len PySem.boot_len (pa_cons (pv 2) pa_nil)) (pa_cons (pv 3) pa_nil))) rfl)))), ?_⟩
    refine ⟨_, rfl, s, 1, 30, rfl, decide (1 ≤ s ∧ s ≤ 30), rfl, ?_⟩
    rw [decide_eq_true A0.size]
    refine iteF ?_
    refine ⟨_, rfl, _, rfl, x, C, dx, [], rfl, hx, hM.cl T, hM.nS T, (by show 0 < 1000; decide), ?_⟩
    have nax : a ≠ x := ne_of A0.ha hx (by intro z; cases z)
    have ngx : g ≠ x := ne_of A0.hg hx (by intro z; cases z)
    have ntx : ∀ t xs, H t = some (.tup xs) → t ≠ x := fun t xs e => ne_of e hx (by intro z; cases z)
    -- self.runs
    refine ⟨_, rfl, _, rfl, s, a, us, rs, rfl, by rw [upd_ne nax]; exact A0.ha, A0.runs.mono fun t xs e => by rw [upd_ne (ntx t xs e)]; exact e, A0.fits, by have := A0.few; omega, fun H2 pr e2 hpr hpr2 => ?_⟩
    have hpx : pr ≠ x := fun z => by
      rw [z, upd_same] at hpr
      cases hpr
    have hpr0 : H pr = none := by
      rw [upd_ne hpx] at hpr
      exact hpr
    have hx2 := e2 _ _ (upd_same (H := H) (a := x) (o := .ins C dx (putF "size" (.int s) [])))
    refine ⟨_, rfl, x, C, dx, _, rfl, hx2, hM.cl T, hM.nR T, (by show 1 < 1000; decide), ?_⟩
    -- self.gone
    have keep2 : ∀ b o, b ≠ x → H b = some o → upd H2 x (.ins C dx (putF "runs" (.ref pr) (putF "size" (.int s) []))) b = some o := fun b o hb e => by
      rw [upd_ne hb]
      exact e2 _ _ (by rw [upd_ne hb]; exact e)
    have hlen : (ns.length : Int) ≤ (us.length : Int) - 0 := asc_few A0.asc A0.inn (by omega)
    have few := A0.few
    refine ⟨_, rfl, a, us, rfl, .inl (SqL.of (keep2 _ _ nax A0.ha)), _, rfl, (us.length : Int), g, ns, rfl, keep2 _ _ ngx A0.hg, A0.asc, A0.inn, by omega, by omega, fun H3 pg e3 hpg hpg2 => ?_⟩
    have hpx2 : pg ≠ x := fun z => by
      rw [z, upd_same] at hpg
      cases hpg
    have hpg0 : H pg = none := by
      cases c : H pg with
      | none => rfl
      | some o =>
        rw [keep2 _ _ hpx2 c] at hpg
        cases hpg
    have hx3 := e3 _ _ (upd_same (H := H2) (a := x) (o := .ins C dx (putF "runs" (.ref pr) (putF "size" (.int s) []))))
    refine ⟨_, rfl, x, C, dx, _, rfl, hx3, hM.cl T, hM.nG T, (by show 2 < 1000; decide), ?_⟩
    refine k _ pr pg (fun b o hb e => ?_) hpr0 hpg0 upd_same ?_ ?_
    · rw [upd_ne hb]
      exact e3 _ _ (keep2 _ _ hb e)
    · rw [upd_ne hpx]
      exact e3 _ _ (by rw [upd_ne hpx]; exact hpr2)
    · rw [upd_ne hpx2]
      exact hpg2
end
end K00


set_option Elab.async false
set_option linter.all false
set_option maxRecDepth 100000
set_option maxHeartbeats 4000000
/-! a == b by an own __eq__ that answers True or False; len(a) by an own __len__. -/
namespace L2
open PySem PySem.Spec PyProof.Rows
section
variable {X : Cx} {k : Nat} {f C : Addr} {fd : FuncData} {ps : List Str} {sp : Sp} {E : XK}
/-- a == b, a of the class C whose __eq__ is the def at f -/
def rOwnEq (K : PySem.W.Frag) (C : Addr) (sp : Sp) : R2 := fun x y H Q => ∃ a b C' dx dy fs gs, x = .ref a ∧ y = .ref b ∧ H a = some (.ins C dx fs) ∧ H b = some (.ins C' dy gs) ∧ PySem.W.notFirst K C (.ref C') = true ∧
  sp [.ref a, .ref b] H (fun v H' => ∃ t, v = .bl t ∧ Q (.bl t) H') E0
theorem op_ownEq (F : FnOk X.prog X.w X.K X.mg X.base CX0 k f fd ps sp) (hs : PySem.W.findIn X.K (.ref C) "__eq__" = some (some (.ref f))) (hf : PySem.W.isFn X.K (.ref f) = true) (hb : Binds X.K fd ps []) (hr : Room k X.A) :
    OpR X (compareOp .Eq) (rOwnEq X.K C sp) := by
  intro pins s σ H x y v u Q I rx ry hq
  obtain ⟨a, b, C', dx, dy, fs, gs, rfl, rfl, ha, hb', hn, hsp⟩ := hq
  cases rx
  cases ry
  obtain ⟨mA, J, _⟩ := ins_get I.hok ha
  obtain ⟨mB, J', _⟩ := ins_get I.hok hb'
  obtain ⟨od, J, _⟩ := J.look
  obtain ⟨od', J', _⟩ := J'.look
  obtain ⟨m, hF⟩ := I.fr
  show wpAny (model X.prog X.w) X.A (richCompare .Eq (.ref a) (.ref b)) (EP X pins σ Q) X.xe s
  refine PySem.W.cmp_K (op := .Eq) (tb := .ref C') hr.units0 hF I.ok.mod.kin J J'.type hn hs hf ?_
  have r2 : Vals [V.ref a, V.ref b] [Value.ref a, Value.ref b] := .cons rfl (.cons rfl .nil)
  refine wpAny_mono (run_fn (Q := fun v H' => ∃ t, v = .bl t ∧ Q (.bl t) H') (us := [.ref a, .ref b]) (vs := [.ref a, .ref b]) (dvs := []) F hr hb .nil pass0 I r2 hsp) (fun w s' hz => ?_) fun _ _ z => z
  obtain ⟨z, H', I', rz, t, ez, q⟩ := hz
  subst ez
  cases rz
  exact ⟨.bl t, H', I', rfl, q⟩
/-- len(a), a of the class C whose __len__ is the def at f -/
def rOwnLen (C : Addr) (sp : Sp) : List V → Hp → VK → Prop := fun xs H Q => ∃ a dx fs, xs = [.ref a] ∧ H a = some (.ins C dx fs) ∧ sp [.ref a] H (fun v H' => ∃ n : Nat, v = .int n ∧ n ≤ 16777216 ∧ Q (.int n) H') E0
theorem call_lenOwn (F : FnOk X.prog X.w X.K X.mg X.base CX0 k f fd ps sp) (hs : PySem.W.findIn X.K (.ref C) "__len__" = some (some (.ref f))) (hf : PySem.W.isFn X.K (.ref f) = true) (hb : Binds X.K fd ps []) (hr : Room (k + 1) X.A) :
    CallR X (.builtin "len") (rOwnLen C sp) := by
  intro pins s σ H xs us Q I r hq
  obtain ⟨a, dx, fs, rfl, ha, hsp⟩ := hq
  obtain ⟨u, rfl, rx⟩ := vals1 r
  cases rx
  obtain ⟨mA, J, _⟩ := ins_get I.hok ha
  obtain ⟨od, J, _⟩ := J.look
  obtain ⟨m, hF⟩ := I.fr
  refine PySem.W.len_K hF I.ok.mod.kin J hs hf ?_
  have r2 : Vals [V.ref a] [Value.ref a] := .cons rfl .nil
  have hl := F.len _ _ _ _ hsp
  refine wpAny_call (codeAny_mono (F.run X.A.in1 X.stack s H ⟨[.ref a], []⟩ [.ref a] [.ref a] _ E0 hr.in1 I.env0.in1 (by
    have := hb s [.ref a] I.kIn (by simpa using hl)
    simpa using this) r2 hsp) fun r s' hq => ?_)
  cases r with
  | error e => exact hq.elim
  | ok fl =>
    cases fl with
    | ret w =>
      obtain ⟨z, H', I', rz, n, ez, hn, q⟩ := I.after hq
      subst ez
      obtain ⟨t, rfl⟩ := rz
      exact ⟨⟨by omega, by omega⟩, .int n, H', I'.tok _, ⟨_, rfl⟩, q⟩
    | next => exact False.elim hq
    | brk => exact False.elim hq
    | cont => exact False.elim hq
end
end L2


set_option Elab.async false
set_option linter.all false
set_option maxRecDepth 100000
set_option maxHeartbeats 4000000
namespace K00
open PySem PySem.Spec PyProof.Rows L2
open Evl (Ex)
/-- a market stands at x -/
structure Mkt (K : PySem.W.Frag) (H : Hp) (x : Addr) (kind : Str) (s : Int) (us : List V) (rs : List (Int × Int)) (ns : List Int) : Prop where
  ob : ∃ C dx pr pg, IsM K C kind ∧ H x = some (.ins C dx (mflds s pr pg)) ∧ H pr = some (.tup us) ∧ H pg = some (.tup (ns.map V.int))
  runs : Runs H us rs
theorem Mkt.ex {K : PySem.W.Frag} {H H' : Hp} {x : Addr} {kind : Str} {s : Int} {us : List V} {rs : List (Int × Int)} {ns : List Int} (h : Mkt K H x kind s us rs ns) (e : Ex H H') : Mkt K H' x kind s us rs ns := by
  obtain ⟨C, dx, pr, pg, a, b, c, d⟩ := h.ob
  exact ⟨⟨C, dx, pr, pg, a, e _ _ b, e _ _ c, e _ _ d⟩, h.runs.ex e⟩
section
variable {w : World} {K : PySem.W.Frag} {mg : Str → Option Value} {base : Heap} {C : Addr} {kind : Str}
theorem made {H : Hp} {x dx a g : Addr} {s : Int} {us : List V} {rs : List (Int × Int)} {ns : List Int} {Q : Hp → Prop} {E : XK} (hM : IsM K C kind) (A0 : MArg H s a g us rs ns) (hx : H x = none) (hdx : H dx = none) (hne : dx ≠ x)
    (k : ∀ H', Ex H H' → Mkt K H' x kind s us rs ns → Q H') : SupI.spSup C (spMarket K) ([.ref x, .int s, .ref a] ++ [.ref g]) (upd (upd H dx (.own x)) x (.ins C dx [])) (fun v H3 => v = .non ∧ Q H3) E := by
  have keep : ∀ b o, H b = some o → upd (upd H dx (.own x)) x (.ins C dx []) b = some o := fun b o e => by
    rw [upd_ne (ne_of_none e hx), upd_ne (ne_of_none e hdx)]
    exact e
  refine ⟨⟨x, dx, [], _, _, _, rfl, upd_same⟩, C, x, dx, a, g, kind, s, us, rs, ns, rfl, hM, upd_same, ⟨keep _ _ A0.ha, A0.runs.mono fun t xs e => keep _ _ e, A0.fits, A0.few, keep _ _ A0.hg, A0.asc, A0.inn, A0.size⟩, fun H' pr pg kp hpr hpg h1 h2 h3 => ⟨rfl, ?_⟩⟩
  have e : Ex H H' := fun b o q => kp b o (ne_of_none q hx) (keep b o q)
  exact k H' e ⟨⟨C, dx, pr, pg, hM, h1, h2, h3⟩, A0.runs.ex e⟩
theorem lookup_of {α : Type} {l : List (Str × α)} {y : Str} {v : α} (h : l.lookup y = some v) : (y, v) ∈ l := PySem.mem_of_lookup h
/-- Join.__init__ and Lap.__init__ -/
theorem ok_Join_init (T : Ctx K mg) : ∃ fd, FnOk PP w K mg base CX0 6 (He.ma K (He.ga K "Join") "__init__") fd ["self", "size", "runs", "gone"] (SupI.spSup (He.ga K "Join") (spMarket K)) ∧ KBn K fd ["self", "size", "runs", "gone"] 3 ["gone"] (fun us ws => us ++ ws) (fun vs zs => vs ++ zs) := by
  obtain ⟨fd2, F2⟩ := T.d_Market___init__
  obtain ⟨fd, S, hc⟩ := T.sup_Join
  have G2 := ok_Market_init (w := w) (base := base) T F2
  obtain ⟨mv, hb⟩ := FunD.kbinds0 (ps := ["self", "size", "runs", "gone"]) F2 3 ["gone"] [] (fun us _ ws => us ++ ws) (by intro z; cases z) (fun q hq => by cases hq) (fun r1 _ r3 => r1.append r3) (fun D doc pm an cdv ct us mv ws h1 h2 h3 => match us, ws, h1, h3 with
    | [_, _, _], [_], _, _ => rfl)
  refine ⟨fd, SupI.fn_super (ns := "self") (na := "size") (nb := "runs") (nk := "gone") (c1 := "") S hc rfl rfl rfl (fun y hy => ?_) (by decide +kernel) (by decide +kernel) rfl rfl (by decide +kernel) rfl rfl (fun u1 u2 u3 u4 i y u h1 h2 => ?_) (fun env => rfl) G2 hb, ?_⟩
  · have z : ∀ p ∈ (defScope s_Join___init__).names, (p.2 = .cell ∨ p.2 = .free) → p.1 = "__class__" := by decide +kernel
    rcases hy with h | h
    · exact z _ (lookup_of h) (.inl rfl)
    · exact z _ (lookup_of h) (.inr rfl)
  · match i, h1, h2 with
    | 0, h1, h2 => cases h1; cases h2; rfl
    | 1, h1, h2 => cases h1; cases h2; rfl
    | 2, h1, h2 => cases h1; cases h2; rfl
    | 3, h1, h2 => cases h1; cases h2; rfl
  · obtain ⟨oc, od, an, Dk, doc, pm, ct, osl, rfl, _⟩ := S.lk
    exact ⟨fun s us ws X h1 h2 => match us, ws, h1, h2 with
      | [_, _, _], [_], _, _ => BindsTo.of_eq (by first | rfl | with_unfolding_all rfl | kernel_rfl), fun r1 r2 => r1.append r2⟩
theorem ok_Lap_init (T : Ctx K mg) : ∃ fd, FnOk PP w K mg base CX0 6 (He.ma K (He.ga K "Lap") "__init__") fd ["self", "size", "runs", "gone"] (SupI.spSup (He.ga K "Lap") (spMarket K)) ∧ KBn K fd ["self", "size", "runs", "gone"] 3 ["gone"] (fun us ws => us ++ ws) (fun vs zs => vs ++ zs) := by
  obtain ⟨fd2, F2⟩ := T.d_Market___init__
  obtain ⟨fd, S, hc⟩ := T.sup_Lap
  have G2 := ok_Market_init (w := w) (base := base) T F2
  obtain ⟨mv, hb⟩ := FunD.kbinds0 (ps := ["self", "size", "runs", "gone"]) F2 3 ["gone"] [] (fun us _ ws => us ++ ws) (by intro z; cases z) (fun q hq => by cases hq) (fun r1 _ r3 => r1.append r3) (fun D doc pm an cdv ct us mv ws h1 h2 h3 => match us, ws, h1, h3 with
    | [_, _, _], [_], _, _ => rfl)
  refine ⟨fd, SupI.fn_super (ns := "self") (na := "size") (nb := "runs") (nk := "gone") (c1 := "") S hc rfl rfl rfl (fun y hy => ?_) (by decide +kernel) (by decide +kernel) rfl rfl (by decide +kernel) rfl rfl (fun u1 u2 u3 u4 i y u h1 h2 => ?_) (fun env => rfl) G2 hb, ?_⟩
  · have z : ∀ p ∈ (defScope s_Lap___init__).names, (p.2 = .cell ∨ p.2 = .free) → p.1 = "__class__" := by decide +kernel
    rcases hy with h | h
    · exact z _ (lookup_of h) (.inl rfl)
    · exact z _ (lookup_of h) (.inr rfl)
  · match i, h1, h2 with
    | 0, h1, h2 => cases h1; cases h2; rfl
    | 1, h1, h2 => cases h1; cases h2; rfl
    | 2, h1, h2 => cases h1; cases h2; rfl
    | 3, h1, h2 => cases h1; cases h2; rfl
  · obtain ⟨oc, od, an, Dk, doc, pm, ct, osl, rfl, _⟩ := S.lk
    exact ⟨fun s us ws X h1 h2 => match us, ws, h1, h2 with
      | [_, _, _], [_], _, _ => BindsTo.of_eq (by first | rfl | with_unfolding_all rfl | kernel_rfl), fun r1 r2 => r1.append r2⟩
end
end K00


set_option Elab.async false
set_option linter.all false
set_option maxRecDepth 100000
set_option maxHeartbeats 4000000
namespace K00
open PySem PySem.Spec PyProof.Rows L2
open Evl (Ex)
theorem iteT' {c : Bool} {A B : Prop} (hc : c = true) (h : A) : if c = true then A else B := by
  rw [if_pos hc]
  exact h
theorem Runs.snoc {H : Hp} {us : List V} {rs : List (Int × Int)} {t : Addr} {r : Int × Int} (h : Runs H us rs) (ht : H t = some (.tup [.int r.1, .int r.2])) : Runs H (us ++ [.ref t]) (rs ++ [r]) := by
  refine ⟨by simp [h.len], fun i q hq => ?_⟩
  by_cases c : i < rs.length
  · rw [List.getElem?_append_left c] at hq
    obtain ⟨t', a, b⟩ := h.at_ i q hq
    exact ⟨t', by rw [List.getElem?_append_left (by rw [h.len]; exact c)]; exact a, b⟩
  · have e : i = rs.length := by
      have := (List.getElem?_eq_some_iff.mp hq).1
      simp at this
      omega
    subst e
    rw [List.getElem?_concat_length] at hq
    cases hq
    exact ⟨t, by rw [← h.len, List.getElem?_concat_length], ht⟩
theorem Runs.nil {H : Hp} : Runs H [] [] := ⟨rfl, fun i r h => by simp at h⟩
end K00


set_option Elab.async false
set_option linter.all false
set_option maxRecDepth 100000
set_option maxHeartbeats 4000000
namespace K00
open PySem PySem.Spec PyProof.Rows L2
open Evl (Ex)
/-! ### draws -/
/-- all but D stays -/
def Kp (D : Addr) (H H' : Hp) : Prop := ∀ b o, b ≠ D → H b = some o → H' b = some o
/-- the draws stand at D -/
def Dr (D : Addr) (H : Hp) : Prop := ∃ ns : List Int, H D = some (.lst (ns.map V.int))
theorem Kp.refl (D : Addr) (H : Hp) : Kp D H H := fun _ _ _ h => h
theorem Kp.trans {D : Addr} {H H1 H2 : Hp} (a : Kp D H H1) (b : Kp D H1 H2) : Kp D H H2 := fun x o n h => b x o n (a x o n h)
theorem Kp.of {D : Addr} {H H' : Hp} (e : Ex H H') : Kp D H H' := fun b o _ h => e b o h
theorem Dr.ex {D : Addr} {H H' : Hp} (d : Dr D H) (e : Ex H H') : Dr D H' := by
  obtain ⟨ns, h⟩ := d
  exact ⟨ns, e _ _ h⟩
theorem Kp.fresh {D : Addr} {H H' : Hp} {p : Addr} (k : Kp D H H') (d : Dr D H') (h : H' p = none) : H p = none := by
  cases c : H p with
  | none => rfl
  | some o =>
    by_cases e : p = D
    · obtain ⟨ns, q⟩ := d
      rw [← e, h] at q
      cases q
    · rw [k p o e c] at h
      cases h
theorem Kp.tup {D : Addr} {H H' : Hp} {t : Addr} {xs : List V} (k : Kp D H H') (d : Dr D H) (h : H t = some (.tup xs)) : H' t = some (.tup xs) := by
  obtain ⟨ns, q⟩ := d
  exact k _ _ (ne_of h q (by intro z; cases z)) h
theorem Kp.runs {D : Addr} {H H' : Hp} {us : List V} {rs : List (Int × Int)} (k : Kp D H H') (d : Dr D H) (h : Runs H us rs) : Runs H' us rs := h.mono fun _ _ q => k.tup d q
theorem Kp.ne {D p : Addr} {H : Hp} (d : Dr D H) (h : H p = none) : p ≠ D := by
  obtain ⟨ns, q⟩ := d
  intro z
  rw [z, q] at h
  cases h
theorem iteF' {c : Bool} {A B : Prop} (hc : c = false) (h : B) : if c = true then A else B := by
  rw [if_neg (by rw [hc]; exact Bool.false_ne_true)]
  exact h
theorem abs_if {D : Ends} {l0 l1 l2 l4 l5 : Option V} {c0 : Int} {H : Hp} (go : ∀ c1 : Int, D.nx [l0, l1, l2, some (.int c1), l4, l5] H) :
    tIfS (tTest (tOp (rI0 fun i j => .bl (decide (i < j))) (tVar 3) (tC (.int 0)))) (tAsg (tOp (rI0 fun i j => .int (i - j)) (tC (.int 1)) (tVar 3)) (gName 3)) tNext D [l0, l1, l2, some (.int c0), l4, l5] H := by
  refine ⟨_, rfl, _, _, rfl, rfl, _, rfl, ?_⟩
  by_cases cz : c0 < 0
  · exact iteT' (decide_eq_true cz) ⟨_, rfl, _, _, rfl, rfl, go (1 - c0)⟩
  · exact iteF' (decide_eq_false cz) (go c0)
section
variable {w : World} {K : PySem.W.Frag} {mg : Str → Option Value} {base : Heap}
def spTake : Sp := fun vs H Q _ => ∃ (D : Addr) (m : Int), vs = [.ref D, .int m] ∧ Dr D H ∧ 0 < m ∧ ∀ r H', 0 ≤ r → r < m → Kp D H H' → Dr D H' → Q (.int r) H'
theorem sc_take : FnScope ["_law_draws_here", "_law_many"] ["_law_draws_here", "_law_many"] (defScope s__law_take) := ⟨rfl, rfl, rfl, by decide +kernel, rfl, by decide +kernel, by decide +kernel⟩
theorem has_take (T : Ctx K mg) : Has w K mg base CX0 "_law_take" 1 ["_law_draws_here", "_law_many"] spTake := by
  refine has_of (st := s__law_take) (f := He.ga K "_law_take") T.d__law_take T.g__law_take (fun _ _ _ _ _ _ us hl => match us, hl with | [_, _], _ => rfl) fun fd F => ?_
  refine ok0 F sc_take (fun vs H Q E h => ?_) (fun cdv A outer s0 H vs Q E hr h => ?_)
  · obtain ⟨D, m, rfl, _⟩ := h
    rfl
  · obtain ⟨D, m, rfl, ⟨ns, hD⟩, hm, k⟩ := h
    have nd := sc_take.nd
    refine ⟨_, pss_cons (ps_if (pt_cmpR op_eq (pe_callB call_len_seq (by rfl) T.b_len PySem.boot_len (pa_cons (pv 0) pa_nil)) pe_int (nomark _)) (pss_one (ps_ret pe_int)) pss_nil)
      (pss_one (ps_ret (pe_op op_mod (pe_callTy call_int1 (by rfl) T.b_int (by decide +kernel) (pa_cons (pe_bm0 PySem.F.plainAttrs_list PySem.F.slot_list_pop PySem.F.type_list_pop mt_pop (pv 0)) pa_nil)) (pv 1)))), ?_⟩
    refine ⟨_, rfl, D, _, rfl, .inl (SqL.of hD), rfl, _, rfl, ?_⟩
    by_cases c : ns = []
    · subst c
      refine iteT (k 0 H (Int.le_refl _) hm (Kp.refl _ _) ⟨[], hD⟩)
    · have hl : ns.length ≠ 0 := fun z => c (List.length_eq_zero_iff.mp z)
      rw [decide_eq_false (show ¬ (V.int ((ns.map V.int).length : Int) = V.int 0) from fun z => by
        have : ((ns.map V.int).length : Int) = 0 := by injection z
        rw [List.length_map] at this
        omega)]
      refine iteF ?_
      have hb : ns.length - 1 < ns.length := by omega
      refine ⟨_, rfl, .inl ⟨rfl, _, SqL.of hD⟩, D, _, .int ns[ns.length - 1], rfl, rfl, hD, ?_, .inl ⟨_, rfl, _, rfl, _, _, rfl, rfl, hm, ?_⟩⟩
      · rw [List.length_map, List.getElem?_map, List.getElem?_eq_getElem hb]
        rfl
      · refine k _ _ (Int.emod_nonneg _ (by omega)) (Int.emod_lt_of_pos _ hm) (fun b o n h => by rw [upd_ne n]; exact h) ⟨ns.dropLast, ?_⟩
        rw [upd_same, List.map_dropLast]
/-! ### _law_draws -/
def spDraws (K : PySem.W.Frag) : Sp := fun vs H Q _ => ∃ (a : Addr) (ns : List Int), vs = [.ref a] ∧ SqL K H a (ns.map V.int) ∧ ns.length ≤ 63 ∧ ∀ H' D, Ex H H' → H D = none → Dr D H' → Q (.ref D) H'
theorem sc_draws : FnScope ["_law_script", "_law_draws_here", "_law_at", "_law_cell", "_law_k", "_law_number"] ["_law_script"] (defScope s__law_draws) := ⟨rfl, rfl, rfl, by decide +kernel, rfl, by decide +kernel, by decide +kernel⟩
theorem has_draws (T : Ctx K mg) : Has w K mg base CX0 "_law_draws" 1 ["_law_script"] (spDraws K) := by
  refine has_of (st := s__law_draws) (f := He.ga K "_law_draws") T.d__law_draws T.g__law_draws (fun _ _ _ _ _ _ us hl => match us, hl with | [_], _ => rfl) fun fd F => ?_
  refine ok0 F sc_draws (fun vs H Q E h => ?_) (fun cdv A outer s0 H vs Q E hr h => ?_)
  · obtain ⟨a, ns, rfl, _⟩ := h
    rfl
  · obtain ⟨a, ns, rfl, hS, h63, k⟩ := h
    have nd := sc_draws.nd
    refine ⟨_, pss_cons (ps_set (i := 1) nd rfl (.inl rfl) (pe_lst pa_nil))
      (pss_cons (ps_for PassesOwn.never rfl (pi_range1 (by rfl) T.b_range (pa_cons (pe_callB (call_min2 rfl) (by rfl) T.b_min (by decide +kernel) (pa_cons (pe_callB call_len_seq (by rfl) T.b_len PySem.boot_len (pa_cons (pv 0) pa_nil)) (pa_cons pe_int pa_nil))) pa_nil)) (pg_name (i := 2) nd rfl (.inl rfl))
        (pss_cons (ps_set (i := 3) nd rfl (.inl rfl) (pe_callTy call_int1 (by rfl) T.b_int (by decide +kernel) (pa_cons (pe_ix ix_list (pv 0) (pv 2) (fun _ _ => rfl)) pa_nil)))
        (pss_cons (ps_if (pt_cmpR op_lt (pv 3) pe_int (nomark _)) (pss_one (ps_set (i := 3) nd rfl (.inl rfl) (pe_op op_sub pe_int (pv 3)))) pss_nil)
        (pss_one (ps_if (pt_cmpR op_ge (pv 3) (pe_op op_pow pe_int pe_int) (nomark _))
          (pss_one (ps_for PassesOwn.never rfl (pi_range1 (by rfl) T.b_range (pa_cons pe_int pa_nil)) (pg_name (i := 4) nd rfl (.inl rfl))
            (pss_one (ps_if (pt_cmpR op_gt (pv 3) pe_int (nomark _)) (pss_cons (ps_expr (pe_bm PySem.F.plainAttrs_list PySem.F.slot_list_append PySem.F.type_list_append mt_append (pv 1) (pa_cons (pe_op op_mod (pe_callTy call_int1 (by rfl) T.b_int (by decide +kernel) (pa_cons (pv 3) pa_nil)) pe_int) pa_nil)))
              (pss_one (ps_set (i := 3) nd rfl (.inl rfl) (pe_op op_fdiv (pv 3) pe_int)))) pss_nil))))
          (pss_cons (ps_set (i := 5) nd rfl (.inl rfl) (pe_op op_mod (pe_callTy call_int1 (by rfl) T.b_int (by decide +kernel) (pa_cons (pe_op op_add (pe_op op_add (pe_op op_mul (pv 3) pe_int) (pe_op op_mul (pv 2) pe_int)) pe_int) pa_nil)) pe_int))
          (pss_one (ps_for PassesOwn.never rfl (pi_range1 (by rfl) T.b_range (pa_cons pe_int pa_nil)) (pg_name (i := 4) nd rfl (.inl rfl))
            (pss_cons (ps_set (i := 5) nd rfl (.inl rfl) (pe_op op_mod (pe_callTy call_int1 (by rfl) T.b_int (by decide +kernel) (pa_cons (pe_op op_add (pe_op op_add (pe_op op_add (pe_op op_mul (pv 5) (pv 5)) (pe_op op_mul (pv 4) pe_int)) (pv 2)) pe_int) pa_nil)) pe_int))
            (pss_one (ps_expr (pe_bm PySem.F.plainAttrs_list PySem.F.slot_list_append PySem.F.type_list_append mt_append (pv 1) (pa_cons (pv 5) pa_nil)))))))))))))
      (pss_cons (ps_expr (pe_bm0 PySem.F.plainAttrs_list PySem.F.slot_list_reverse PySem.F.type_list_reverse mt_reverse (pv 1)))
      (pss_one (ps_ret (pv 1))))), ?_⟩
    refine ⟨(by show 0 ≤ sizeLine; decide), fun D hD => ?_⟩
    have e1 : Ex H (upd H D (.lst [])) := Ex.new hD
    have hD1 : upd H D (.lst []) D = some (.lst []) := upd_same
    generalize upd H D (.lst []) = H1 at *
    refine ⟨_, rfl, a, _, rfl, .inl (Evl.ex_l e1 hS), _, _, rfl, ?_⟩
    have hjn : (if (63 : Int) < ((ns.map V.int).length : Int) then 63 else ((ns.map V.int).length : Int)) ≤ (ns.length : Int) ∧ (if (63 : Int) < ((ns.map V.int).length : Int) then 63 else ((ns.map V.int).length : Int)) ≤ 63 ∧ 0 ≤ (if (63 : Int) < ((ns.map V.int).length : Int) then 63 else ((ns.map V.int).length : Int)) := by
      rw [List.length_map]
      split <;> omega
    generalize (if (63 : Int) < ((ns.map V.int).length : Int) then 63 else ((ns.map V.int).length : Int)) = j at *
    refine ⟨_, rfl, ?_, ?_, for_it walk_range (fun i σ H' => ∃ (v2 v3 v4 v5 : Option V) (ms : List Int), σ = [some (.ref a), some (.ref D), v2, v3, v4, v5] ∧ Ex H H' ∧ H' D = some (.lst (ms.map V.int)) ∧ ms.length ≤ 60 * i) ⟨none, none, none, none, [], rfl, e1, hD1, Nat.zero_le _⟩ (fun _ _ _ _ _ => trivial) ?_ ?_⟩
    · omega
    · omega
    · rintro i v σ H2 H3 hi ⟨v2, v3, v4, v5, ms, rfl, e2, hD2, hms⟩ ⟨rfl, rfl⟩
      have hin : i < ns.length := by omega
      have hi63 : i < 63 := by omega
      have hix : atI (ns.map V.int) (0 + (i : Nat)) = some (V.int ns[i]) := by
        rw [Int.zero_add]
        exact atI_nat (by rw [List.getElem?_map, List.getElem?_eq_getElem hin]; rfl)
      refine ⟨_, rfl, _, rfl, a, _, _, _, rfl, rfl, Evl.ex_l e2 hS, hix, .inl ⟨_, rfl, ?_⟩⟩
      generalize ns[i] = c0
      refine abs_if fun c1 => ?_
      clear hix
      refine ⟨_, rfl, _, _, rfl, rfl, (by refine ⟨?_, ?_, ?_⟩ <;> decide), _, _, rfl, rfl, _, rfl, ?_⟩
      by_cases cg : (10 : Int) ^ (18 : Int).toNat ≤ c1
      · refine iteT' (decide_eq_true cg) ⟨_, rfl, ?_, ?_, for_it walk_range (fun j σ H' => ∃ (c2 : Int) (v4 : Option V) (ms2 : List Int), σ = [some (.ref a), some (.ref D), some (.int (0 + (i : Nat))), some (.int c2), v4, v5] ∧ Ex H H' ∧ H' D = some (.lst (ms2.map V.int)) ∧ ms2.length ≤ 60 * i + j)
          ⟨c1, v4, ms, rfl, e2, hD2, by omega⟩ (fun _ _ _ _ _ => trivial) ?_ ?_⟩
        · decide
        · decide
        · rintro j' v σ H4 H5 hj ⟨c2, v4, ms2, rfl, e4, hD4, hm4⟩ ⟨rfl, rfl⟩
          have hj60 : j' < 60 := hj
          refine ⟨_, rfl, _, _, rfl, rfl, _, rfl, ?_⟩
          by_cases cc : 0 < c2
          · rw [decide_eq_true cc]
            refine iteT ⟨_, rfl, .inl ⟨rfl, _, SqL.of hD4⟩, _, rfl, .inl ⟨_, rfl, _, _, rfl, rfl, (show (0 : Int) < 24 by decide), D, _, _, rfl, rfl, hD4, ?_, ?_⟩⟩
            · rw [List.length_map]
              exact Evl.sz_lt (by omega)
            · refine ⟨_, rfl, _, _, rfl, rfl, ⟨by decide, by decide⟩, ?_⟩
              refine ⟨_, _, ms2 ++ [c2 % 24], rfl, Evl.Ex.mut e4 hD, ?_, ?_⟩
              · rw [upd_same, List.map_append]
                rfl
              · rw [List.length_append]
                have : [c2 % 24].length = 1 := rfl
                omega
          · rw [decide_eq_false cc]
            exact iteF ⟨_, _, ms2, rfl, e4, hD4, by omega⟩
        · rintro σ H4 ⟨c2, v4, ms2, rfl, e4, hD4, hm4⟩
          have : ((60 : Int) - 0).toNat = 60 := rfl
          refine ⟨_, _, _, _, ms2, rfl, e4, hD4, ?_⟩
          have h60 : (Int.toNat 60) = 60 := rfl
          omega
      · refine iteF' (decide_eq_false cg) ?_
        refine ⟨_, rfl, _, _, rfl, rfl, .inr ⟨by decide, by decide⟩, _, rfl, _, _, rfl, rfl, .inr ⟨by decide, by decide⟩, _, _, rfl, rfl, _, _, rfl, rfl, .inl ⟨_, rfl, _, _, rfl, rfl, (show (0 : Int) < 2147483647 by decide), ?_⟩⟩
        have hb0 := Int.emod_nonneg (c1 * 48271 + (0 + (i : Nat)) * 69621 + 1) (show (2147483647 : Int) ≠ 0 by decide)
        have hb1 := Int.emod_lt_of_pos (c1 * 48271 + (0 + (i : Nat)) * 69621 + 1) (show (0 : Int) < 2147483647 by decide)
        refine ⟨_, rfl, ?_, ?_, for_it walk_range (fun j σ H' => ∃ (nn : Int) (v4 : Option V) (ms2 : List Int), σ = [some (.ref a), some (.ref D), some (.int (0 + (i : Nat))), some (.int c1), v4, some (.int nn)] ∧ (0 ≤ nn ∧ nn < 2147483647) ∧ Ex H H' ∧ H' D = some (.lst (ms2.map V.int)) ∧ ms2.length ≤ 60 * i + j)
          ⟨_, v4, ms, rfl, ⟨hb0, hb1⟩, e2, hD2, by omega⟩ (fun _ _ _ _ _ => trivial) ?_ ?_⟩
        · decide
        · decide
        · rintro j' v σ H4 H5 hj ⟨nn, v4, ms2, rfl, hnn, e4, hD4, hm4⟩ ⟨rfl, rfl⟩
          have hj60 : j' < 6 := hj
          refine ⟨_, rfl, _, rfl, _, _, rfl, rfl, .inl ⟨by omega, by omega⟩, _, rfl, _, _, rfl, rfl, .inr ⟨by decide, by decide⟩, _, _, rfl, rfl, _, rfl, _, _, rfl, rfl, _, _, rfl, rfl, .inl ⟨_, rfl, _, _, rfl, rfl, (show (0 : Int) < 2147483563 by decide), ?_⟩⟩
          have hc0 := Int.emod_nonneg (nn * nn + (0 + (j' : Nat)) * 40692 + (0 + (i : Nat)) + 7) (show (2147483563 : Int) ≠ 0 by decide)
          have hc1 := Int.emod_lt_of_pos (nn * nn + (0 + (j' : Nat)) * 40692 + (0 + (i : Nat)) + 7) (show (0 : Int) < 2147483563 by decide)
          refine ⟨_, rfl, .inl ⟨rfl, _, SqL.of hD4⟩, _, rfl, D, _, _, rfl, rfl, hD4, ?_, ?_⟩
          · rw [List.length_map]
            exact Evl.sz_lt (by omega)
          · refine ⟨_, _, ms2 ++ [(nn * nn + (0 + (j' : Nat)) * 40692 + (0 + (i : Nat)) + 7) % 2147483563], rfl, ⟨hc0, by omega⟩, Evl.Ex.mut e4 hD, ?_, ?_⟩
            · rw [upd_same, List.map_append]
              rfl
            · rw [List.length_append]
              have : [(nn * nn + (0 + (j' : Nat)) * 40692 + (0 + (i : Nat)) + 7) % 2147483563].length = 1 := rfl
              omega
        · rintro σ H4 ⟨nn, v4, ms2, rfl, hnn, e4, hD4, hm4⟩
          refine ⟨_, _, _, _, ms2, rfl, e4, hD4, ?_⟩
          have h6 : (Int.toNat 6) = 6 := rfl
          omega
    · rintro σ H2 ⟨v2, v3, v4, v5, ms, rfl, e2, hD2, hms⟩
      refine ⟨_, rfl, .inl ⟨rfl, _, SqL.of hD2⟩, D, _, rfl, rfl, hD2, _, rfl, ?_⟩
      refine k _ _ (Evl.Ex.mut e2 hD) hD ⟨ms.reverse, ?_⟩
      rw [upd_same, List.map_reverse]
end
end K00


set_option Elab.async false
set_option linter.all false
set_option maxRecDepth 100000
set_option maxHeartbeats 4000000
namespace K00
open PySem PySem.Spec PyProof.Rows L2
open Evl (Ex)
theorem _root_.L2.PS.imp {X : Cx} {st : Stmt} {t t' : TS} (h : PS X st t) (i : ∀ D σ H, t' D σ H → t D σ H) : PS X st t' := ⟨fun pins s σ H D I q => h.run pins s σ H D I (i D σ H q)⟩
theorem _root_.L2.PE.imp {X : Cx} {e : Expr} {t t' : TE} (h : PE X e t) (i : ∀ σ H Q, t' σ H Q → t σ H Q) : PE X e t' := ⟨fun pins s σ H Q I q => h.run pins s σ H Q I (i σ H Q q)⟩
theorem _root_.L2.PT.imp {X : Cx} {e : Expr} {t t' : TT} (h : PT X e t) (i : ∀ σ H Q, t' σ H Q → t σ H Q) : PT X e t' := ⟨fun pins s σ H Q I q => h.run pins s σ H Q I (i σ H Q q)⟩
theorem Kp.mut {D R : Addr} {H H' : Hp} {o : HO} (k : Kp D H H') (h : H R = none) : Kp D H (upd H' R o) := fun b u n hb => by
  rw [upd_ne (ne_of_none hb h)]
  exact k b u n hb
/-- a list of runs under work: at R, at most b of them -/
structure LI (D R : Addr) (H : Hp) (s : Int) (b : Nat) (H' : Hp) : Prop where
  kp : Kp D H H'
  dr : Dr D H'
  li : ∃ us rs, H' R = some (.lst us) ∧ Runs H' us rs ∧ (∀ r ∈ rs, Fits s r) ∧ rs.length ≤ b
theorem LI.go {D R : Addr} {H : Hp} {s : Int} {b : Nat} {H1 H2 : Hp} (h : LI D R H s b H1) (hR : R ≠ D) (k : Kp D H1 H2) (d : Dr D H2) : LI D R H s b H2 := by
  obtain ⟨us, rs, a1, a2, a3, a4⟩ := h.li
  exact ⟨h.kp.trans k, d, us, rs, k _ _ hR a1, k.runs h.dr a2, a3, a4⟩
theorem LI.le {D R : Addr} {H : Hp} {s : Int} {b b' : Nat} {H1 : Hp} (h : LI D R H s b H1) (hb : b ≤ b') : LI D R H s b' H1 := by
  obtain ⟨us, rs, a1, a2, a3, a4⟩ := h.li
  exact ⟨h.kp, h.dr, us, rs, a1, a2, a3, Nat.le_trans a4 hb⟩
/-- (x, y) goes on the list -/
theorem LI.app {D R : Addr} {H : Hp} {s : Int} {b : Nat} {H1 : Hp} {x y : Int} (h : LI D R H s b H1) (hR : R ≠ D) (hR0 : H R = none) (hb : b ≤ 1000) (hf : Fits s (x, y)) {t : Addr} (ht : H1 t = none) :
    ∃ us, upd H1 t (.tup [.int x, .int y]) R = some (.lst us) ∧ us.length < sizeLine ∧ LI D R H s (b + 1) (upd (upd H1 t (.tup [.int x, .int y])) R (.lst (us ++ [.ref t]))) := by
  obtain ⟨us, rs, a1, a2, a3, a4⟩ := h.li
  have e1 : Ex H1 (upd H1 t (.tup [.int x, .int y])) := Ex.new ht
  have hl := a2.len
  have htR : t ≠ R := Ne.symm (ne_of_none a1 ht)
  refine ⟨us, e1 _ _ a1, small1000 (by omega), ⟨(h.kp.trans (Kp.of e1)).mut hR0, ?_, us ++ [.ref t], rs ++ [(x, y)], upd_same, ?_, ?_, ?_⟩⟩
  · obtain ⟨ms, hms⟩ := h.dr
    exact ⟨ms, by rw [upd_ne (Ne.symm hR)]; exact e1 _ _ hms⟩
  · refine Runs.snoc ((a2.ex e1).mono fun t' ys e => by rw [upd_ne (ne_of e (e1 _ _ a1) (by intro z; cases z))]; exact e) ?_
    rw [upd_ne htR, upd_same]
  · intro r hr
    rcases List.mem_append.mp hr with hr | hr
    · exact a3 r hr
    · rw [List.mem_singleton.mp hr]
      exact hf
  · rw [List.length_append]
    have : [(x, y)].length = 1 := rfl
    omega
section
variable {w : World} {K : PySem.W.Frag} {mg : Str → Option Value} {base : Heap}
def spChains : Sp := fun vs H Q _ => ∃ (D : Addr) (s : Int), vs = [.ref D, .int s] ∧ Dr D H ∧ 1 ≤ s ∧ s ≤ 8 ∧ ∀ R H', H R = none → LI D R H s 27 H' → Q (.ref R) H'
theorem sc_chains : FnScope ["_law_draws_here", "_law_size", "_law_runs", "_law_copy", "_law_start", "_law_k", "_law_stop"] ["_law_draws_here", "_law_size"] (defScope s__law_chains) := ⟨rfl, rfl, rfl, by decide +kernel, rfl, by decide +kernel, by decide +kernel⟩
theorem has_chains (T : Ctx K mg) : Has w K mg base CX0 "_law_chains" 2 ["_law_draws_here", "_law_size"] spChains := by
  obtain ⟨f1, fd1, m1, kp1, F1, b1⟩ := has_take (w := w) (base := base) T
  refine has_of (st := s__law_chains) (f := He.ga K "_law_chains") T.d__law_chains T.g__law_chains (fun _ _ _ _ _ _ us hl => match us, hl with | [_, _], _ => rfl) fun fd F => ?_
  refine ok0 F sc_chains (fun vs H Q E h => ?_) (fun cdv A outer s0 H vs Q E hr h => ?_)
  · obtain ⟨D, s, rfl, _⟩ := h
    rfl
  · obtain ⟨D, s, rfl, hD, hs1, hs8, k⟩ := h
    have nd := sc_chains.nd
    refine ⟨_, pss_cons (ps_set (i := 2) nd rfl (.inl rfl) (pe_lst pa_nil))
      (pss_cons (ps_for PassesOwn.never rfl (pi_range1 (by rfl) T.b_range (pa_cons (pe_op op_add pe_int (pe_call F1 hr (by rfl) m1 kp1 b1 .nil pass0 (pa_cons (pv 0) (pa_cons pe_int pa_nil)))) pa_nil)) (pg_name (i := 3) nd rfl (.inl rfl))
        (pss_cons (ps_set (i := 4) nd rfl (.inl rfl) pe_int)
        (pss_one (ps_for PassesOwn.never rfl (pi_range1 (by rfl) T.b_range (pa_cons (pv 1) pa_nil)) (pg_name (i := 5) nd rfl (.inl rfl))
          (pss_one (ps_if (pt_cmpR op_lt (pv 4) (pv 1) (nomark _))
            (pss_cons (ps_set (i := 6) nd rfl (.inl rfl) (pe_callB (call_min2 rfl) (by rfl) T.b_min (by decide +kernel) (pa_cons (pv 1) (pa_cons (pe_op op_add (pe_op op_add (pv 4) pe_int) (pe_call F1 hr (by rfl) m1 kp1 b1 .nil pass0 (pa_cons (pv 0) (pa_cons (pv 1) pa_nil)))) pa_nil))))
            (pss_cons (ps_expr (pe_bm PySem.F.plainAttrs_list PySem.F.slot_list_append PySem.F.type_list_append mt_append (pv 2) (pa_cons (pe_tup (pa_cons (pv 4) (pa_cons (pv 6) pa_nil))) pa_nil)))
            (pss_one (ps_set (i := 4) nd rfl (.inl rfl) (pv 6))))) pss_nil))))))
      (pss_cons (ps_for PassesOwn.never rfl (pi_range1 (by rfl) T.b_range (pa_cons (pe_call F1 hr (by rfl) m1 kp1 b1 .nil pass0 (pa_cons (pv 0) (pa_cons pe_int pa_nil))) pa_nil)) (pg_name (i := 5) nd rfl (.inl rfl))
        (pss_cons (ps_set (i := 4) nd rfl (.inl rfl) (pe_call F1 hr (by rfl) m1 kp1 b1 .nil pass0 (pa_cons (pv 0) (pa_cons (pv 1) pa_nil))))
        (pss_one (ps_expr (pe_bm PySem.F.plainAttrs_list PySem.F.slot_list_append PySem.F.type_list_append mt_append (pv 2) (pa_cons (pe_tup (pa_cons (pv 4) (pa_cons (pe_op op_add (pe_op op_add (pv 4) pe_int) (pe_call F1 hr (by rfl) m1 kp1 b1 .nil pass0 (pa_cons (pv 0) (pa_cons (pe_op op_sub (pv 1) (pv 4)) pa_nil)))) pa_nil))) pa_nil))))))
      (pss_one (ps_ret (pv 2))))), ?_⟩
    refine ⟨(by show 0 ≤ sizeLine; decide), fun R hR0 => ?_⟩
    have hRD : R ≠ D := Kp.ne hD hR0
    have L0 : LI D R H s 0 (upd H R (.lst [])) := ⟨Kp.of (Ex.new hR0), hD.ex (Ex.new hR0), [], [], upd_same, Runs.nil, (fun _ h => by cases h), Nat.le_refl _⟩
    generalize upd H R (.lst []) = H1 at *
    refine ⟨_, rfl, D, 3, rfl, L0.dr, by decide, fun r1 H2 h0 h1 k1 d1 => ⟨_, _, rfl, rfl, _, rfl, ?_, ?_, for_it walk_range (fun i σ H' => ∃ v3 v4 v5 v6 : Option V, σ = [some (.ref D), some (.int s), some (.ref R), v3, v4, v5, v6] ∧ LI D R H s (8 * i) H') ⟨_, _, _, _, rfl, L0.go hRD k1 d1⟩ (fun _ _ _ _ _ => trivial) ?_ ?_⟩⟩
    · omega
    · omega
    · rintro i v σ H3 H4 hi ⟨v3, v4, v5, v6, rfl, L3⟩ ⟨rfl, rfl⟩
      have hi3 : i < 3 := by omega
      refine ⟨_, rfl, _, rfl, ?_, ?_, for_it walk_range (fun j σ H' => ∃ (v3 v5 v6 : Option V) (st : Int), σ = [some (.ref D), some (.int s), some (.ref R), v3, some (.int st), v5, v6] ∧ 0 ≤ st ∧ LI D R H s (8 * i + j) H') ⟨_, _, _, 0, rfl, Int.le_refl _, L3⟩ (fun _ _ _ _ _ => trivial) ?_ ?_⟩
      · omega
      · omega
      · rintro j v σ H5 H6 hj ⟨v3, v5, v6, st, rfl, hst, L5⟩ ⟨rfl, rfl⟩
        refine ⟨_, rfl, _, rfl, _, _, rfl, rfl, _, rfl, ?_⟩
        by_cases c : st < s
        rotate_left
        · exact iteF' (decide_eq_false c) ⟨_, _, _, st, rfl, hst, L5.le (by omega)⟩
        refine iteT' (decide_eq_true c) ⟨_, rfl, _, rfl, _, _, rfl, rfl, _, rfl, _, rfl, D, s, rfl, L5.dr, by omega, fun r H7 h0 h1 k7 d7 => ⟨_, _, rfl, rfl, _, _, rfl, ?_⟩⟩
        have L7 := L5.go hRD k7 d7
        have hstop : st < (if (st + 1 + r : Int) < s then st + 1 + r else s) ∧ (if (st + 1 + r : Int) < s then st + 1 + r else s) ≤ s := by split <;> omega
        generalize hse : (if (st + 1 + r : Int) < s then st + 1 + r else s) = sp at *
        refine ⟨_, rfl, .inl ⟨rfl, ?_⟩, _, rfl, _, rfl, (by show 2 ≤ sizeLine; decide), fun t ht => ?_⟩
        · obtain ⟨us, rs, a1, _⟩ := L7.li
          exact ⟨_, SqL.of a1⟩
        · obtain ⟨us, q1, q2, L8⟩ := L7.app (x := st) (y := sp) hRD hR0 (by omega) ⟨hst, hstop.1, hstop.2⟩ ht
          exact ⟨R, us, .ref t, rfl, rfl, q1, q2, _, rfl, _, _, _, sp, rfl, by omega, L8⟩
      · rintro σ H5 ⟨v3, v5, v6, st, rfl, hst, L5⟩
        exact ⟨_, _, _, _, rfl, L5.le (by omega)⟩
    · rintro σ H3 ⟨v3, v4, v5, v6, rfl, L3⟩
      refine ⟨_, rfl, D, 4, rfl, L3.dr, by decide, fun r2 H4 h2 h3 k4 d4 => ⟨_, rfl, ?_, ?_, for_it walk_range (fun i σ H' => ∃ v3 v4 v5 v6 : Option V, σ = [some (.ref D), some (.int s), some (.ref R), v3, v4, v5, v6] ∧ LI D R H s (24 + i) H') ⟨_, _, _, _, rfl, (L3.go hRD k4 d4).le (by omega)⟩ (fun _ _ _ _ _ => trivial) ?_ ?_⟩⟩
      · omega
      · omega
      · rintro i v σ H5 H6 hi ⟨v3, v4, v5, v6, rfl, L5⟩ ⟨rfl, rfl⟩
        have hi3 : i < 3 := by omega
        refine ⟨_, rfl, _, rfl, D, s, rfl, L5.dr, by omega, fun st H7 h4 h5 k7 d7 => ?_⟩
        have L7 := L5.go hRD k7 d7
        refine ⟨_, rfl, .inl ⟨rfl, ?_⟩, _, rfl, _, rfl, _, _, rfl, rfl, _, rfl, _, rfl, _, rfl, _, _, rfl, rfl, D, s - st, rfl, L7.dr, by omega, fun r H8 h6 h7 k8 d8 => ⟨_, _, rfl, rfl, (by show 2 ≤ sizeLine; decide), fun t ht => ?_⟩⟩
        · obtain ⟨us, rs, a1, _⟩ := L7.li
          exact ⟨_, SqL.of a1⟩
        · obtain ⟨us, q1, q2, L9⟩ := (L7.go hRD k8 d8).app (x := st) (y := st + 1 + r) hRD hR0 (by omega) ⟨h4, by show st < st + 1 + r; omega, by show st + 1 + r ≤ s; omega⟩ ht
          exact ⟨R, us, .ref t, rfl, rfl, q1, q2, _, _, _, _, rfl, L9⟩
      · rintro σ H5 ⟨v3, v4, v5, v6, rfl, L5⟩
        exact ⟨_, rfl, k _ _ hR0 (L5.le (by omega))⟩
end
end K00


set_option Elab.async false
set_option linter.all false
set_option maxRecDepth 100000
set_option maxHeartbeats 4000000
namespace K00
open PySem PySem.Spec PyProof.Rows L2
open Evl (Ex)
theorem Runs.cons {H : Hp} {us : List V} {rs : List (Int × Int)} {t : Addr} {r : Int × Int} (h : Runs H us rs) (ht : H t = some (.tup [.int r.1, .int r.2])) : Runs H (.ref t :: us) (r :: rs) := by
  refine ⟨by simp [h.len], fun i q hq => ?_⟩
  cases i with
  | zero =>
    cases hq
    exact ⟨t, rfl, ht⟩
  | succ i => exact h.at_ i q hq
theorem Runs.drop {H : Hp} {us : List V} {rs : List (Int × Int)} (h : Runs H us rs) (n : Nat) : Runs H (us.drop n) (rs.drop n) := by
  refine ⟨by simp [h.len], fun i q hq => ?_⟩
  rw [List.getElem?_drop] at hq ⊢
  exact h.at_ _ q hq
theorem Runs.take {H : Hp} {us : List V} {rs : List (Int × Int)} (h : Runs H us rs) (n : Nat) : Runs H (us.take n) (rs.take n) := by
  refine ⟨by simp [h.len], fun i q hq => ?_⟩
  rw [List.getElem?_take] at hq ⊢
  split at hq
  · rename_i c
    rw [if_pos c]
    exact h.at_ _ q hq
  · cases hq
theorem Runs.app {H : Hp} {us us' : List V} {rs rs' : List (Int × Int)} (h : Runs H us rs) (h' : Runs H us' rs') : Runs H (us ++ us') (rs ++ rs') := by
  refine ⟨by simp [h.len, h'.len], fun i q hq => ?_⟩
  by_cases c : i < rs.length
  · rw [List.getElem?_append_left c] at hq
    rw [List.getElem?_append_left (by rw [h.len]; exact c)]
    exact h.at_ i q hq
  · rw [List.getElem?_append_right (by omega)] at hq
    rw [List.getElem?_append_right (by rw [h.len]; omega), h.len]
    exact h'.at_ _ q hq
theorem Runs.cut {H : Hp} {us : List V} {rs : List (Int × Int)} (h : Runs H us rs) (lo hi : Option Int) : ∃ rs', Runs H (cutV us lo hi) rs' ∧ (∀ r ∈ rs', r ∈ rs) ∧ rs'.length ≤ rs.length := by
  unfold cutV
  refine ⟨_, (h.drop _).take _, fun r hr => List.mem_of_mem_drop (List.mem_of_mem_take hr), ?_⟩
  rw [List.length_take, List.length_drop]
  omega
def tPairs : List (Int × Int) → TA
  | [] => tNil
  | r :: rs => tCons (tTup (tCons (tC (.int r.1)) (tCons (tC (.int r.2)) tNil))) (tPairs rs)
theorem pairs_ok : ∀ (rs : List (Int × Int)) {σ : L2.St} {H : Hp} {Q : List V → Hp → Prop}, (∀ us H', Ex H H' → Runs H' us rs → Q us H') → tPairs rs σ H Q
  | [], σ, H, Q, k => k [] H (Ex.refl H) Runs.nil
  | r :: rs, σ, H, Q, k => by
    refine ⟨by show 2 ≤ sizeLine; decide, fun p hp => pairs_ok rs fun us H' e R => ?_⟩
    refine k _ _ ((Ex.new hp).trans e) (R.cons (e _ _ upd_same))
theorem menu_ok (rs : List (Int × Int)) {σ : L2.St} {H : Hp} {Q : VK} (hl : rs.length ≤ 1000) (k : ∀ M us H', Ex H H' → H M = none → H' M = some (.lst us) → Runs H' us rs → Q (.ref M) H') : tLst (tPairs rs) σ H Q :=
  pairs_ok rs fun us H' e R => ⟨Nat.le_trans (by rw [R.len]; exact hl) (by decide), fun p hp => k p us _ (e.trans (Ex.new hp)) (Evl.fresh_back e hp) upd_same (R.ex (Ex.new hp))⟩
theorem menu_set (rs : List (Int × Int)) {De : Ends} {s : Int} {v0 v1 v2 v3 v4 v5 : Option V} {H : Hp} (hl : rs.length ≤ 1000) (k : ∀ M us H', Ex H H' → H M = none → H' M = some (.lst us) → Runs H' us rs → De.nx [v0, v1, some (.int s), some (.ref M), v4, v5] H') :
    tSeq (tAsg (tC (.int s)) (gName 2)) (tAsg (tLst (tPairs rs)) (gName 3)) De [v0, v1, v2, v3, v4, v5] H :=
  menu_ok (Q := fun v H' => gName 3 v [v0, v1, some (.int s), v3, v4, v5] H' De.nx) rs hl fun M us H' e h1 h2 h3 => k M us H' e h1 h2 h3
section
variable {w : World} {K : PySem.W.Frag} {mg : Str → Option Value} {base : Heap}
def spSpecial : Sp := fun vs H Q _ => ∃ (D : Addr), vs = [.ref D] ∧ Dr D H ∧ ∀ L M s us rs H', Kp D H H' → Dr D H' → H M = none → H' L = some (.lst [.int s, .ref M]) → L ≠ D → H' M = some (.lst us) → Runs H' us rs → (∀ r ∈ rs, Fits s r) → 1 ≤ s → s ≤ 8 → rs.length ≤ 9 → Q (.ref L) H'
theorem sc_special : FnScope ["_law_draws_here", "_law_word", "_law_size", "_law_menu", "_law_runs", "_law_run_here"] ["_law_draws_here"] (defScope s__law_special) := ⟨rfl, rfl, rfl, by decide +kernel, rfl, by decide +kernel, by decide +kernel⟩
theorem has_special (T : Ctx K mg) : Has w K mg base CX0 "_law_special" 2 ["_law_draws_here"] spSpecial := by
  obtain ⟨f1, fd1, m1, kp1, F1, b1⟩ := has_take (w := w) (base := base) T
  refine has_of (st := s__law_special) (f := He.ga K "_law_special") T.d__law_special T.g__law_special (fun _ _ _ _ _ _ us hl => match us, hl with | [_], _ => rfl) fun fd F => ?_
  refine ok0 F sc_special (fun vs H Q E h => ?_) (fun cdv A outer s0 H vs Q E hr h => ?_)
  · obtain ⟨D, rfl, _⟩ := h
    rfl
  · obtain ⟨D, rfl, hD, k⟩ := h
    have nd := sc_special.nd
    refine ⟨_, pss_cons (ps_set (i := 1) nd rfl (.inl rfl) (pe_call F1 hr (by rfl) m1 kp1 b1 .nil pass0 (pa_cons (pv 0) (pa_cons pe_int pa_nil))))
      (pss_cons ((ps_if (pt_cmpR op_eq (pv 1) pe_int (nomark _))
          (pss_cons (ps_set (i := 2) nd rfl (.inl rfl) pe_int) (pss_one (ps_set (i := 3) nd rfl (.inl rfl) (pe_lst (t := tPairs [(0, 1), (0, 2), (1, 2), (1, 3), (2, 3), (0, 3), (1, 2)]) (by repeat first | exact pa_nil | refine pa_cons (pe_tup (pa_cons pe_int (pa_cons pe_int pa_nil))) ?_)))))
          (pss_one (ps_if (pt_cmpR op_eq (pv 1) pe_int (nomark _))
            (pss_cons (ps_set (i := 2) nd rfl (.inl rfl) pe_int) (pss_one (ps_set (i := 3) nd rfl (.inl rfl) (pe_lst (t := tPairs [(0, 1), (1, 2), (1, 3), (2, 3), (2, 4), (3, 4), (4, 5), (0, 1), (4, 5)]) (by repeat first | exact pa_nil | refine pa_cons (pe_tup (pa_cons pe_int (pa_cons pe_int pa_nil))) ?_)))))
            (pss_cons (ps_set (i := 2) nd rfl (.inl rfl) pe_int) (pss_one (ps_set (i := 3) nd rfl (.inl rfl) (pe_lst (t := tPairs [(0, 4), (0, 2), (2, 4), (0, 1), (1, 2), (2, 3), (3, 4), (1, 2), (0, 4)]) (by repeat first | exact pa_nil | refine pa_cons (pe_tup (pa_cons pe_int (pa_cons pe_int pa_nil))) ?_)))))))).imp
            (t' := fun De σ H => ∃ v0 wd v2 v3 v4 v5, σ = [v0, some (.int wd), v2, v3, v4, v5] ∧ ∀ s M us rs H', Ex H H' → H M = none → 1 ≤ s → s ≤ 8 → H' M = some (.lst us) → Runs H' us rs → (∀ r ∈ rs, Fits s r) → rs.length ≤ 9 → De.nx [v0, some (.int wd), some (.int s), some (.ref M), v4, v5] H') ?c1)
      (pss_cons (ps_setLc (own := [("_law_run_here", 5)]) (i := 4) (g := gName 5) rfl nd rfl rfl rfl (pi_list (pv 3)) (blkOk_by (own := [("_law_run_here", 5)]) (N := ["_law_draws_here", "_law_word", "_law_size", "_law_menu", "_law_runs", "_law_run_here"]) (sc := defScope s__law_special) (by decide +kernel)) (fun _ _ _ _ _ => pg_name (i := 5) nd rfl (Or.inl rfl))
        (fun _ _ _ _ _ => pts_one (pt_cmpR op_lt (pe_call F1 hr (by rfl) m1 kp1 b1 .nil pass0 (pa_cons (pv 0) (pa_cons pe_int pa_nil))) pe_int (nomark _))) (fun _ _ _ _ _ => pv 5))
      (pss_one (ps_ret (pe_lst (pa_cons (pv 2) (pa_cons (pv 4) pa_nil))))))), ?_⟩
    case c1 =>
      rintro De σ H ⟨v0, wd, v2, v3, v4, v5, rfl, k⟩
      refine ⟨_, rfl, rfl, _, rfl, ?_⟩
      by_cases c : V.int wd = V.int 0
      · refine iteT' (decide_eq_true c) (menu_set _ (by decide) fun M us H' e hM hM' R => ?_)
        exact k 3 M us _ H' e hM (by decide) (by decide) hM' R (by show ∀ r ∈ [((0 : Int), (1 : Int)), (0, 2), (1, 2), (1, 3), (2, 3), (0, 3), (1, 2)], 0 ≤ r.1 ∧ r.1 < r.2 ∧ r.2 ≤ 3; decide) (by decide)
      refine iteF' (decide_eq_false c) ⟨_, rfl, rfl, _, rfl, ?_⟩
      by_cases c : V.int wd = V.int 1
      · refine iteT' (decide_eq_true c) (menu_set _ (by decide) fun M us H' e hM hM' R => ?_)
        exact k 5 M us _ H' e hM (by decide) (by decide) hM' R (by show ∀ r ∈ [((0 : Int), (1 : Int)), (1, 2), (1, 3), (2, 3), (2, 4), (3, 4), (4, 5), (0, 1), (4, 5)], 0 ≤ r.1 ∧ r.1 < r.2 ∧ r.2 ≤ 5; decide) (by decide)
      · refine iteF' (decide_eq_false c) (menu_set _ (by decide) fun M us H' e hM hM' R => ?_)
        exact k 4 M us _ H' e hM (by decide) (by decide) hM' R (by show ∀ r ∈ [((0 : Int), (4 : Int)), (0, 2), (2, 4), (0, 1), (1, 2), (2, 3), (3, 4), (1, 2), (0, 4)], 0 ≤ r.1 ∧ r.1 < r.2 ∧ r.2 ≤ 4; decide) (by decide)
    refine ⟨_, rfl, D, 3, rfl, hD, by decide, fun wd H1 h0 h1 k1 d1 => ⟨_, wd, _, _, _, _, rfl, fun s M us rs H2 e2 hM hs1 hs8 hM2 R2 hF hl => ?_⟩⟩
    have k2 := k1.trans (Kp.of e2)
    have d2 := d1.ex e2
    have hM0 : H M = none := k1.fresh d1 hM
    have hMD : M ≠ D := Kp.ne hD hM0
    refine ⟨_, rfl, M, rfl, ⟨_, SqL.of hM2⟩, fun L hL => lc_it walk_list (fun i H' => Kp D H H' ∧ Dr D H' ∧ H' M = some (.lst us) ∧ Runs H' us rs ∧ ∃ us' rs', H' L = some (.lst us') ∧ Runs H' us' rs' ∧ (∀ r ∈ rs', Fits s r) ∧ rs'.length ≤ i)
      ⟨k2.trans (Kp.of (Ex.new hL)), d2.ex (Ex.new hL), Ex.new hL _ _ hM2, R2.ex (Ex.new hL), [], [], upd_same, Runs.nil, (fun _ h => by cases h), Nat.le_refl _⟩ (fun i H' _ q => SqL.of q.2.2.1) ?_ ?_⟩
    · rintro i x H3 H4 hi ⟨k3, d3, hM3, R3, us', rs', hL3, R3', hF', hl'⟩ ⟨rfl, hx⟩
      have hL0 : H L = none := k2.fresh d2 hL
      have hLD : L ≠ D := Kp.ne hD hL0
      obtain ⟨t, r, hr', rfl, ht⟩ := R3.get hx
      refine ⟨rfl, ?_⟩
      refine ⟨_, rfl, D, 8, rfl, d3, by decide, fun q H5 h4 h5 k5 d5 => ⟨_, _, rfl, rfl, _, rfl, ?_⟩⟩
      have hL5 := k5 _ _ hLD hL3
      have hM5 := k5 _ _ hMD hM3
      have R5 := k5.runs d3 R3
      have R5' := k5.runs d3 R3'
      have ht5 := k5.tup d3 ht
      have k05 := k3.trans k5
      have hlen := R5'.len
      have hil : i < 1000 := by rw [R2.len] at hi; omega
      by_cases c : q < 7
      · refine iteT' (decide_eq_true c) ⟨_, rfl, us', hL5, small1000 (by omega), k05.mut hL0, ?_, ?_, ?_, us' ++ [.ref t], rs' ++ [r], upd_same, ?_, ?_, ?_⟩
        · obtain ⟨ms, hms⟩ := d5
          exact ⟨ms, by rw [upd_ne (Ne.symm hLD)]; exact hms⟩
        · rw [upd_ne (ne_of_none hM2 hL)]
          exact hM5
        · exact R5.mono fun t' ys e => by rw [upd_ne (ne_of e hL5 (by intro z; cases z))]; exact e
        · refine Runs.snoc (R5'.mono fun t' ys e => by rw [upd_ne (ne_of e hL5 (by intro z; cases z))]; exact e) ?_
          rw [upd_ne (ne_of ht5 hL5 (by intro z; cases z))]
          exact ht5
        · intro r' hr
          rcases List.mem_append.mp hr with hr | hr
          · exact hF' r' hr
          · rw [List.mem_singleton.mp hr]
            exact hF r (List.mem_of_getElem? hr')
        · rw [List.length_append]
          have : [r].length = 1 := rfl
          omega
      · exact iteF' (decide_eq_false c) ⟨k05, d5, hM5, R5, us', rs', hL5, R5', hF', by omega⟩
    · rintro H3 ⟨k3, d3, hM3, R3, us', rs', hL3, R3', hF', hl'⟩
      have hL0 : H L = none := k2.fresh d2 hL
      refine ⟨_, rfl, _, rfl, (by show 2 ≤ sizeLine; decide), fun q hq => ?_⟩
      exact k q L s us' rs' _ (k3.trans (Kp.of (Ex.new hq))) (d3.ex (Ex.new hq)) hL0 upd_same (Kp.ne d3 hq) (Ex.new hq _ _ hL3) (R3'.ex (Ex.new hq)) hF' hs1 hs8 (by rw [R2.len] at hl'; omega)
end
end K00


set_option Elab.async false
set_option linter.all false
set_option maxRecDepth 100000
set_option maxHeartbeats 4000000
namespace K00
open PySem PySem.Spec PyProof.Rows L2
open Evl (Ex)
theorem cutV_nine (xs : List V) : (cutV xs none (some 9)).length ≤ 9 := by
  unfold cutV HT.sIx
  simp
  omega
section
variable {w : World} {K : PySem.W.Frag} {mg : Str → Option Value} {base : Heap}
/-- the parts that are gone, in order -/
def Gone (H : Hp) (a : Addr) (m : Nat) : Prop := ∃ gs : List Int, H a = some (.lst (gs.map V.int)) ∧ gs.Pairwise (· < ·) ∧ ∀ n ∈ gs, 0 ≤ n ∧ n < m
theorem Gone.ex {H H' : Hp} {a : Addr} {m : Nat} (h : Gone H a m) (e : Ex H H') : Gone H' a m := by
  obtain ⟨gs, q, r⟩ := h
  exact ⟨gs, e _ _ q, r⟩
theorem Gone.kp {D : Addr} {H H' : Hp} {a : Addr} {m : Nat} (h : Gone H a m) (k : Kp D H H') (n : a ≠ D) : Gone H' a m := by
  obtain ⟨gs, q, r⟩ := h
  exact ⟨gs, k _ _ n q, r⟩
def spMk : Sp := fun vs H Q _ => ∃ (D : Addr), vs = [.ref D, .int 9] ∧ Dr D H ∧ ∀ L M a s us rs H', Kp D H H' → Dr D H' → H M = none → H L = none → H' L = some (.lst [.int s, .ref M, .ref a]) → H' M = some (.lst us) → Runs H' us rs → (∀ r ∈ rs, Fits s r) → 1 ≤ s → s ≤ 8 → rs.length ≤ 9 → H a = none → Gone H' a us.length → Q (.ref L) H'
theorem sc_mk : FnScope ["_law_draws_here", "_law_most", "_law_word", "_law_drawn", "_law_size", "_law_runs", "_law_turn", "_law_absent"] ["_law_draws_here", "_law_most"] (defScope s__law_market) := ⟨rfl, rfl, rfl, by decide +kernel, rfl, by decide +kernel, by decide +kernel⟩
theorem has_mk (T : Ctx K mg) : Has w K mg base CX0 "_law_market" 3 ["_law_draws_here", "_law_most"] spMk := by
  obtain ⟨f1, fd1, m1, kp1, F1, b1⟩ := has_take (w := w) (base := base) T
  obtain ⟨f2, fd2, m2, kp2, F2, b2⟩ := has_special (w := w) (base := base) T
  obtain ⟨f3, fd3, m3, kp3, F3, b3⟩ := has_chains (w := w) (base := base) T
  refine has_of (st := s__law_market) (f := He.ga K "_law_market") T.d__law_market T.g__law_market (fun _ _ _ _ _ _ us hl => match us, hl with | [_, _], _ => rfl) fun fd F => ?_
  refine ok0 F sc_mk (fun vs H Q E h => ?_) (fun cdv A outer s0 H vs Q E hr h => ?_)
  · obtain ⟨D, rfl, _⟩ := h
    rfl
  · obtain ⟨D, rfl, hD, k⟩ := h
    have nd := sc_mk.nd
    have hr1 := hr.mono (show 1 ≤ 2 by decide)
    refine ⟨_, pss_cons (ps_set (i := 2) nd rfl (.inl rfl) (pe_call F1 hr1 (by rfl) m1 kp1 b1 .nil pass0 (pa_cons (pv 0) (pa_cons pe_int pa_nil))))
      (pss_cons ((ps_if (pt_cmpR op_ge (pv 2) pe_int (nomark _))
          (pss_cons (ps_set (i := 3) nd rfl (.inl rfl) (pe_call F2 hr (by rfl) m2 kp2 b2 .nil pass0 (pa_cons (pv 0) pa_nil)))
          (pss_cons (ps_set (i := 4) nd rfl (.inl rfl) (pe_ix ix_list (pv 3) pe_int (fun _ _ => rfl)))
          (pss_one (ps_set (i := 5) nd rfl (.inl rfl) (pe_ix ix_list (pv 3) pe_int (fun _ _ => rfl))))))
          (pss_cons (ps_set (i := 4) nd rfl (.inl rfl) (pe_ix ix_list (pe_lst (pa_cons pe_int (pa_cons pe_int (pa_cons pe_int (pa_cons pe_int (pa_cons pe_int (pa_cons pe_int (pa_cons pe_int (pa_cons pe_int (pa_cons pe_int (pa_cons pe_int pa_nil))))))))))) (pe_call F1 hr1 (by rfl) m1 kp1 b1 .nil pass0 (pa_cons (pv 0) (pa_cons pe_int pa_nil))) (fun _ _ => rfl)))
          (pss_cons (ps_if (pt_cmpR op_eq (pe_call F1 hr1 (by rfl) m1 kp1 b1 .nil pass0 (pa_cons (pv 0) (pa_cons pe_int pa_nil))) pe_int (nomark _)) (pss_one (ps_set (i := 4) nd rfl (.inl rfl) pe_int)) pss_nil)
          (pss_one (ps_set (i := 5) nd rfl (.inl rfl) (pe_call F3 hr (by rfl) m3 kp3 b3 .nil pass0 (pa_cons (pv 0) (pa_cons (pv 4) pa_nil)))))))).imp
            (t' := fun De σ H => ∃ wd v3 v4 v5 v6 v7, σ = [some (.ref D), some (.int 9), some (.int wd), v3, v4, v5, v6, v7] ∧ Dr D H ∧ ∀ w3 s M us rs H', Kp D H H' → Dr D H' → H M = none → 1 ≤ s → s ≤ 8 → H' M = some (.lst us) → Runs H' us rs → (∀ r ∈ rs, Fits s r) → rs.length ≤ 27 → De.nx [some (.ref D), some (.int 9), some (.int wd), w3, some (.int s), some (.ref M), v6, v7] H') ?c1)
      (pss_cons (ps_set (i := 6) nd rfl (.inl rfl) (pe_call F1 hr1 (by rfl) m1 kp1 b1 .nil pass0 (pa_cons (pv 0) (pa_cons pe_int pa_nil))))
      (pss_cons ((ps_if (pt_cmpR op_lt (pv 6) (pe_callB call_len_seq (by rfl) T.b_len PySem.boot_len (pa_cons (pv 5) pa_nil)) (nomark _))
          (pss_one (ps_set (i := 5) nd rfl (.inl rfl) (pe_op op_cat (pe_slice sl_list (pv 5) (po_some (pv 6)) po_none) (pe_slice sl_list (pv 5) po_none (po_some (pv 6)))))) pss_nil).imp
            (t' := fun De σ H => ∃ v0 v1 v2 v3 v4 v7 M us rs tn, σ = [v0, v1, v2, v3, v4, some (.ref M), some (.int tn), v7] ∧ H M = some (.lst us) ∧ Runs H us rs ∧ rs.length ≤ 27 ∧ ∀ M' us' rs' H', Ex H H' → (M' = M ∨ H M' = none) → H' M' = some (.lst us') → Runs H' us' rs' → (∀ r ∈ rs', r ∈ rs) → rs'.length ≤ 54 → De.nx [v0, v1, v2, v3, v4, some (.ref M'), some (.int tn), v7] H') ?c2)
      (pss_cons (ps_set (i := 5) nd rfl (.inl rfl) (pe_slice sl_list (pv 5) po_none (po_some (pv 1))))
      (pss_cons (ps_set (i := 7) nd rfl (.inl rfl) (pe_lst pa_nil))
      (pss_cons ((ps_if (PW.pt (pw_and (pt_cmpR op_eq (pe_call F1 hr1 (by rfl) m1 kp1 b1 .nil pass0 (pa_cons (pv 0) (pa_cons pe_int pa_nil))) pe_int (nomark _)) (pw_and1 (pt_cmpR op_gt (pe_callB call_len_seq (by rfl) T.b_len PySem.boot_len (pa_cons (pv 5) pa_nil)) pe_int (nomark _)))))
          (pss_one (ps_set (i := 7) nd rfl (.inl rfl) (pe_lst (pa_cons (pe_call F1 hr1 (by rfl) m1 kp1 b1 .nil pass0 (pa_cons (pv 0) (pa_cons (pe_callB call_len_seq (by rfl) T.b_len PySem.boot_len (pa_cons (pv 5) pa_nil)) pa_nil))) pa_nil)))) pss_nil).imp
            (t' := fun De σ H => ∃ v1 v2 v3 v4 v6 a M us, σ = [some (.ref D), v1, v2, v3, v4, some (.ref M), v6, some (.ref a)] ∧ Dr D H ∧ M ≠ D ∧ H M = some (.lst us) ∧ a ≠ D ∧ H a = some (.lst []) ∧ ∀ a' H', Kp D H H' → Dr D H' → (a' = a ∨ H a' = none) → Gone H' a' us.length → De.nx [some (.ref D), v1, v2, v3, v4, some (.ref M), v6, some (.ref a')] H') ?c3)
      (pss_one (ps_ret (pe_lst (pa_cons (pv 4) (pa_cons (pv 5) (pa_cons (pv 7) pa_nil)))))))))))), ?_⟩
    case c1 =>
      rintro De σ H ⟨wd, v3, v4, v5, v6, v7, rfl, hD, k⟩
      refine ⟨_, rfl, _, _, rfl, rfl, _, rfl, ?_⟩
      by_cases c : 3 ≤ wd
      · refine iteT' (decide_eq_true c) ⟨_, rfl, D, rfl, hD, fun L M s us rs H1 k1 d1 hM hL hLD hM1 R1 hF hs1 hs8 hl => ?_⟩
        refine ⟨_, rfl, L, _, 0, _, rfl, rfl, SqL.of hL, atI_nat (j := 0) rfl, ?_⟩
        refine ⟨_, rfl, L, _, 1, _, rfl, rfl, SqL.of hL, atI_nat (j := 1) rfl, ?_⟩
        exact k _ s M us rs H1 k1 d1 hM hs1 hs8 hM1 R1 hF (by omega)
      · refine iteF' (decide_eq_false c) ⟨(by show 10 ≤ sizeLine; decide), fun p hp => ⟨_, rfl, D, 10, rfl, hD.ex (Ex.new hp), by decide, fun q H1 h0 h1 k1 d1 => ?_⟩⟩
        have hp1 := k1 _ _ (Kp.ne hD hp) (upd_same (H := H) (a := p))
        obtain ⟨s, hs, hs1, hs8⟩ : ∃ s : Int, atI [V.int 3, .int 1, .int 2, .int 4, .int 5, .int 3, .int 4, .int 3, .int 6, .int 2] q = some (.int s) ∧ 1 ≤ s ∧ s ≤ 8 := by
          have hq : ∃ n : Nat, n < 10 ∧ q = (n : Int) := ⟨q.toNat, by omega, by omega⟩
          obtain ⟨n, hn, rfl⟩ := hq
          have z : ∀ n : Nat, n < 10 → ∃ s : Int, [V.int 3, .int 1, .int 2, .int 4, .int 5, .int 3, .int 4, .int 3, .int 6, .int 2][n]? = some (.int s) ∧ 1 ≤ s ∧ s ≤ 8 := fun n hn => by
            match n, hn with
            | 0, _ => exact ⟨3, rfl, by decide, by decide⟩
            | 1, _ => exact ⟨1, rfl, by decide, by decide⟩
            | 2, _ => exact ⟨2, rfl, by decide, by decide⟩
            | 3, _ => exact ⟨4, rfl, by decide, by decide⟩
            | 4, _ => exact ⟨5, rfl, by decide, by decide⟩
            | 5, _ => exact ⟨3, rfl, by decide, by decide⟩
            | 6, _ => exact ⟨4, rfl, by decide, by decide⟩
            | 7, _ => exact ⟨3, rfl, by decide, by decide⟩
            | 8, _ => exact ⟨6, rfl, by decide, by decide⟩
            | 9, _ => exact ⟨2, rfl, by decide, by decide⟩
          obtain ⟨s, a, b⟩ := z n hn
          exact ⟨s, atI_nat a, b⟩
        refine ⟨p, _, q, _, rfl, rfl, SqL.of hp1, hs, ?_⟩
        have k01 := (Kp.of (Ex.new (o := .lst [V.int 3, .int 1, .int 2, .int 4, .int 5, .int 3, .int 4, .int 3, .int 6, .int 2]) hp)).trans k1
        refine ⟨_, rfl, D, 12, rfl, d1, by decide, fun q2 H2 h2 h3 k2 d2 => ⟨rfl, _, rfl, ?_⟩⟩
        have k02 := k01.trans k2
        have fin : ∀ s' : Int, 1 ≤ s' → s' ≤ 8 → spChains ([V.ref D, .int s'] ++ []) H2 (fun v H' => De.nx [some (.ref D), some (.int 9), some (.int wd), v3, some (.int s'), some v, v6, v7] H') E := fun s' h4 h5 =>
          ⟨D, s', rfl, d2, h4, h5, fun R H3 hR L3 => by
            obtain ⟨us, rs, a1, a2, a3, a4⟩ := L3.li
            exact k _ s' R us rs H3 (k02.trans L3.kp) L3.dr (k02.fresh d2 hR) h4 h5 a1 a2 a3 a4⟩
        by_cases c2 : V.int q2 = V.int 11
        · exact iteT' (decide_eq_true c2) ⟨_, rfl, _, rfl, fin 8 (by decide) (by decide)⟩
        · exact iteF' (decide_eq_false c2) ⟨_, rfl, _, rfl, fin s hs1 hs8⟩
    case c2 =>
      rintro De σ H ⟨v0, v1, v2, v3, v4, v7, M, us, rs, tn, rfl, hM, R, hl, k⟩
      refine ⟨_, rfl, _, rfl, M, us, rfl, .inl (SqL.of hM), _, _, rfl, rfl, _, rfl, ?_⟩
      by_cases c : tn < (us.length : Int)
      · refine iteT' (decide_eq_true c) ⟨_, rfl, _, rfl, _, rfl, M, us, rfl, SqL.of hM, fun p hp => ?_⟩
        have e1 : Ex H (upd H p (.lst (cutV us (some tn) none))) := Ex.new hp
        refine ⟨_, rfl, _, rfl, _, rfl, M, us, rfl, SqL.of (e1 _ _ hM), fun p2 hp2 => ?_⟩
        have e2 := e1.trans (Ex.new (o := .lst (cutV us none (some tn))) hp2)
        obtain ⟨ra, Ra, ma, la⟩ := R.cut (some tn) none
        obtain ⟨rb, Rb, mb, lb⟩ := R.cut none (some tn)
        have l1 := Ra.len
        have l2 := Rb.len
        refine ⟨p, p2, _, _, rfl, rfl, Ex.new hp2 _ _ upd_same, upd_same, Nat.le_trans (by omega) (show 1000 ≤ sizeLine by decide), fun p3 hp3 => ?_⟩
        exact k p3 _ (ra ++ rb) _ (e2.trans (Ex.new hp3)) (.inr (Evl.fresh_back e2 hp3)) upd_same ((Ra.app Rb).ex (e2.trans (Ex.new hp3))) (fun r hr => by
          rcases List.mem_append.mp hr with hr | hr
          · exact ma r hr
          · exact mb r hr) (by rw [List.length_append]; omega)
      · exact iteF' (decide_eq_false c) (k M us rs H (Ex.refl H) (.inl rfl) hM R (fun r hr => hr) (by omega))
    case c3 =>
      rintro De σ H ⟨v1, v2, v3, v4, v6, a, M, us, rfl, hD, hMD, hM, haD, ha, k⟩
      refine ⟨_, rfl, D, 10, rfl, hD, by decide, fun q H1 h0 h1 k1 d1 => ⟨rfl, _, rfl, ?_⟩⟩
      have hM1 := k1 _ _ hMD hM
      by_cases c : V.int q = V.int 9
      · refine iteT' (decide_eq_true c) ⟨_, rfl, M, us, rfl, .inl (SqL.of hM1), _, _, rfl, rfl, _, rfl, ?_⟩
        by_cases c2 : (1 : Int) < (us.length : Int)
        · refine iteT' (decide_eq_true c2) ⟨_, rfl, _, rfl, M, us, rfl, .inl (SqL.of hM1), D, _, rfl, d1, by omega, fun q2 H2 h2 h3 k2 d2 => ⟨(by show 1 ≤ sizeLine; decide), fun p hp => ?_⟩⟩
          exact k p _ ((k1.trans k2).trans (Kp.of (Ex.new hp))) (d2.ex (Ex.new hp)) (.inr ((k1.trans k2).fresh d2 hp)) ⟨[q2], upd_same, List.pairwise_singleton _ _, fun n hn => by rw [List.mem_singleton.mp hn]; exact ⟨h2, h3⟩⟩
        · exact iteF' (decide_eq_false c2) (k a H1 k1 d1 (.inl rfl) ⟨[], k1 _ _ haD ha, List.Pairwise.nil, fun n hn => nomatch hn⟩)
      · exact iteF' (decide_eq_false c) (k a H1 k1 d1 (.inl rfl) ⟨[], k1 _ _ haD ha, List.Pairwise.nil, fun n hn => nomatch hn⟩)
    refine ⟨_, rfl, D, 5, rfl, hD, by decide, fun wd H1 h0 h1 k1 d1 => ⟨wd, _, _, _, _, _, rfl, d1, fun w3 s M us rs H2 k2 d2 hM hs1 hs8 hM2 R2 hF hl => ?_⟩⟩
    have k02 := k1.trans k2
    have hM0 := k1.fresh d1 hM
    have hMD : M ≠ D := Kp.ne hD hM0
    refine ⟨_, rfl, D, 9, rfl, d2, by decide, fun tn H3 h2 h3 k3 d3 => ⟨_, _, _, _, _, _, M, us, rs, tn, rfl, k3 _ _ hMD hM2, k3.runs d2 R2, hl, fun M' us' rs' H4 e4 hM' hM4 R4 hF' hl' => ?_⟩⟩
    have k04 := (k02.trans k3).trans (Kp.of e4)
    have d4 := d3.ex e4
    refine ⟨_, rfl, _, rfl, _, rfl, M', us', rfl, SqL.of hM4, fun p hp => ?_⟩
    have e5 : Ex H4 (upd H4 p (.lst (cutV us' none (some 9)))) := Ex.new hp
    obtain ⟨rc, Rc, mc, lc⟩ := R4.cut none (some 9)
    have l9 := cutV_nine us'
    have lc' := Rc.len
    have hp5 : upd H4 p (.lst (cutV us' none (some 9))) p = some (.lst (cutV us' none (some 9))) := upd_same
    have hp0 : H p = none := k04.fresh d4 hp
    have Rc5 := Rc.ex e5
    have k05 := k04.trans (Kp.of e5)
    have d5 := d4.ex e5
    generalize cutV us' none (some 9) = uc at *
    generalize upd H4 p (.lst uc) = H5 at *
    have hpD : p ≠ D := Kp.ne hD hp0
    refine ⟨(by show 0 ≤ sizeLine; decide), fun a ha => ⟨_, _, _, _, _, a, p, uc, rfl, d5.ex (Ex.new ha), hpD, Ex.new ha _ _ hp5, Kp.ne d5 ha, upd_same, fun a' H6 k6 d6 ha' hG => ?_⟩⟩
    have hp6 := k6 _ _ hpD (Ex.new ha _ _ hp5)
    have R6 := k6.runs (d5.ex (Ex.new ha)) (Rc5.ex (Ex.new ha))
    have k06 := (k05.trans (Kp.of (Ex.new ha))).trans k6
    refine ⟨_, rfl, _, rfl, _, rfl, (by show 3 ≤ sizeLine; decide), fun L hL => ?_⟩
    exact k L p a' s uc rc _ (k06.trans (Kp.of (Ex.new hL))) (d6.ex (Ex.new hL)) hp0 (k06.fresh d6 hL) upd_same (Ex.new hL _ _ hp6) (R6.ex (Ex.new hL)) (fun r hr => hF r (hF' r (mc r hr))) hs1 hs8 (by omega) (ha'.elim (fun z => by rw [z]; exact k05.fresh d5 ha) fun z => (k05.trans (Kp.of (Ex.new ha))).fresh (d5.ex (Ex.new ha)) z) (hG.ex (Ex.new hL))
end
end K00


set_option Elab.async false
set_option linter.all false
set_option maxRecDepth 100000
set_option maxHeartbeats 4000000
namespace K00
open PySem PySem.Spec PyProof.Rows L2
open Evl (Ex)
section
variable {w : World} {K : PySem.W.Frag} {mg : Str → Option Value} {base : Heap}
def spKind : Sp := fun vs H Q _ => ∃ (D : Addr), vs = [.ref D] ∧ Dr D H ∧ ∀ kd H', (kd = ("join" : Str) ∨ kd = ("lap" : Str)) → Kp D H H' → Dr D H' → Q (.str kd) H'
theorem sc_kind : FnScope ["_law_draws_here"] ["_law_draws_here"] (defScope s__law_kind) := ⟨rfl, rfl, rfl, by decide +kernel, rfl, by decide +kernel, by decide +kernel⟩
theorem has_kind (T : Ctx K mg) : Has w K mg base CX0 "_law_kind" 2 ["_law_draws_here"] spKind := by
  obtain ⟨f1, fd1, m1, kp1, F1, b1⟩ := has_take (w := w) (base := base) T
  refine has_of (st := s__law_kind) (f := He.ga K "_law_kind") T.d__law_kind T.g__law_kind (fun _ _ _ _ _ _ us hl => match us, hl with | [_], _ => rfl) fun fd F => ?_
  refine ok0 F sc_kind (fun vs H Q E h => ?_) (fun cdv A outer s0 H vs Q E hr h => ?_)
  · obtain ⟨D, rfl, _⟩ := h
    rfl
  · obtain ⟨D, rfl, hD, k⟩ := h
    refine ⟨_, pss_cons (ps_if (pt_cmpR op_eq (pe_call F1 hr (by rfl) m1 kp1 b1 .nil pass0 (pa_cons (pv 0) (pa_cons pe_int pa_nil))) pe_int (nomark _)) (pss_one (ps_ret pe_str)) pss_nil) (pss_one (ps_ret pe_str)), ?_⟩
    refine ⟨_, rfl, D, 3, rfl, hD, by decide, fun q H1 h0 h1 k1 d1 => ⟨rfl, _, rfl, ?_⟩⟩
    by_cases c : V.int q = V.int 2
    · exact iteT' (decide_eq_true c) (k _ H1 (.inr rfl) k1 d1)
    · exact iteF' (decide_eq_false c) (k _ H1 (.inl rfl) k1 d1)
/-- the law makes a market -/
def spBuilt (K : PySem.W.Frag) : Sp := fun vs H Q _ => ∃ (kd : Str) (s : Int) (a g : Addr) (us : List V) (rs : List (Int × Int)) (ns : List Int), vs = [.str kd, .int s, .ref a, .ref g] ∧ (kd = "join" ∨ kd = "lap") ∧ MArg H s a g us rs ns ∧
  ∀ x H', Ex H H' → H x = none → Mkt K H' x kd s us rs ns → Q (.ref x) H'
theorem sc_built : FnScope ["_law_kind_here", "_law_size", "_law_runs", "_law_absent"] ["_law_kind_here", "_law_size", "_law_runs", "_law_absent"] (defScope s__law_built) := ⟨rfl, rfl, rfl, by decide +kernel, rfl, by decide +kernel, by decide +kernel⟩
theorem has_built (T : Ctx K mg) : Has w K mg base CX0 "_law_built" 8 ["_law_kind_here", "_law_size", "_law_runs", "_law_absent"] (spBuilt K) := by
  obtain ⟨fj, Fj, bj⟩ := ok_Join_init (w := w) (base := base) T
  obtain ⟨fl, Fl, bl⟩ := ok_Lap_init (w := w) (base := base) T
  refine has_of (st := s__law_built) (f := He.ga K "_law_built") T.d__law_built T.g__law_built (fun _ _ _ _ _ _ us hl => match us, hl with | [_, _, _, _], _ => rfl) fun fd F => ?_
  refine ok0 F sc_built (fun vs H Q E h => ?_) (fun cdv A outer s0 H vs Q E hr h => ?_)
  · obtain ⟨kd, s, a, g, us, rs, ns, rfl, _⟩ := h
    rfl
  · obtain ⟨kd, s, a, g, us, rs, ns, rfl, hkd, A0, k⟩ := h
    have hr6 := hr.mono (show 6 + 1 ≤ 7 by decide)
    refine ⟨_, pss_cons (ps_if (pt_cmpR op_eq (pv 0) pe_str (nomark _)) (pss_one (ps_ret (pe_makeK T.mk_Join Fj hr6 (by rfl) T.g_Join bj pass0 (pa_cons (pv 1) (pa_cons (pv 2) pa_nil)) (pk_cons (pv 3) pk_nil)))) pss_nil)
      (pss_one (ps_ret (pe_makeK T.mk_Lap Fl hr6 (by rfl) T.g_Lap bl pass0 (pa_cons (pv 1) (pa_cons (pv 2) pa_nil)) (pk_cons (pv 3) pk_nil)))), ?_⟩
    refine ⟨_, rfl, rfl, _, rfl, ?_⟩
    rcases hkd with rfl | rfl
    · exact iteT' (by simp) ⟨_, rfl, _, rfl, _, rfl, rfl, rfl, fun y dx hy hdx hne => made (.inl ⟨rfl, rfl⟩) A0 hy hdx hne fun H6 e6 hMk => k _ _ e6 hy hMk⟩
    · exact iteF ⟨_, rfl, _, rfl, _, rfl, rfl, rfl, fun y dx hy hdx hne => made (.inr ⟨rfl, rfl⟩) A0 hy hdx hne fun H6 e6 hMk => k _ _ e6 hy hMk⟩
end
end K00


set_option Elab.async false
set_option linter.all false
set_option maxRecDepth 100000
set_option maxHeartbeats 4000000
namespace K00
open PySem PySem.Spec PyProof.Rows L2
open Evl (Ex)
section
variable {w : World} {K : PySem.W.Frag} {mg : Str → Option Value} {base : Heap}
def spRunD : Sp := fun vs H Q _ => ∃ (D : Addr) (s : Int), vs = [.ref D, .int s] ∧ Dr D H ∧ 1 ≤ s ∧ ∀ t r H', Fits s r → Kp D H H' → Dr D H' → H t = none → H' t = some (.tup [.int r.1, .int r.2]) → Q (.ref t) H'
theorem sc_runD : FnScope ["_law_draws_here", "_law_size", "_law_start"] ["_law_draws_here", "_law_size"] (defScope s__law_run) := ⟨rfl, rfl, rfl, by decide +kernel, rfl, by decide +kernel, by decide +kernel⟩
theorem has_runD (T : Ctx K mg) : Has w K mg base CX0 "_law_run" 2 ["_law_draws_here", "_law_size"] spRunD := by
  obtain ⟨f1, fd1, m1, kp1, F1, b1⟩ := has_take (w := w) (base := base) T
  refine has_of (st := s__law_run) (f := He.ga K "_law_run") T.d__law_run T.g__law_run (fun _ _ _ _ _ _ us hl => match us, hl with | [_, _], _ => rfl) fun fd F => ?_
  refine ok0 F sc_runD (fun vs H Q E h => ?_) (fun cdv A outer s0 H vs Q E hr h => ?_)
  · obtain ⟨D, s, rfl, _⟩ := h
    rfl
  · obtain ⟨D, s, rfl, hD, hs, k⟩ := h
    have nd := sc_runD.nd
    refine ⟨_, pss_cons (ps_set (i := 2) nd rfl (.inl rfl) (pe_call F1 hr (by rfl) m1 kp1 b1 .nil pass0 (pa_cons (pv 0) (pa_cons (pv 1) pa_nil))))
      (pss_one (ps_ret (pe_tup (pa_cons (pv 2) (pa_cons (pe_op op_add (pe_op op_add (pv 2) pe_int) (pe_call F1 hr (by rfl) m1 kp1 b1 .nil pass0 (pa_cons (pv 0) (pa_cons (pe_op op_sub (pv 1) (pv 2)) pa_nil)))) pa_nil))))), ?_⟩
    refine ⟨_, rfl, _, rfl, D, s, rfl, hD, by omega, fun q H1 h0 h1 k1 d1 => ?_⟩
    refine ⟨_, rfl, _, rfl, _, _, rfl, rfl, _, rfl, _, rfl, _, rfl, _, _, rfl, rfl, D, s - q, rfl, d1, by omega, fun q2 H2 h2 h3 k2 d2 => ⟨_, _, rfl, rfl, (by show 2 ≤ sizeLine; decide), fun t ht => ?_⟩⟩
    have k12 := k1.trans k2
    exact k t (q, q + 1 + q2) _ ⟨h0, by show q < q + 1 + q2; omega, by show q + 1 + q2 ≤ s; omega⟩ (k12.trans (Kp.of (Ex.new ht))) (d2.ex (Ex.new ht)) (k12.fresh d2 ht) upd_same
def spParts : Sp := fun vs H Q _ => ∃ (D : Addr) (m : Int), vs = [.ref D, .int m] ∧ Dr D H ∧ 0 ≤ m ∧ m ≤ 50 ∧ ∀ (A : Addr) (gs : List Int) H', Kp D H H' → Dr D H' → H A = none → H' A = some (.lst (gs.map V.int)) → gs.Pairwise (· < ·) → (∀ n ∈ gs, 0 ≤ n ∧ n < m) → Q (.ref A) H'
theorem sc_parts : FnScope ["_law_draws_here", "_law_many", "_law_part"] ["_law_draws_here", "_law_many"] (defScope s__law_parts) := ⟨rfl, rfl, rfl, by decide +kernel, rfl, by decide +kernel, by decide +kernel⟩
theorem has_parts (T : Ctx K mg) : Has w K mg base CX0 "_law_parts" 2 ["_law_draws_here", "_law_many"] spParts := by
  obtain ⟨f1, fd1, m1, kp1, F1, b1⟩ := has_take (w := w) (base := base) T
  refine has_of (st := s__law_parts) (f := He.ga K "_law_parts") T.d__law_parts T.g__law_parts (fun _ _ _ _ _ _ us hl => match us, hl with | [_, _], _ => rfl) fun fd F => ?_
  refine ok0 F sc_parts (fun vs H Q E h => ?_) (fun cdv A outer s0 H vs Q E hr h => ?_)
  · obtain ⟨D, m, rfl, _⟩ := h
    rfl
  · obtain ⟨D, m, rfl, hD, hm0, hm1, k⟩ := h
    have nd := sc_parts.nd
    refine ⟨_, pss_one (ps_ret (pe_lc (own := [("_law_part", 2)]) (g := gName 2) rfl nd (pi_range1 (by rfl) T.b_range (pa_cons (pv 1) pa_nil)) (blkOk_by (own := [("_law_part", 2)]) (N := ["_law_draws_here", "_law_many", "_law_part"]) (sc := defScope s__law_parts) (by decide +kernel)) (fun _ _ _ _ _ => pg_name (i := 2) nd rfl (Or.inl rfl))
      (fun _ _ _ _ _ => pts_one (pt_cmpR op_eq (pe_call F1 hr (by rfl) m1 kp1 b1 .nil pass0 (pa_cons (pv 0) (pa_cons pe_int pa_nil))) pe_int (nomark _))) (fun _ _ _ _ _ => pv 2))), ?_⟩
    refine ⟨_, rfl, _, rfl, ?_, ?_, fun A hA => lc_it walk_range (fun i H' => Kp D H H' ∧ Dr D H' ∧ ∃ gs : List Int, H' A = some (.lst (gs.map V.int)) ∧ gs.Pairwise (· < ·) ∧ (∀ n ∈ gs, 0 ≤ n ∧ n < i)) ⟨Kp.of (Ex.new hA), hD.ex (Ex.new hA), [], upd_same, List.Pairwise.nil, fun n h => by cases h⟩ (fun _ _ _ _ => trivial) ?_ ?_⟩
    · omega
    · omega
    · rintro i x H6 H7 hi ⟨k6, d6, gs, hA6, asc, inn⟩ ⟨rfl, rfl⟩
      refine ⟨rfl, ?_⟩
      refine ⟨_, rfl, D, 2, rfl, d6, by decide, fun q H8 h2 h3 k8 d8 => ⟨rfl, _, rfl, ?_⟩⟩
      have hAD : A ≠ D := Kp.ne hD hA
      have hA8 := k8 _ _ hAD hA6
      have k58 := k6.trans k8
      have hgl : (gs.length : Int) ≤ (i : Int) - 0 := asc_few asc inn (by omega)
      have hi9 : i < 100 := by omega
      by_cases c : V.int q = V.int 1
      · refine iteT' (decide_eq_true c) ⟨_, rfl, _, hA8, by rw [List.length_map]; exact small1000 (by omega), k58.mut hA, ?_, gs ++ [(i : Int)], ?_, ?_, ?_⟩
        · obtain ⟨ms, hms⟩ := d8
          exact ⟨ms, by rw [upd_ne (Ne.symm hAD)]; exact hms⟩
        · rw [upd_same, List.map_append]
          simp
        · rw [List.pairwise_append]
          refine ⟨asc, List.pairwise_singleton _ _, fun a ha b hb => ?_⟩
          have := inn a ha
          have : b = i := by simpa using hb
          omega
        · intro n hn
          rcases List.mem_append.mp hn with hn | hn
          · have := inn n hn
            omega
          · have : n = i := by simpa using hn
            omega
      · exact iteF' (decide_eq_false c) ⟨k58, d8, gs, hA8, asc, fun n hn => by have := inn n hn; omega⟩
    · rintro H6 ⟨k6, d6, gs, hA6, asc, inn⟩
      exact k A gs H6 k6 d6 hA hA6 asc (fun n hn => by have := inn n hn; omega)
end
end K00


set_option Elab.async false
set_option linter.all false
set_option maxRecDepth 100000
set_option maxHeartbeats 4000000
/-! xs[i] += e, xs a list, i not below 0 -/
namespace L2
open PySem PySem.Spec PyProof.Rows
section
variable {X : Cx}
def rGetL (K : PySem.W.Frag) : V → V → Hp → VK → Prop := fun o i H Q => ∃ (p : Addr) (xs : List V) (j : Nat) (v : V), o = .ref p ∧ i = .int (j : Int) ∧ SqL K H p xs ∧ xs[j]? = some v ∧ Q v H
theorem get_listA : PGet X (rGetL X.K) := by
  intro pins s σ H o i ov iv Q I ro ri hq
  obtain ⟨p, xs, j, v, rfl, rfl, hs, hv, q⟩ := hq
  cases ro
  obtain ⟨t, rfl⟩ := ri
  obtain ⟨its, r, pl, hz⟩ := I.list hs
  obtain ⟨u, hu, ru⟩ := r.get hv
  have hl := r.length
  have hj := (List.getElem?_eq_some_iff.mp hv).1
  have h63 := line63
  exact wpAny_getItem_list pl.isList (Int.natCast_nonneg j) (by omega) (by rw [Int.toNat_natCast]; simpa using hu) ⟨v, H, I, ru, q⟩
/-- o[i] += e -/
theorem ps_augL {o i e : Expr} {to ti te : TE} {tpos pos : Pos} (ho : PE X o to) (hi : PE X i ti) (he : PE X e te)
    (ha : ∀ ov iv new, augStore i ov iv new = (do holding [new, ov, iv] (setItem ov iv new); release [new, ov, iv] []; pure .next) := by intros; rfl) :
    PS X (.AugAssign (.Subscript o i tpos) .Add e pos) (tAugS to ti te (rGetL X.K) (ipI fun i j => i + j) rSetL) := ps_augS ho hi get_listA he ip_add set_list ha
theorem ps_augLs {o i e : Expr} {to ti te : TE} {tpos pos : Pos} (ho : PE X o to) (hi : PE X i ti) (he : PE X e te)
    (ha : ∀ ov iv new, augStore i ov iv new = (do holding [new, ov, iv] (setItem ov iv new); release [new, ov, iv] []; pure .next) := by intros; rfl) :
    PS X (.AugAssign (.Subscript o i tpos) .Sub e pos) (tAugS to ti te (rGetL X.K) (ipI fun i j => i - j) rSetL) := ps_augS ho hi get_listA he ip_sub set_list ha
end
end L2


set_option Elab.async false
set_option linter.all false
set_option maxRecDepth 100000
set_option maxHeartbeats 4000000
namespace K00
open PySem PySem.Spec PyProof.Rows L2
open Evl (Ex)
/-- how many of these parts cover the place -/
def covAt (rs : List (Int × Int)) (ps : List Int) (j : Int) : Int := ((ps.filter fun p => decide ((rs.getD p.toNat (0, 0)).1 ≤ j ∧ j < (rs.getD p.toNat (0, 0)).2)).length : Int)
def rowOf (s : Nat) (f : Int → Int) : List Int := (List.range s).map fun j : Nat => f (j : Int)
def covL (s : Nat) (rs : List (Int × Int)) (ps : List Int) : List Int := rowOf s (covAt rs ps)
/-- the row with one more on j places behind b -/
def bump (f : Int → Int) (b : Int) (j : Nat) (q : Int) : Int := f q + (if b ≤ q ∧ q < b + j then 1 else 0)
theorem row_get {s : Nat} {f : Int → Int} {j : Nat} (h : j < s) : (rowOf s f)[j]? = some (f j) := by
  unfold rowOf
  rw [List.getElem?_map, List.getElem?_range h]
  rfl
theorem row_set {s : Nat} {f g : Int → Int} {j : Nat} {v : Int} (h : j < s) (hv : g j = v) (ho : ∀ q : Nat, q < s → q ≠ j → g q = f q) : (rowOf s f).set j v = rowOf s g := by
  apply List.ext_getElem?
  intro q
  rw [List.getElem?_set]
  by_cases c : j = q
  · subst c
    rw [if_pos rfl, row_get h, hv]
    have : (rowOf s f).length = s := by unfold rowOf; simp
    rw [if_pos (by rw [this]; exact h)]
  · rw [if_neg c]
    by_cases hq : q < s
    · rw [row_get hq, row_get hq, ho q hq (Ne.symm c)]
    · have l1 : (rowOf s f).length = s := by unfold rowOf; simp
      have l2 : (rowOf s g).length = s := by unfold rowOf; simp
      rw [List.getElem?_eq_none (by omega), List.getElem?_eq_none (by omega)]
theorem row_len (s : Nat) (f : Int → Int) : (rowOf s f).length = s := by unfold rowOf; simp
theorem row_congr {s : Nat} {f g : Int → Int} (h : ∀ q : Nat, q < s → f q = g q) : rowOf s f = rowOf s g := by
  unfold rowOf
  exact List.map_congr_left fun q hq => h q (List.mem_range.mp hq)
theorem covAt_snoc (rs : List (Int × Int)) (ps : List Int) (p j : Int) : covAt rs (ps ++ [p]) j = covAt rs ps j + (if (rs.getD p.toNat (0, 0)).1 ≤ j ∧ j < (rs.getD p.toNat (0, 0)).2 then 1 else 0) := by
  unfold covAt
  rw [List.filter_append, List.length_append]
  by_cases c : (rs.getD p.toNat (0, 0)).1 ≤ j ∧ j < (rs.getD p.toNat (0, 0)).2
  · rw [if_pos c]
    have : [p].filter (fun p => decide ((rs.getD p.toNat (0, 0)).1 ≤ j ∧ j < (rs.getD p.toNat (0, 0)).2)) = [p] := by simp only [List.filter_cons, List.filter_nil, decide_eq_true c, if_true]
    rw [this]
    rfl
  · rw [if_neg c]
    have : [p].filter (fun p => decide ((rs.getD p.toNat (0, 0)).1 ≤ j ∧ j < (rs.getD p.toNat (0, 0)).2)) = [] := by simp only [List.filter_cons, List.filter_nil, decide_eq_false c]; rfl
    rw [this]
    simp
section
variable {w : World} {K : PySem.W.Frag} {mg : Str → Option Value} {base : Heap}
def spLCover : Sp := fun vs H Q _ => ∃ (s : Nat) (R A : Addr) (us : List V) (rs : List (Int × Int)) (ps : List Int), vs = [.int s, .ref R, .ref A] ∧ s ≤ 50 ∧ H R = some (.lst us) ∧ Runs H us rs ∧ (∀ r ∈ rs, Fits s r) ∧ H A = some (.lst (ps.map V.int)) ∧ (∀ n ∈ ps, 0 ≤ n ∧ n < rs.length) ∧
  ∀ H' q, Ex H H' → H q = none → H' q = some (.lst ((covL s rs ps).map V.int)) → Q (.ref q) H'
theorem sc_lcover : FnScope ["_law_size", "_law_runs", "_law_parts_here", "_law_covers", "_law_place", "_law_part"] ["_law_size", "_law_runs", "_law_parts_here"] (defScope s__law_cover) := ⟨rfl, rfl, rfl, by decide +kernel, rfl, by decide +kernel, by decide +kernel⟩
theorem has_lcover (T : Ctx K mg) : Has w K mg base CX0 "_law_cover" 1 ["_law_size", "_law_runs", "_law_parts_here"] spLCover := by
  refine has_of (st := s__law_cover) (f := He.ga K "_law_cover") T.d__law_cover T.g__law_cover (fun _ _ _ _ _ _ us hl => match us, hl with | [_, _, _], _ => rfl) fun fd F => ?_
  refine ok0 F sc_lcover (fun vs H Q E h => ?_) (fun cdv A outer s0 H vs Q E hr h => ?_)
  · obtain ⟨s, R, A, us, rs, ps, rfl, _⟩ := h
    rfl
  · obtain ⟨s, R, A, us, rs, ps, rfl, hs50, hR, RR, hF, hA, inn, k⟩ := h
    have nd := sc_lcover.nd
    refine ⟨_, pss_cons (ps_setLc (own := [("_law_place", 4)]) (i := 3) (g := gName 4) (tt := tYes) rfl nd rfl rfl rfl (pi_range1 (by rfl) T.b_range (pa_cons (pv 0) pa_nil)) (blkOk_by (own := [("_law_place", 4)]) (N := ["_law_size", "_law_runs", "_law_parts_here", "_law_covers", "_law_place", "_law_part"]) (sc := defScope s__law_cover) (by decide +kernel)) (fun _ _ _ _ _ => pg_name (i := 4) nd rfl (Or.inl rfl)) (fun _ _ _ _ _ => pts_nil) (fun _ _ _ _ _ => pe_int))
      (pss_cons (ps_for PassesOwn.never rfl (pi_list (pv 2)) (pg_name (i := 5) nd rfl (.inl rfl))
        (pss_one (ps_for PassesOwn.never rfl (pi_range2 (by rfl) T.b_range (pa_cons (pe_ix ix_tup (pe_ix ix_list (pv 1) (pv 5) (fun _ _ => rfl)) pe_int (fun _ _ => rfl)) (pa_cons (pe_ix ix_tup (pe_ix ix_list (pv 1) (pv 5) (fun _ _ => rfl)) pe_int (fun _ _ => rfl)) pa_nil))) (pg_name (i := 4) nd rfl (.inl rfl))
          (pss_one (ps_augL (pv 3) (pv 4) pe_int)))))
      (pss_one (ps_ret (pv 3)))), ?_⟩
    refine ⟨_, rfl, _, rfl, ?_, ?_, fun q hq => lc_it walk_range (fun i H' => Ex H H' ∧ H' q = some (.lst ((List.replicate i (0 : Int)).map V.int))) ⟨Ex.new hq, upd_same⟩ (fun _ _ _ _ => trivial) ?_ ?_⟩
    · omega
    · omega
    · rintro i x H2 H3 hi ⟨e2, hq2⟩ ⟨rfl, rfl⟩
      have hi50 : i < 100 := by omega
      refine ⟨rfl, tYesI ⟨_, hq2, by rw [List.length_map, List.length_replicate]; exact small1000 (by omega), Evl.Ex.mut e2 hq, ?_⟩⟩
      rw [upd_same, List.replicate_succ', List.map_append]
      rfl
    rintro H1 ⟨e1, hq1⟩
    have hrow0 : List.replicate ((s : Int).toNat) (0 : Int) = covL s rs [] := by
      unfold covL rowOf
      rw [Int.toNat_natCast]
      apply List.ext_getElem?
      intro n
      by_cases hn : n < s
      · rw [List.getElem?_map, List.getElem?_range hn, List.getElem?_replicate, if_pos hn]
        rfl
      · rw [List.getElem?_eq_none (by simp; omega), List.getElem?_eq_none (by simp; omega)]
    rw [hrow0] at hq1
    have hRq : R ≠ q := ne_of_none hR hq
    have hAq : A ≠ q := ne_of_none hA hq
    refine ⟨_, rfl, A, rfl, ⟨_, SqL.of (e1 _ _ hA)⟩, for_it walk_list (fun i σ H' => ∃ v4 v5 : Option V, σ = [some (.int s), some (.ref R), some (.ref A), some (.ref q), v4, v5] ∧ Ex H H' ∧ H' q = some (.lst ((covL s rs (ps.take i)).map V.int))) ⟨_, _, rfl, e1, hq1⟩ (fun i σ H' _ ⟨_, _, _, e, _⟩ => SqL.of (e _ _ hA)) ?_ ?_⟩
    · rintro i x σ H2 H3 hi ⟨v4, v5, rfl, e2, hq2⟩ ⟨rfl, hx⟩
      obtain ⟨p, hp, rfl⟩ : ∃ p, ps[i]? = some p ∧ x = V.int p := by
        have hx2 : (ps.map V.int)[i]? = some x := hx
        rw [List.getElem?_map] at hx2
        cases c : ps[i]? with
        | none => rw [c] at hx2; cases hx2
        | some p => rw [c] at hx2; cases hx2; exact ⟨p, rfl, rfl⟩
      obtain ⟨hp0, hp1⟩ := inn p (List.mem_of_getElem? hp)
      obtain ⟨n, rfl⟩ : ∃ n : Nat, p = (n : Int) := ⟨p.toNat, by omega⟩
      have hn : n < rs.length := by omega
      obtain ⟨t, ht, htt⟩ := (RR.ex e2).at_ n _ (List.getElem?_eq_getElem hn)
      have hf := hF _ (List.getElem_mem hn)
      have hgd : rs.getD (n : Int).toNat (0, 0) = rs[n] := by
        rw [Int.toNat_natCast, List.getD_eq_getElem?_getD, List.getElem?_eq_getElem hn]
        rfl
      generalize rs[n] = r at *
      obtain ⟨f0, f1, f2⟩ := hf
      have hix : atI us (n : Int) = some (.ref t) := atI_nat ht
      refine ⟨_, rfl, _, rfl, R, us, _, _, rfl, rfl, SqL.of (e2 _ _ hR), hix, t, _, 0, _, rfl, rfl, SqT.of htt, atI_nat (j := 0) rfl, ?_⟩
      refine ⟨_, rfl, _, rfl, R, us, _, _, rfl, rfl, SqL.of (e2 _ _ hR), hix, t, _, 1, _, rfl, rfl, SqT.of htt, atI_nat (j := 1) rfl, ?_⟩
      refine ⟨_, _, rfl, ⟨by omega, by omega, by omega, by omega⟩, for_it walk_range (fun j σ H' => ∃ v4 v5 : Option V, σ = [some (.int s), some (.ref R), some (.ref A), some (.ref q), v4, v5] ∧ Ex H H' ∧ H' q = some (.lst ((rowOf s (bump (covAt rs (ps.take i)) r.1 j)).map V.int))) ⟨_, _, rfl, e2, ?_⟩ (fun _ _ _ _ _ => trivial) ?_ ?_⟩
      · rw [hq2]
        unfold covL
        rw [row_congr (g := bump (covAt rs (ps.take i)) r.1 0) fun z _ => ?_]
        unfold bump
        rw [if_neg (by omega)]
        omega
      · rintro j x σ H4 H5 hj ⟨v4, v5, rfl, e4, hq4⟩ ⟨rfl, rfl⟩
        obtain ⟨b, hb⟩ : ∃ b : Nat, r.1 = (b : Int) := ⟨r.1.toNat, by omega⟩
        have hbj : b + j < s := by omega
        have ebj : r.1 + (j : Int) = ((b + j : Nat) : Int) := by omega
        refine ⟨_, rfl, _, rfl, q, _, b + j, .int (bump (covAt rs (ps.take i)) r.1 j ((b + j : Nat) : Int)), rfl, ?_, SqL.of hq4, ?_, _, _, rfl, rfl, q, _, r.1 + (j : Int), b + j, rfl, rfl, hq4, ?_, _, _, rfl, Evl.Ex.mut e4 hq, ?_⟩
        · exact congrArg V.int ebj
        · rw [List.getElem?_map, row_get hbj]
          rfl
        · unfold ixN
          rw [List.length_map, row_len, if_pos (by omega), if_pos (by omega), ebj, Int.toNat_natCast]
        · rw [upd_same]
          show some (HO.lst (((rowOf s (bump (covAt rs (ps.take i)) r.1 j)).map V.int).set (b + j) (V.int (bump (covAt rs (ps.take i)) r.1 j ((b + j : Nat) : Int) + 1)))) = _
          rw [← List.map_set, row_set (g := bump (covAt rs (ps.take i)) r.1 (j + 1)) hbj ?_ fun z hz hne => ?_]
          · unfold bump
            rw [if_pos (by omega), if_neg (by omega)]
            omega
          · unfold bump
            by_cases c : r.1 ≤ (z : Int) ∧ (z : Int) < r.1 + (j : Int)
            · rw [if_pos c, if_pos (by omega)]
            · rw [if_neg c, if_neg (by omega)]
      · rintro σ H4 ⟨v4, v5, rfl, e4, hq4⟩
        refine ⟨_, _, rfl, e4, ?_⟩
        rw [hq4, List.take_add_one, hp]
        unfold covL
        rw [row_congr (g := covAt rs (ps.take i ++ [(n : Int)])) fun z _ => ?_]
        · rfl
        · rw [covAt_snoc, hgd]
          unfold bump
          have e3 : r.1 + ((r.2 - r.1).toNat : Int) = r.2 := by omega
          rw [e3]
    · rintro σ H2 ⟨v4, v5, rfl, e2, hq2⟩
      refine ⟨_, rfl, k _ _ e2 hq ?_⟩
      rw [hq2, List.length_map, List.take_length]
end
end K00


set_option Elab.async false
set_option linter.all false
set_option maxRecDepth 100000
set_option maxHeartbeats 4000000
namespace K00
open PySem PySem.Spec PyProof.Rows L2
open Evl (Ex)
/-- the changes of the cover at the points -/
def dOne (r : Int × Int) (j : Int) : Int := (if j = r.1 then 1 else 0) - (if j = r.2 then 1 else 0)
def dAt (rs : List (Int × Int)) : List Int → Int → Int
  | [], _ => 0
  | p :: ps, j => dAt rs ps j + dOne (rs.getD p.toNat (0, 0)) j
def pre (f : Int → Int) : Nat → Int
  | 0 => 0
  | n + 1 => pre f n + f n
theorem pre_add (f g : Int → Int) : ∀ n, pre (fun j => f j + g j) n = pre f n + pre g n
  | 0 => rfl
  | n + 1 => by
    show pre (fun j => f j + g j) n + (f n + g n) = (pre f n + f n) + (pre g n + g n)
    rw [pre_add f g n]
    omega
theorem pre_one {r : Int × Int} (h0 : 0 ≤ r.1) (h1 : r.1 < r.2) : ∀ n : Nat, pre (dOne r) n = if r.1 ≤ (n : Int) - 1 ∧ (n : Int) - 1 < r.2 then 1 else 0
  | 0 => by
    rw [if_neg (by omega)]
    rfl
  | n + 1 => by
    show pre (dOne r) n + dOne r n = _
    rw [pre_one h0 h1 n]
    unfold dOne
    have e : ((n + 1 : Nat) : Int) - 1 = (n : Int) := by omega
    rw [e]
    split <;> split <;> split <;> split <;> omega
theorem covAt_cons (rs : List (Int × Int)) (ps : List Int) (p j : Int) : covAt rs (p :: ps) j = covAt rs ps j + (if (rs.getD p.toNat (0, 0)).1 ≤ j ∧ j < (rs.getD p.toNat (0, 0)).2 then 1 else 0) := by
  unfold covAt
  by_cases c : (rs.getD p.toNat (0, 0)).1 ≤ j ∧ j < (rs.getD p.toNat (0, 0)).2
  · rw [if_pos c, List.filter_cons, if_pos (by exact decide_eq_true c), List.length_cons]
    omega
  · rw [if_neg c, List.filter_cons, if_neg (by simpa using c)]
    omega
theorem pre_cov {s : Int} {rs : List (Int × Int)} (hF : ∀ r ∈ rs, Fits s r) : ∀ (ps : List Int), (∀ n ∈ ps, 0 ≤ n ∧ n < rs.length) → ∀ q : Nat, pre (dAt rs ps) (q + 1) = covAt rs ps q
  | [], _, q => by
    have z : ∀ n, pre (dAt rs []) n = 0 := fun n => by
      induction n with
      | zero => rfl
      | succ n ih =>
        show pre (dAt rs []) n + 0 = 0
        rw [ih]
        rfl
    rw [z]
    rfl
  | p :: ps, h, q => by
    have hp := h p (List.mem_cons_self ..)
    have hn : p.toNat < rs.length := by omega
    have hg : rs.getD p.toNat (0, 0) = rs[p.toNat] := by
      rw [List.getD_eq_getElem?_getD, List.getElem?_eq_getElem hn]
      rfl
    have hf := hF _ (List.getElem_mem hn)
    have e := pre_add (dAt rs ps) (dOne (rs.getD p.toNat (0, 0))) (q + 1)
    show pre (fun j => dAt rs ps j + dOne (rs.getD p.toNat (0, 0)) j) (q + 1) = _
    rw [e, pre_cov hF ps (fun n hn => h n (List.mem_cons_of_mem _ hn)) q, covAt_cons, hg, pre_one hf.1 hf.2.1]
    have e2 : ((q + 1 : Nat) : Int) - 1 = (q : Int) := by omega
    rw [e2]
theorem dAt_snoc (rs : List (Int × Int)) (p j : Int) : ∀ ps : List Int, dAt rs (ps ++ [p]) j = dAt rs ps j + dOne (rs.getD p.toNat (0, 0)) j
  | [] => by show 0 + _ = 0 + _; rfl
  | q :: ps => by
    show dAt rs (ps ++ [p]) j + _ = dAt rs ps j + _ + _
    rw [dAt_snoc rs p j ps]
    omega
end K00


set_option Elab.async false
set_option linter.all false
set_option maxRecDepth 100000
set_option maxHeartbeats 4000000
namespace K00
open PySem PySem.Spec PyProof.Rows L2
open Evl (Ex)
theorem cut_last (xs : List V) (v : V) : cutV (xs ++ [v]) none (some (-1)) = xs := by
  unfold cutV HT.sIx
  simp
  have e : (-1 + ((xs.length : Int) + 1)).toNat = xs.length := by omega
  rw [e]
  simp
section
variable {w : World} {K : PySem.W.Frag} {mg : Str → Option Value} {base : Heap}
def spCovered (K : PySem.W.Frag) : Sp := fun vs H Q _ => ∃ (x c : Addr) (kd : Str) (s : Nat) (us : List V) (rs : List (Int × Int)) (ns ps : List Int), vs = [.ref x, .ref c] ∧ Mkt K H x kd (s : Int) us rs ns ∧ s ≤ 50 ∧ (∀ r ∈ rs, Fits s r) ∧ H c = some (.tup (ps.map V.int)) ∧ (∀ n ∈ ps, 0 ≤ n ∧ n < rs.length) ∧
  ∀ H' q, Ex H H' → H q = none → H' q = some (.tup ((covL s rs ps).map V.int)) → Q (.ref q) H'
theorem sc_covered : FnScope ["market", "chosen", "changes", "part", "begin", "end", "counts", "count", "change"] ["market", "chosen"] (defScope s_covered) := ⟨rfl, rfl, rfl, by decide +kernel, rfl, by decide +kernel, by decide +kernel⟩
theorem has_covered (T : Ctx K mg) : Has w K mg base CX0 "covered" 1 ["market", "chosen"] (spCovered K) := by
  refine has_of (st := s_covered) (f := He.ga K "covered") T.d_covered T.g_covered (fun _ _ _ _ _ _ us hl => match us, hl with | [_, _], _ => rfl) fun fd F => ?_
  refine ok0 F sc_covered (fun vs H Q E h => ?_) (fun cdv A outer s0 H vs Q E hr h => ?_)
  · obtain ⟨x, c, kd, s, us, rs, ns, ps, rfl, _⟩ := h
    rfl
  · obtain ⟨x, c, kd, s, us, rs, ns, ps, rfl, M, hs50, hF, hc, inn, k⟩ := h
    obtain ⟨C, dx, pr, pg, hM, h1, h2, h3⟩ := M.ob
    have nd := sc_covered.nd
    refine ⟨_, pss_cons (ps_set (i := 2) nd rfl (.inl rfl) (pe_op op_rep (pe_lst (pa_cons pe_int pa_nil)) (pe_op op_add (pe_fld (pv 0) rfl) pe_int)))
      (pss_cons (ps_for PassesOwn.never rfl (pi_tup (pv 1)) (pg_name (i := 3) nd rfl (.inl rfl))
        (pss_cons (ps_asg (pe_ix ix_tup (pe_fld (pv 0) rfl) (pv 3) (fun _ _ => rfl)) (pg_tup (by rfl) (pgs_cons (pg_name (i := 4) nd rfl (.inl rfl)) (pgs_cons (pg_name (i := 5) nd rfl (.inl rfl)) pgs_nil))))
        (pss_cons (ps_augL (pv 2) (pv 4) pe_int) (pss_one (ps_augLs (pv 2) (pv 5) pe_int)))))
      (pss_cons (ps_set (i := 6) nd rfl (.inl rfl) (pe_lst pa_nil))
      (pss_cons (ps_set (i := 7) nd rfl (.inl rfl) pe_int)
      (pss_cons (ps_for PassesOwn.never rfl (pi_list (pe_slice sl_list (pv 2) po_none (po_some (pe_un un_neg pe_int)))) (pg_name (i := 8) nd rfl (.inl rfl))
        (pss_cons (ps_aug (i := 7) nd rfl (.inl rfl) (pv 8) ip_add)
        (pss_one (ps_expr (pe_bm PySem.F.plainAttrs_list PySem.F.slot_list_append PySem.F.type_list_append mt_append (pv 6) (pa_cons (pv 7) pa_nil))))))
      (pss_one (ps_ret (pe_callTy call_tuple_of (by rfl) T.b_tuple (by decide +kernel) (pa_cons (pv 6) pa_nil)))))))), ?_⟩
    refine ⟨(by show 1 ≤ sizeLine; decide), fun p0 hp0 => ?_⟩
    have e0 := Ex.new (o := .lst [V.int 0]) hp0
    refine ⟨_, rfl, x, C, dx, _, _, rfl, e0 _ _ h1, hM.cl T, hM.nS T, mf_size _ _ _, _, _, rfl, rfl, p0, _, _, rfl, rfl, upd_same, ?_, ?_, ?_, fun q hq => ?_⟩
    · omega
    · omega
    · refine Nat.le_trans (show 1 * ((s : Int) + 1).toNat ≤ 1000 by omega) (by decide)
    have hrow0 : (List.replicate (((s : Int) + 1).toNat) [V.int 0]).flatten = (rowOf (s + 1) (dAt rs [])).map V.int := by
      have e : ((s : Int) + 1).toNat = s + 1 := by omega
      rw [e]
      have z : ∀ n : Nat, (List.replicate n [V.int 0]).flatten = (List.range n).map fun _ => V.int 0 := fun n => by
        induction n with
        | zero => rfl
        | succ n ih => rw [List.replicate_succ', List.flatten_append, ih, List.range_succ, List.map_append]; rfl
      rw [z]
      unfold rowOf
      rw [List.map_map]
      rfl
    have e1 := e0.trans (Ex.new (o := .lst (List.replicate (((s : Int) + 1).toNat) [V.int 0]).flatten) hq)
    have hq0 : H q = none := Evl.fresh_back e0 hq
    refine ⟨_, rfl, c, rfl, ⟨_, SqT.of (e1 _ _ hc)⟩, for_it walk_tup (fun i σ H' => ∃ v3 v4 v5 v6 v7 v8 : Option V, σ = [some (.ref x), some (.ref c), some (.ref q), v3, v4, v5, v6, v7, v8] ∧ Ex H H' ∧ H' q = some (.lst ((rowOf (s + 1) (dAt rs (ps.take i))).map V.int))) ⟨_, _, _, _, _, _, rfl, e1, by rw [upd_same]; exact congrArg (fun z => some (HO.lst z)) hrow0⟩ (fun i σ H' _ ⟨_, _, _, _, _, _, _, e, _⟩ => Ex.tup e hc) ?_ ?_⟩
    · rintro i v σ H2 H3 hi ⟨v3, v4, v5, v6, v7, v8, rfl, e2, hq2⟩ ⟨rfl, hx⟩
      obtain ⟨p, hp, rfl⟩ : ∃ p, ps[i]? = some p ∧ v = V.int p := by
        have hx2 : (ps.map V.int)[i]? = some v := hx
        rw [List.getElem?_map] at hx2
        cases cc : ps[i]? with
        | none => rw [cc] at hx2; cases hx2
        | some p => rw [cc] at hx2; cases hx2; exact ⟨p, rfl, rfl⟩
      obtain ⟨hpp0, hp1⟩ := inn p (List.mem_of_getElem? hp)
      obtain ⟨n, rfl⟩ : ∃ n : Nat, p = (n : Int) := ⟨p.toNat, by omega⟩
      have hn : n < rs.length := by omega
      obtain ⟨t, ht, htt⟩ := (M.runs.ex e2).at_ n _ (List.getElem?_eq_getElem hn)
      have hf := hF _ (List.getElem_mem hn)
      have hgd : rs.getD (n : Int).toNat (0, 0) = rs[n] := by
        rw [Int.toNat_natCast, List.getD_eq_getElem?_getD, List.getElem?_eq_getElem hn]
        rfl
      generalize rs[n] = r at *
      obtain ⟨f0, f1, f2⟩ := hf
      have hix : atI us (n : Int) = some (.ref t) := atI_nat ht
      refine ⟨_, rfl, x, C, dx, _, _, rfl, e2 _ _ h1, hM.cl T, hM.nR T, mf_runs _ _ _, _, rfl, pr, us, _, _, rfl, rfl, SqT.of (e2 _ _ h2), hix, t, _, rfl, SqT.of htt, rfl, _, _, rfl, _, _, rfl, rfl, ?_⟩
      obtain ⟨b, hb⟩ : ∃ b : Nat, r.1 = (b : Int) := ⟨r.1.toNat, by omega⟩
      obtain ⟨e, he⟩ : ∃ e : Nat, r.2 = (e : Int) := ⟨r.2.toNat, by omega⟩
      have hbs : b < s + 1 := by omega
      have hes : e < s + 1 := by omega
      have f1' : (rowOf (s + 1) (dAt rs (ps.take i))).set b (dAt rs (ps.take i) b + 1) = rowOf (s + 1) (fun j => dAt rs (ps.take i) j + (if j = r.1 then 1 else 0)) := row_set hbs (by rw [if_pos hb.symm]) fun z hz hne => by rw [if_neg (by omega)]; omega
      refine ⟨_, rfl, _, rfl, q, _, b, .int (dAt rs (ps.take i) b), rfl, congrArg V.int hb, SqL.of hq2, ?_, _, _, rfl, rfl, q, _, r.1, b, rfl, rfl, hq2, ?_, ?_⟩
      · rw [List.getElem?_map, row_get hbs]
        rfl
      · unfold ixN
        rw [List.length_map, row_len, if_pos (by omega), if_pos (by omega), hb, Int.toNat_natCast]
      have hq3 : upd H3 q (.lst (((rowOf (s + 1) (dAt rs (ps.take i))).map V.int).set b (V.int (dAt rs (ps.take i) b + 1)))) q = some (.lst ((rowOf (s + 1) (fun j => dAt rs (ps.take i) j + (if j = r.1 then 1 else 0))).map V.int)) := by
        rw [upd_same, ← List.map_set, f1']
      have e3 : Ex H (upd H3 q (.lst (((rowOf (s + 1) (dAt rs (ps.take i))).map V.int).set b (V.int (dAt rs (ps.take i) b + 1))))) := Evl.Ex.mut e2 hq0
      have gF : ∀ j : Int, (fun j => dAt rs (ps.take i) j + (if j = r.1 then 1 else 0)) j - (if j = r.2 then 1 else 0) = dAt rs (ps.take i ++ [(n : Int)]) j := fun j => by
        rw [dAt_snoc, hgd]
        unfold dOne
        show dAt rs (ps.take i) j + (if j = r.1 then 1 else 0) - (if j = r.2 then 1 else 0) = _
        omega
      refine ⟨_, rfl, _, rfl, q, _, e, .int ((fun j => dAt rs (ps.take i) j + (if j = r.1 then 1 else 0)) (e : Int)), rfl, congrArg V.int he, SqL.of hq3, ?_, _, _, rfl, rfl, q, _, r.2, e, rfl, rfl, hq3, ?_, ?_⟩
      · rw [List.getElem?_map, row_get hes]
        rfl
      · unfold ixN
        rw [List.length_map, row_len, if_pos (by omega), if_pos (by omega), he, Int.toNat_natCast]
      refine ⟨_, _, _, _, _, _, rfl, Evl.Ex.mut e3 hq0, ?_⟩
      rw [upd_same, List.take_add_one, hp]
      show some (HO.lst (((rowOf (s + 1) (fun j => dAt rs (ps.take i) j + (if j = r.1 then 1 else 0))).map V.int).set e (V.int ((fun j => dAt rs (ps.take i) j + (if j = r.1 then 1 else 0)) (e : Int) - 1)))) = some (HO.lst ((rowOf (s + 1) (dAt rs (ps.take i ++ [(n : Int)]))).map V.int))
      rw [← List.map_set, row_set (g := dAt rs (ps.take i ++ [(n : Int)])) hes ?_ fun z hz hne => ?_]
      · rw [← gF, if_pos he.symm]
      · rw [← gF, if_neg (show ¬ ((z : Int) = r.2) by omega)]
        exact Int.sub_zero _
    · rintro σ H2 ⟨v3, v4, v5, v6, v7, v8, rfl, e2, hq2⟩
      rw [List.length_map, List.take_length] at hq2
      refine ⟨(by show 0 ≤ sizeLine; decide), fun p6 hp6 => ?_⟩
      have e3 := e2.trans (Ex.new (o := .lst []) hp6)
      have hq3 := (Ex.new (o := .lst []) hp6) _ _ hq2
      have hp60 : H p6 = none := Evl.fresh_back e2 hp6
      have hpq : p6 ≠ q := Ne.symm (ne_of_none hq2 hp6)
      have hrow : (rowOf (s + 1) (dAt rs ps)).map V.int = (rowOf s (dAt rs ps)).map V.int ++ [V.int (dAt rs ps s)] := by
        unfold rowOf
        rw [List.range_succ, List.map_append, List.map_append]
        rfl
      rw [hrow] at hq3
      refine ⟨_, rfl, _, rfl, _, rfl, q, _, rfl, SqL.of hq3, fun p8 hp8 => ?_⟩
      rw [cut_last]
      have e4 := e3.trans (Ex.new (o := .lst ((rowOf s (dAt rs ps)).map V.int)) hp8)
      have hp68 := (Ex.new (o := .lst ((rowOf s (dAt rs ps)).map V.int)) hp8) _ _ (upd_same (H := H2) (a := p6) (o := .lst []))
      have hp86 : p8 ≠ p6 := Ne.symm (ne_of_none (upd_same (H := H2) (a := p6) (o := .lst [])) hp8)
      refine ⟨p8, rfl, ⟨_, SqL.of upd_same⟩, for_it walk_list (fun i σ H' => ∃ v3 v4 v5 v8 : Option V, σ = [some (.ref x), some (.ref c), some (.ref q), v3, v4, v5, some (.ref p6), some (.int (pre (dAt rs ps) i)), v8] ∧ Ex H H' ∧ H' p8 = some (.lst ((rowOf s (dAt rs ps)).map V.int)) ∧ H' p6 = some (.lst ((rowOf i (fun j => pre (dAt rs ps) (j.toNat + 1))).map V.int))) ⟨_, _, _, _, rfl, e4, upd_same, hp68⟩ (fun i σ H' _ ⟨_, _, _, _, _, _, e, _⟩ => SqL.of e) ?_ ?_⟩
      · rintro i v σ H4 H5 hi ⟨v3, v4, v5, v8, rfl, e5, h8, h6⟩ ⟨rfl, hx⟩
        rw [List.length_map, row_len] at hi
        have hv : v = V.int (dAt rs ps (i : Int)) := by
          have hx2 : ((rowOf s (dAt rs ps)).map V.int)[i]? = some v := hx
          rw [List.getElem?_map, row_get hi] at hx2
          cases hx2
          rfl
        subst hv
        refine ⟨_, rfl, _, rfl, _, _, rfl, rfl, ?_⟩
        refine ⟨_, rfl, .inl ⟨rfl, _, SqL.of h6⟩, _, rfl, p6, _, _, rfl, rfl, h6, by rw [List.length_map, row_len]; exact small1000 (by omega), ?_⟩
        refine ⟨_, _, _, _, rfl, Evl.Ex.mut e5 hp60, by rw [upd_ne hp86]; exact h8, ?_⟩
        rw [upd_same]
        have : rowOf (i + 1) (fun j => pre (dAt rs ps) (j.toNat + 1)) = rowOf i (fun j => pre (dAt rs ps) (j.toNat + 1)) ++ [pre (dAt rs ps) (i + 1)] := by
          unfold rowOf
          rw [List.range_succ, List.map_append]
          simp
        rw [this, List.map_append]
        rfl
      · rintro σ H4 ⟨v3, v4, v5, v8, rfl, e5, h8, h6⟩
        rw [List.length_map, row_len] at h6
        refine ⟨_, rfl, p6, _, rfl, .inl ⟨SqL.of h6, fun p9 hp9 => ?_⟩⟩
        refine k _ p9 (e5.trans (Ex.new hp9)) (Evl.fresh_back e5 hp9) ?_
        rw [upd_same]
        unfold covL
        rw [row_congr fun z hz => ?_]
        show pre (dAt rs ps) ((z : Int).toNat + 1) = covAt rs ps z
        rw [Int.toNat_natCast]
        exact pre_cov hF ps inn z
end
end K00


set_option Elab.async false
set_option linter.all false
set_option maxRecDepth 100000
set_option maxHeartbeats 4000000
/-! for a, b in enumerate(t), t a tuple. -/
namespace PySem
set_option maxHeartbeats 4000000 in
theorem meets_enumerate_newT (l : Addr) (items : Array Value) (n : Nat) (dct : Option Addr) (sl : Array (Option Value)) :
    Meets (Builtin.«enumerate.__new__» ⟨[.type "enumerate", .ref l], []⟩) (fun _ R s => s.heap.get? l = some { cls := .type "tuple", dict := dct, data := .seq items n, slots := sl } ∧
      R (.ok (.ret (.ref (s.heap.push { cls := .type "tuple_iterator", data := .fields #[.ref l, .int 0 0] }).objs.size)))
        { s with heap := (s.heap.push { cls := .type "tuple_iterator", data := .fields #[.ref l, .int 0 0] }).push { cls := .type "enumerate", data := .fields #[.none, .bool false, .ref s.heap.objs.size, rawInt 0, .none, .none] } }) :=
  .of_wp fun prog w A R s h => by
    obtain ⟨hp, g, d, tk, os⟩ := s; obtain ⟨hl, h⟩ := h
    have hsub := sub_enumerate
    have hL : Heap.IsTuple (Shared.heap ⟨hp, g, d, tk, os⟩) l items := ⟨_, hl, rfl, n, rfl⟩
    wp_walk using wpAny_loadPart' hl
    refine wpAny_stack_any fun st => wpAny_pure ?_
    split
    · rename_i c _ _ _ _ _
      cases (c == Value.type "enumerate")
      · wp_walk using wpAny_loadPart' hl, wpAny_pyIter_tuple hL
        exact ⟨_, rfl, h⟩
      · wp_walk using wpAny_loadPart' hl, wpAny_pyIter_tuple hL
        exact ⟨_, rfl, h⟩
    · wp_walk using wpAny_loadPart' hl, wpAny_pyIter_tuple hL
      exact ⟨_, rfl, h⟩
section
variable {prog : Program} {w : World} {A : Around} {E : Value → Shared → Prop} {s : Shared}
theorem call_enumerate_tuple {l : Addr} {items : Array Value} {Q : Value → Shared → Prop} (hL : s.heap.IsTuple l items)
    (h : ∀ h', IsEnum h' (s.heap.objs.size + 1) s.heap.objs.size 0 .none → h'.IsTupleIter s.heap.objs.size l 0 → h'.objs.size = s.heap.objs.size + 2 →
      (∀ b o, s.heap.get? b = some o → h'.get? b = some o) → Q (.ref (s.heap.objs.size + 1)) { s with heap := h' }) :
    wpAny (model prog w) A (call (.type "enumerate") [.ref l]) Q E s := by
  obtain ⟨⟨c, dct, dt, sl⟩, hl, hc, n, hd⟩ := hL
  replace hc : c = .type "tuple" := hc
  replace hd : dt = .seq items n := hd
  subst hc hd
  refine callType_new F.called_enumerate (by decide) (F.typeCall_enumerate_1 _) (F.newCall_enumerate_1 _) (fun obj => F.args_object_init_2 obj _) F.entry_enumerate_new
    (meets_enumerate_newT l items n dct sl) ⟨hl, ?_⟩
  have hz : (s.heap.push { cls := .type "tuple_iterator", data := .fields #[.ref l, .int 0 0] }).objs.size = s.heap.objs.size + 1 := Heap.size_push ..
  show _ ∧ _
  rw [hz]
  have he : IsEnum ((s.heap.push { cls := .type "tuple_iterator", data := .fields #[.ref l, .int 0 0] }).push
      { cls := .type "enumerate", data := .fields #[.none, .bool false, .ref s.heap.objs.size, rawInt 0, .none, .none] }) (s.heap.objs.size + 1) s.heap.objs.size 0 .none := by
    have := Heap.get?_push_size (s.heap.push { cls := .type "tuple_iterator", data := .fields #[.ref l, .int 0 0] })
      (o := { cls := .type "enumerate", data := .fields #[.none, .bool false, .ref s.heap.objs.size, rawInt 0, .none, .none] }) rfl
    rw [hz] at this; exact this
  refine ⟨⟨_, he, rfl⟩, h _ he ⟨_, Heap.get?_push_of_some _ (Heap.get?_push_size _ rfl), rfl, rfl⟩ (by rw [Heap.size_push, hz]) fun b o x => Heap.get?_push_of_some _ (Heap.get?_push_of_some _ x)⟩
theorem wpAny_pyNext_enum_endT {e it l : Addr} {i : Nat} {items : Array Value} {old : Value} {Q : Option Value → Shared → Prop} (hh : A.handled = none)
    (he : IsEnum s.heap e it i old) (hit : s.heap.IsTupleIter it l i) (hl : s.heap.IsTuple l items) (hx : items[i]? = none)
    (hQ : ∀ h', Heap.ExtBut it s.heap h' → Q none { s with heap := h' }) : wpAny (model prog w) A (pyNext (.ref e)) Q E s := by
  have hT : s.TypeIs (.ref e) "enumerate" := ⟨_, he, rfl⟩
  unfold pyNext
  refine wpAny_bind (wpAny_attempt (wpAny_callSpecial?_slot (name := Str.ofString "__next__") hT F.slot_enumerate_next
    (wpAny_call_entry F.slot_enumerate_next hT F.entry_enumerate_next ?_ (F.args_enumerate_next_1 _))))
  show wpAny _ _ (field (.ref e) 2 >>= _) _ _ _
  refine wpAny_bind (wpAny_field he rfl (x := .ref it) rfl ?_)
  refine wpAny_bind (wpAny_nextOf_tuple_end hh hit hl hx fun h' x he' hx' => ?_)
  obtain ⟨o, ho, hc⟩ := hx'
  refine wpAny_bind (wpAny_isInstance (T := "StopIteration") (b := true) ⟨o, ho, hc⟩ isSubtype_stop ?_)
  exact wpAny_pure (hQ _ he')
end
end PySem
namespace L2
open PySem PySem.Spec PyProof.Rows
/-- the tuple at a as it stands at each turn, each item in a new pair -/
def ItE (K : PySem.W.Frag) (a : Addr) : It :=
  ⟨fun i H => ∃ (xs : List V) (x : V), SqT K H a xs ∧ xs[i]? = some x, fun i H v H' => ∃ T x, v = .ref T ∧ H T = none ∧ H' = upd H T (.tup [.int (i : Nat), x]) ∧ ∀ xs, SqT K H a xs → xs[i]? = some x, fun i H => ∃ xs : List V, SqT K H a xs ∧ xs.length ≤ i⟩
theorem turn_enumT {P : Program} {w : World} {K : PySem.W.Frag} {elts : List Expr} {kk : Nat} {tpos : Pos} (a e it : Addr) :
    Turn P w K (.Tuple elts kk tpos) (ItE K a) [e, it] e (fun i h => (∃ old, IsEnum h e it ((i : Nat) : Int) old) ∧ h.IsTupleIter it a i ∧ e ≠ it) where
  mem := by simp
  obj := fun i h st b hb => by
    obtain ⟨⟨old, he⟩, ⟨o, ho, hc, hd⟩, _⟩ := st
    have e' : b = e ∨ b = it := by simpa using hb
    rcases e' with z | z
    · rw [z]; exact ⟨_, he, fun v q => nomatch q⟩
    · rw [z]; exact ⟨o, ho, fun v q => by rw [hd] at q; cases q⟩
  keep := fun i h h' st k => let ⟨⟨old, he⟩, hi, hne⟩ := st; ⟨⟨old, k e (by simp) _ he⟩, hi.at fun o q => k it (by simp) o q, hne⟩
  item := by
    intro X hP hw hK hc i pins s σ H E I hf st hg
    subst hP hw hK
    obtain ⟨⟨old, he⟩, hit, hne⟩ := st
    obtain ⟨xs, x, hq, hx⟩ := hg
    obtain ⟨its, rv, p, hz⟩ := I.tuple hq
    obtain ⟨u, hu, ru⟩ := rv.get hx
    have hel : e < s.heap.objs.size := Heap.lt_size he
    have hil : it < s.heap.objs.size := by obtain ⟨_, q, _⟩ := hit; exact Heap.lt_size q
    have hit0 := hit
    have hae : a ≠ it := fun z => by
      obtain ⟨o1, q1, c1, _⟩ := hit
      obtain ⟨o2, q2, c2, _⟩ := (show s.heap.IsTuple a its.toArray from p)
      rw [z, q1] at q2
      cases q2
      rw [c1] at c2
      exact absurd c2 (by simp)
    have hea : e ≠ a := fun z => by
      obtain ⟨o2, q2, c2, _⟩ := (show s.heap.IsTuple a its.toArray from p)
      rw [← z, he] at q2
      cases q2
      exact absurd c2 (by simp)
    refine wpAny_pyNext_enum_itemD (Draws.tuple (A := X.A.in1) (I.ok.hd hc) it a hae its.toArray) he ⟨hit, (show s.heap.IsTuple a its.toArray from p)⟩ (i := i) (by
      have := (List.getElem?_eq_some_iff.mp hu).1
      simpa using this) hne (by simp [hne, hea]) fun x' h' tk hx' ho hst' hT hsz hk => ?_
    have hux : x' = u := by
      have z : its.toArray[i]? = some x' := hx'
      rw [List.getElem?_toArray, hu] at z
      exact (Option.some.inj z).symm
    subst hux
    obtain ⟨hit', _⟩ := hst'
    refine ⟨_, rfl, wpAny_letOwnedTupleGo_enum (s := { s with heap := h', toks := tk + 1 }) ho fun h'' he' sb => ?_⟩
    have hT2 : h''.get? s.heap.objs.size = some { cls := .type "tuple", data := .seq #[.int i tk, x'] } := (sb.2 _ (Nat.ne_of_gt hel)).trans hT
    have new : ObjOk X.prog X.w (upd H s.heap.objs.size (.tup [.int (i : Nat), x])) h'' s.heap.objs.size (.tup [.int (i : Nat), x]) :=
      ⟨by show 2 ≤ sizeLine; decide, [.int i tk, x'], .cons ⟨_, rfl⟩ (.cons ru .nil), ⟨_, hT2, rfl, _, rfl⟩⟩
    have I1 : Inv X pins σ (upd H s.heap.objs.size (.tup [.int (i : Nat), x])) { s with heap := h'', toks := tk + 1 } :=
      I.turnedNew (ch := [e, it]) (fun b ob hb q => (sb.2 b (fun z => hb (by simp [z]))).trans (hk b ob (fun z => hb (by simp [z])) (fun z => hb (by simp [z])) q)) hf (Nat.le_refl _) new
    refine ⟨.ref s.heap.objs.size, _, I1, rfl, ⟨_, x, rfl, I.hok.fresh (Nat.le_refl _), rfl, fun ys hy => by rw [I.tuple_inj hy hq]; exact hx⟩, ⟨⟨x', ?_⟩, hit'.at fun o q => (sb.2 it (Ne.symm hne)).trans q, hne⟩, fun b hb => ?_⟩
    · have e1 : ((i + 1 : Nat) : Int) = (i : Int) + 1 := by omega
      rw [e1]; exact he'
    · have hb' : b < s.heap.objs.size := by
        have e' : b = e ∨ b = it := by simpa using hb
        rcases e' with z | z
        · rw [z]; exact hel
        · rw [z]; exact hil
      rw [upd_ne (Nat.ne_of_lt hb')]
      exact (hf b hb).1
  done := by
    intro X hP hw hK hc i pins s σ H E I hf st hg
    subst hP hw hK
    obtain ⟨⟨old, he⟩, hit, hne⟩ := st
    obtain ⟨xs, hq, hx⟩ := hg
    obtain ⟨its, rv, p, hz⟩ := I.tuple hq
    obtain ⟨f0, f1, f2, f3, f4, f5⟩ := hf it (by simp)
    have hl := rv.length
    exact wpAny_pyNext_enum_endT (I.ok.hd hc) he hit (show s.heap.IsTuple a its.toArray from p) (by simp; omega) fun h' eb => ⟨rfl, I.turned (t' := s.toks) (fun b o hb q => eb b o hb q) f0 f1 f3 f4 f5⟩
  self := fun A i s Q E st h => let ⟨⟨_, he⟩, _⟩ := st; wpAny_pyIter_enum he h
def iEnumT (K : PySem.W.Frag) (ta : TA) : TI := fun σ H R => ta σ H fun vs H1 => ∃ a xs, vs = [.ref a] ∧ SqT K H1 a xs ∧ R (ItE K a) H1
theorem pi_enumT {X : Cx} {e : Expr} {ta : TA} {p pos tpos : Pos} {elts : List Expr} {kk : Nat} (hg : Gl X "enumerate") (hm : X.mg "enumerate" = none) (ha : PA X [e] ta) (hs : starEach [e] X.env = [(false, eval e X.env)] := by rfl) :
    PI X (.Tuple elts kk tpos) (.Call (.Name "enumerate" p) [e] [] pos) (iEnumT X.K ta) := by
  refine ⟨fun pins s σ H R I h => ?_⟩
  refine Call_ (ld_blt I hg hm boot_enumerate (PyProof.Rows.callWith_type1 (thn (ha.run pos pins s σ H _ I h) fun us s1 ⟨vs, H1, I1, r1, q1⟩ => ?_) hs rfl))
  obtain ⟨a, xs, ex, hq, q⟩ := q1
  subst ex
  cases r1 with
  | cons r rr =>
    cases rr
    cases r
    obtain ⟨its, rv, p', hz⟩ := I1.tuple hq
    refine call_enumerate_tuple (show s1.heap.IsTuple a its.toArray from p') fun h' he hit hsz hk => wpAny_pyIter_enum he ?_
    have I2 : Inv X pins σ H1 { s1 with heap := h' } := I1.kept (t' := s1.toks) hk
    refine ⟨s1.heap.objs.size + 1, [s1.heap.objs.size + 1, s1.heap.objs.size], _, _, H1, rfl, I2, turn_enumT a (s1.heap.objs.size + 1) s1.heap.objs.size, ⟨⟨.none, he⟩, hit, Nat.succ_ne_self _⟩, fun b hb => ?_, q⟩
    have e' : b = s1.heap.objs.size + 1 ∨ b = s1.heap.objs.size := by simpa using hb
    have hle : s1.heap.objs.size ≤ b := by
      rcases e' with z | z
      · rw [z]; exact Nat.le_add_right _ _
      · rw [z]; exact Nat.le_refl _
    exact I1.fpOk hle (I1.hok.fresh hle)
theorem walk_enumT {K : PySem.W.Frag} {a : Addr} {xs : List V} : Walk (ItE K a) xs.length (fun H => SqT K H a xs) (YPair (fun i => some (.int (i : Nat))) (fun i => xs[i]?)) := by
  refine ⟨fun i _ hi q => ⟨xs, xs[i], q, by simp [hi]⟩, fun _ q => ⟨xs, q, Nat.le_refl _⟩, fun i H v H' _ q y => ?_⟩
  obtain ⟨T, x, h1, h2, h3, h4⟩ := y
  exact ⟨T, .int (i : Nat), x, h1, h2, h3, rfl, h4 xs q⟩
end L2


set_option Elab.async false
set_option linter.all false
set_option maxRecDepth 100000
set_option maxHeartbeats 4000000
/-! The program's own errors: each one keeps its field. -/
namespace PySem
namespace BadSetX
open PySem.W PySem.Calls PyProof.Rows PySem.HandSPX
/-! ### the text of __init__ -/
def iA (p1 p2 : Pos) : Arguments := { posonlyargs := [], args := [{ arg := "self", annotation := none, pos := p1 }, { arg := "place", annotation := none, pos := p2 }], vararg := none, kwonlyargs := [], kw_defaults := [], kwarg := none, defaults := [] }
def iB (q1 q2 q3 q4 : Pos) : List Stmt := [.Assign [.Attribute (.Name "self" q1) "place" q2] (.Name "place" q3) q4]
def iS : Scope := { kind := .function, names := [(PySem.Str.ofString "self", .local), (PySem.Str.ofString "place", .local)], isGenerator := false, isCoroutine := false, more := [] }
/-- what the written part says of Low, at C, and of its __init__, at fI -/
structure BadSetTxt (K : Frag) (mg : Str → Option Value) (C fI : Addr) : Prop where
  gC : mg "BadSet" = some (.ref C)
  cls : ∃ nm q N bs bm sn sub ab col dd k0 k1 k2 k3 k5, K.lookup C = some (excClassObj nm q C N bs bm true sn sub ab col dd k0 k1 k2 k3 k5 "ValueError.__new__") ∧ refsVE bm = true
  sa : findIn K (.ref C) "__setattr__" = some (some (.builtin "object.__setattr__"))
  ga : findIn K (.ref C) "__getattribute__" = some (some (.builtin "BaseException.__getattribute__"))
  gg : findIn K (.ref C) "__getattr__" = some none
  noN : findIn K (.ref C) "place" = some none
  iC : findIn K (.ref C) "__init__" = some (some (.ref fI))
  tC : typeIn K (.ref fI) = some (.type "function")
  kC : keepIn K (.ref C) = true
  exC : subIn K (.ref C) (.type "BaseException") = some true
  tyC : typeIn K (.ref C) = some (.type "type")
  hdC : hasDictIn K C = true
  te : exmOne K (.ref C) (.ref C) = some true
  fn : ∃ (oc : Value) (od : Option Addr) (kV doc pm : Value) (an : Option Addr) (cdv ct : Value) (osl : Array (Option Value)) (p1 p2 q1 q2 q3 q4 : Pos),
    K.lookup fI = some ⟨oc, od, .func (fnOf "__init__" "BadSet.__init__" (iA p1 p2) (iB q1 q2 q3 q4) iS .none kV doc pm an cdv ct), osl⟩ ∧ codeIn K cdv "BadSet.__init__" = true
theorem one_size (v : Value) : [v].length ≤ sizeLine := by
  rw [sizeLine_eq]
  exact (by decide : 1 ≤ 16777216)
theorem kept_but {K : Frag} {h h' : Heap} {x : Addr} (X : K.In h) (hx : K.lookup x = none) (k : ∀ b o, b ≠ x → h.get? b = some o → h'.get? b = some o) : K.In h' := fun a o e =>
  k a o (fun z => by rw [z, hx] at e; cases e) (X a o e)
theorem ldC {M : Model} {s : Shared} {name : Str} {scope : Scope} {L a : Addr} {cd : Value} {m : Str → Option Value} {x : Str} {pos : Pos} {v : Value} {Q : Value → Shared → Prop} {A : Around} {E : Value → Shared → Prop} (hn : s.heap.Ns L m) (hv : m x = some v) (h : Q v s)
    (hk : scope.kind = .function := by rfl) (hl : (envOfC name scope L a cd).kindOf x = some .local := by rfl) (hd : (x == ("__debug__" : Str)) = false := by decide) :
    wpAny M A (eval (.Name x pos) (envOfC name scope L a cd)) Q E s := wpAny_Name (wpAny_loadName_local hk hl hn hv h) hd
/-- what __init__ leaves of a fresh exception at x -/
structure InitEnd (h h' : Heap) (x C dx t1 : Addr) (v : Value) : Prop where
  keep : ∀ b o, b ≠ x → h.get? b = some o → h'.get? b = some o
  obj : h'.get? x = some { cls := .ref C, dict := some dx, data := .fields #[.ref t1, .none, .none, .none, .bool false, .none] }
  dbig : h.objs.size ≤ dx
  dne : dx ≠ x
  ns : h'.Ns1 dx (fun y => if y = "place" then some v else none)
/-- a made Low -/
structure OwnMade (h h' : Heap) (e C d : Addr) (v : Value) : Prop where
  keep : ∀ b o, h.get? b = some o → h'.get? b = some o
  new : h.objs.size ≤ e
  obj : ∃ oe vs, h'.get? e = some oe ∧ oe.cls = .ref C ∧ oe.dict = some d ∧ oe.data = .fields vs ∧ vs[1]? = some .none ∧ 4 < vs.size
  dbig : h.objs.size ≤ d
  dne : d ≠ e
  ns : h'.Ns1 d (fun y => if y = "place" then some v else none)
section
variable {prog : Program} {w : World} {A : Around} {E : Value → Shared → Prop} {R : Result → Shared → Prop} {s : Shared} {K : Frag} {mg : Str → Option Value} {C fI : Addr}
theorem init_BadSet (T : BadSetTxt K mg C fI) {x t0 : Addr} {v : Value} (X : K.In s.heap) (hlim : s.heap.NoLimit) (hx : s.heap.get? x = some (excO C t0)) (hnx : K.lookup x = none) (hroom : A.depth < recursionLimit)
    (hq : ∀ h' tk dx, InitEnd s.heap h' x C dx t0 v → R (.ok (.ret .none)) { s with heap := h', toks := tk }) :
    codeAny (model prog w) A (.call (.ref fI) ⟨[.ref x, v], []⟩) R s := by
  obtain ⟨oc, od, kV, doc, pm, an, cdv, ct, osl, p1, p2, q1, q2, q3, q4, ho, hcd⟩ := T.fn
  obtain ⟨nm, q, N, bs, bm, sn, sub, ab, col, dd, k0, k1, k2, k3, k5, hC, hbm⟩ := T.cls
  have hcl : clsIn K C = some { name := nm, bases := bs, mro := .ref C :: bm, ns := N, qualname := q, hasDict := true, slotNames := sn, subclasses := sub, abstract := ab, collection := col, hasDel := false } := by unfold clsIn; rw [hC] <;> rfl
  refine Att.call_fn (binds := [("self", .ref x), ("place", v)]) X hlim ho hcd hroom (BindsTo.of_eq (by first | rfl | with_unfolding_all rfl)) (by first | rfl | decide | with_unfolding_all rfl) (fun s₁ IC => ?_) rfl rfl rfl
  obtain ⟨h₁, tk₁, rfl⟩ := IC.toInCall.same
  have k : ∀ b o, s.heap.get? b = some o → h₁.get? b = some o := IC.toInCall.keep
  have hn := IC.toInCall.ns
  have hxL : s.heap.objs.size ≠ x := Nat.ne_of_gt (Heap.lt_size hx)
  have X₁ : K.In h₁ := X.keeps k
  have hx₁ := k _ _ hx
  -- self.by = by
  show wpAny _ _ (execs _ _) _ _ _
  refine wpAny_execs_cons (plainObj_wpAny_Assign_Attribute ?_)
  refine ldC (v := v) hn (by first | rfl | with_unfolding_all rfl | kernel_rfl) (ldC (v := .ref x) hn (by first | rfl | with_unfolding_all rfl | kernel_rfl) ?_)
  refine set_plain X₁ (ox := excO C t0) (od := none) ⟨hx₁, rfl, rfl, trivial⟩ T.sa ?_
  refine exc_osa X₁ hx₁ hcl (show refsVE (.ref C :: bm) = true from hbm) rfl T.noN (fun h₃ tk₃ dx k₃ dn dne hx₃ hn₃ => ?_)
  show wpAny _ _ (execs _ _) _ _ _
  have z : s.heap.objs.size < h₁.objs.size := hn.lt
  exact wpAny_execs_nil (hq h₃ tk₃ dx ⟨fun b o hb e => k₃ b o hb (k b o e), hx₃, Nat.le_of_lt (Nat.lt_of_lt_of_le z dn), dne, hn₃⟩)
theorem made_BadSet (T : BadSetTxt K mg C fI) {v : Value} (X : K.In s.heap) (hlim : s.heap.NoLimit) (hroom : A.depth + 1 < recursionLimit)
    (hq : ∀ h' tk e d, OwnMade s.heap h' e C d v → R (.ok (.ret (.ref e))) { s with heap := h', toks := tk }) :
    codeAny (model prog w) A (.call (.ref C) ⟨[v], []⟩) R s := by
  obtain ⟨nm, q, N, bs, bm, sn, sub, ab, col, dd, k0, k1, k2, k3, k5, hC, hbm⟩ := T.cls
  obtain ⟨hp, g, dr, tk, os⟩ := s
  have k : ∀ b o, hp.get? b = some o → ((hp.push (kdv_tup [v])).push (excO C hp.objs.size)).get? b = some o := fun b o e => Heap.get?_push_of_some _ (Heap.get?_push_of_some _ e)
  have hget : ((hp.push (kdv_tup [v])).push (excO C hp.objs.size)).get? (hp.objs.size + 1) = some (excO C hp.objs.size) := by heap_get
  have hnx : K.lookup (hp.objs.size + 1) = none := by
    cases e : K.lookup (hp.objs.size + 1) with
    | none => rfl
    | some o =>
      have z : hp.get? (hp.objs.size + 1) = some o := X _ _ e
      exact absurd (Nat.lt_of_succ_lt (Heap.lt_size z)) (Nat.lt_irrefl _)
  refine call_own F.excBase_ValueError (fun X => refsVE_contains X bm hbm) (X _ _ hC) (looks_findIn X T.iC) (fun self => bind_fn X self T.tC) (one_size v) ?_
  refine init_BadSet (s := ⟨(hp.push (kdv_tup [v])).push (excO C hp.objs.size), g, dr, tk, os⟩) T (X.keeps k) (hlim.keeps k) hget hnx ?_ fun h' tk' dx ⟨k', hx, dn, dne, hns⟩ => ?_
  · show A.depth + 1 < recursionLimit
    exact hroom
  · have old : ∀ b o, hp.get? b = some o → h'.get? b = some o := fun b o e => k' b o (Nat.ne_of_lt (Nat.lt_succ_of_lt (Heap.lt_size e))) (k b o e)
    have z : hp.objs.size + 1 + 1 ≤ dx := by
      first
        | (simpa only [Heap.size_push] using dn)
        | exact dn
        | (have q := dn; rw [Heap.size_push, Heap.size_push] at q; exact q)
    exact ⟨rfl, hq h' tk' (hp.objs.size + 1) dx ⟨old, Nat.le_succ _, ⟨_, _, hx, rfl, rfl, rfl, rfl, (by show (4 : Nat) < 6; decide)⟩, Nat.le_trans (Nat.le_trans (Nat.le_succ _) (Nat.le_succ _)) z, dne, hns⟩⟩
end
end BadSetX
end PySem
namespace L2
open PySem PySem.Spec PyProof.Rows
theorem relO_BadSet {v : V} {v' : Value} (r : RelV v v') (f : Str) : RelO (List.lookup f [(("place" : Str), v)]) (if f = "place" then some v' else none) := by
  by_cases hw : f = "place"
  · subst hw
    rw [if_pos rfl]
    have q : List.lookup ("place" : Str) [(("place" : Str), v)] = some v := by simp [List.lookup]
    rw [q]
    exact r
  · rw [if_neg hw]
    have qw : (f == ("place" : Str)) = false := by simpa using hw
    have q2 : List.lookup f [(("place" : Str), v)] = none := by simp [List.lookup, qw]
    rw [q2]
    trivial
section
variable {X : Cx} {C fI : Addr}
/-- Low(e) -/
def tMkBadSet (C : Addr) (ta : TA) : St → Hp → XK → Prop := fun σ H Q => ta σ H fun vs H1 => ∃ v, vs = [v] ∧ ∀ d, H1 d = none → Q (.ref C) (some d) (upd H1 d (.xd [(("place" : Str), v)]))
theorem pmk_BadSet {a : Expr} {ta : TA} {p pos : Pos} {k : Nat} (T : PySem.BadSetX.BadSetTxt X.K X.mg C fI) (hr : Room k X.A) (ha : PA X [a] ta) (hg : Gl X "BadSet" := by rfl)
    (he : starEach (a :: []) X.env = (false, eval a X.env) :: starEach [] X.env := by rfl) (hpl : (backTo pos (starEach [] X.env)).any (·.1) = false := by rfl) :
    PMk X (.Call (.Name "BadSet" p) [a] [] pos) (tMkBadSet C ta) := by
  intro pins s σ H Q I h
  refine wpAny_Call_Name_kw (ld_glob I hg T.gC ?_)
  refine PySem.W.callWith_K (h₀ := X.base) I.ok.mod.kin T.kC (thn (ha.run pos pins s σ H _ I h) fun us s1 hh => ?_) he hpl
  obtain ⟨vs, H1, I1, r1, v, ev, q1⟩ := hh
  subst ev
  refine ⟨I1.kIn, ?_⟩
  cases r1 with
  | cons rv rn =>
    rename_i v' us'
    cases rn
    show wpAny _ _ (call (.ref C) [v']) _ _ _
    have hlim := I1.nolimit
    obtain ⟨hp, g, dr, tk, os⟩ := s1
    refine wpAny_call (PySem.BadSetX.made_BadSet T I1.kIn hlim (by have := hr.dp; omega) fun h' tk' e d M => ?_)
    show MkP X pins σ Q (.ref e) ⟨h', g, dr, tk', os⟩
    obtain ⟨oe, fv, hoe, hc, hd, hdat, h1, _⟩ := M.obj
    have hns := M.ns
    obtain ⟨G', g1, g2⟩ := restrict h' fun b => decide (b ≠ e)
    have gk : ∀ b, b ≠ e → G'.get? b = h'.get? b := fun b hb => g1 b (decide_eq_true hb)
    have ge : G'.get? e = none := g2 e (by simp)
    have old : ∀ b o, hp.get? b = some o → G'.get? b = some o := fun b o q => (gk b (Nat.ne_of_lt (Nat.lt_of_lt_of_le (Heap.lt_size q) M.new))).trans (M.keep b o q)
    have ob : ObjOk X.prog X.w (upd H1 d (.xd [(("place" : Str), v)])) G' d (.xd [(("place" : Str), v)]) :=
      ⟨_, hns.at (fun o q => (gk d M.dne).trans q), fun f => relO_BadSet rv f⟩
    have J : Inv X pins σ (upd H1 d (.xd [(("place" : Str), v)])) ⟨G', g, dr, tk', os⟩ := I1.laid (t' := tk') old M.dbig ob
    refine ⟨e, oe, fv, ⟨G', g, dr, tk', os⟩, _, .ref C, some d, rfl, J, fun b o q => ?_, ge, hoe, ⟨hc, hd⟩, hdat, h1, ?_, rfl, I1.bare, raises_own T.exC T.tyC, q1 d (I1.hok.fresh M.dbig)⟩
    · by_cases hb : b = e
      · have q' : G'.get? b = some o := q
        rw [hb, ge] at q'; cases q'
      · exact (gk b hb).symm.trans q
    · rw [upd_ne (Ne.symm M.dne)]
      exact I1.hok.fresh M.new
/-- raise Low(e) -/
def tRaiseBadSet (C : Addr) (W : WX) (ta : TA) : TS := fun _ σ H => tMkBadSet C ta σ H fun cls d H' => W cls d σ H'
theorem ps_raiseBadSet {a : Expr} {ta : TA} {W : WX} {p pos pos2 : Pos} {k : Nat} (hc : X.calm = true) (T : PySem.BadSetX.BadSetTxt X.K X.mg C fI) (hr : Room k X.A) (tk : Takes X W) (ha : PA X [a] ta) (hg : Gl X "BadSet" := by rfl)
    (he : starEach (a :: []) X.env = (false, eval a X.env) :: starEach [] X.env := by rfl) (hpl : (backTo pos (starEach [] X.env)).any (·.1) = false := by rfl) :
    PS X (.Raise (some (.Call (.Name "BadSet" p) [a] [] pos)) none pos2) (tRaiseBadSet C W ta) := ps_raise hc tk (pmk_BadSet T hr ha hg he hpl)
/-- low.by, low the exception that the suite holds (at a; its class cls, its dict d) -/
def tByBadSet (C : Addr) (a : Addr) (cls : Value) (d : Option Addr) (te : TE) : TE := fun σ H Q => te σ H fun x H1 => x = .ref a ∧ cls = .ref C ∧ ∃ (dd : Addr) (v : V), d = some dd ∧ H1 dd = some (.xd [(("place" : Str), v)]) ∧ Q v H1
theorem pe_byBadSet {a : Addr} {oe : Obj} {cls : Value} {d : Option Addr} {pn : List (Addr × Obj)} {e : Expr} {te : TE} {pos : Pos} (T : PySem.BadSetX.BadSetTxt X.K X.mg C fI) (hz : Zc cls d oe) (hf : ∃ vs, oe.data = .fields vs) (he : PE (X.suite a ((a, oe) :: pn)) e te)
    (hb : attributeBase e "place" X.env (eval e X.env) = eval e X.env := by rfl) :
    PE (X.suite a ((a, oe) :: pn)) (.Attribute e "place" pos) (tByBadSet C a cls d te) := by
  refine ⟨fun pins s σ H Q I h => ?_⟩
  refine attr_of hb (thn (he.run pins s σ H _ I h) fun u s1 hh => ?_)
  obtain ⟨x, H1, I1, rx, ex, ec, dd, v, ed, ea, q⟩ := hh
  subst ex
  obtain rfl : u = Value.ref a := rx
  subst ec
  subst ed
  obtain ⟨ha, _⟩ := I1.pin (a, oe) (List.mem_append_left _ List.mem_cons_self)
  obtain ⟨vs, hd⟩ := hf
  have hx : ObjOk X.prog X.w H1 s1.heap dd (.xd [(("place" : Str), v)]) := I1.hok dd _ ea
  obtain ⟨mA, hns, hr⟩ := hx
  obtain ⟨od, ho, hl⟩ := lookIn_ns hns
  have l : List.lookup ("place" : Str) [(("place" : Str), v)] = some v := by simp [List.lookup]
  obtain ⟨u, hu, ru⟩ := RelO.some_of (v := v) (o := mA "place") (by rw [← l]; exact hr "place")
  have J : PySem.W.InstAt s1.heap a oe C (some od) := ⟨ha, hz.1, by unfold PySem.W.notCls; rw [hd] <;> rfl, by rw [hz.2]; exact ho⟩
  exact HandSPX.exc_get I1.kIn J T.ga T.gg T.exC (PySem.W.findObj_own T.hdC T.noN rfl (by rw [hl, hu])) (handed_of ru) ⟨v, H1, I1.tok _, ru, q⟩
end
end L2



namespace PySem
namespace BadPartX
open PySem.W PySem.Calls PyProof.Rows PySem.HandSPX
/-! ### the text of __init__ -/
def iA (p1 p2 : Pos) : Arguments := { posonlyargs := [], args := [{ arg := "self", annotation := none, pos := p1 }, { arg := "part", annotation := none, pos := p2 }], vararg := none, kwonlyargs := [], kw_defaults := [], kwarg := none, defaults := [] }
def iB (q1 q2 q3 q4 : Pos) : List Stmt := [.Assign [.Attribute (.Name "self" q1) "part" q2] (.Name "part" q3) q4]
def iS : Scope := { kind := .function, names := [(PySem.Str.ofString "self", .local), (PySem.Str.ofString "part", .local)], isGenerator := false, isCoroutine := false, more := [] }
/-- what the written part says of Low, at C, and of its __init__, at fI -/
structure BadPartTxt (K : Frag) (mg : Str → Option Value) (C fI : Addr) : Prop where
  gC : mg "BadPart" = some (.ref C)
  cls : ∃ nm q N bs bm sn sub ab col dd k0 k1 k2 k3 k5, K.lookup C = some (excClassObj nm q C N bs bm true sn sub ab col dd k0 k1 k2 k3 k5 "ValueError.__new__") ∧ refsVE bm = true
  sa : findIn K (.ref C) "__setattr__" = some (some (.builtin "object.__setattr__"))
  ga : findIn K (.ref C) "__getattribute__" = some (some (.builtin "BaseException.__getattribute__"))
  gg : findIn K (.ref C) "__getattr__" = some none
  noN : findIn K (.ref C) "part" = some none
  iC : findIn K (.ref C) "__init__" = some (some (.ref fI))
  tC : typeIn K (.ref fI) = some (.type "function")
  kC : keepIn K (.ref C) = true
  exC : subIn K (.ref C) (.type "BaseException") = some true
  tyC : typeIn K (.ref C) = some (.type "type")
  hdC : hasDictIn K C = true
  te : exmOne K (.ref C) (.ref C) = some true
  fn : ∃ (oc : Value) (od : Option Addr) (kV doc pm : Value) (an : Option Addr) (cdv ct : Value) (osl : Array (Option Value)) (p1 p2 q1 q2 q3 q4 : Pos),
    K.lookup fI = some ⟨oc, od, .func (fnOf "__init__" "BadPart.__init__" (iA p1 p2) (iB q1 q2 q3 q4) iS .none kV doc pm an cdv ct), osl⟩ ∧ codeIn K cdv "BadPart.__init__" = true
theorem one_size (v : Value) : [v].length ≤ sizeLine := by
  rw [sizeLine_eq]
  exact (by decide : 1 ≤ 16777216)
theorem kept_but {K : Frag} {h h' : Heap} {x : Addr} (X : K.In h) (hx : K.lookup x = none) (k : ∀ b o, b ≠ x → h.get? b = some o → h'.get? b = some o) : K.In h' := fun a o e =>
  k a o (fun z => by rw [z, hx] at e; cases e) (X a o e)
theorem ldC {M : Model} {s : Shared} {name : Str} {scope : Scope} {L a : Addr} {cd : Value} {m : Str → Option Value} {x : Str} {pos : Pos} {v : Value} {Q : Value → Shared → Prop} {A : Around} {E : Value → Shared → Prop} (hn : s.heap.Ns L m) (hv : m x = some v) (h : Q v s)
    (hk : scope.kind = .function := by rfl) (hl : (envOfC name scope L a cd).kindOf x = some .local := by rfl) (hd : (x == ("__debug__" : Str)) = false := by decide) :
    wpAny M A (eval (.Name x pos) (envOfC name scope L a cd)) Q E s := wpAny_Name (wpAny_loadName_local hk hl hn hv h) hd
/-- what __init__ leaves of a fresh exception at x -/
structure InitEnd (h h' : Heap) (x C dx t1 : Addr) (v : Value) : Prop where
  keep : ∀ b o, b ≠ x → h.get? b = some o → h'.get? b = some o
  obj : h'.get? x = some { cls := .ref C, dict := some dx, data := .fields #[.ref t1, .none, .none, .none, .bool false, .none] }
  dbig : h.objs.size ≤ dx
  dne : dx ≠ x
  ns : h'.Ns1 dx (fun y => if y = "part" then some v else none)
/-- a made Low -/
structure OwnMade (h h' : Heap) (e C d : Addr) (v : Value) : Prop where
  keep : ∀ b o, h.get? b = some o → h'.get? b = some o
  new : h.objs.size ≤ e
  obj : ∃ oe vs, h'.get? e = some oe ∧ oe.cls = .ref C ∧ oe.dict = some d ∧ oe.data = .fields vs ∧ vs[1]? = some .none ∧ 4 < vs.size
  dbig : h.objs.size ≤ d
  dne : d ≠ e
  ns : h'.Ns1 d (fun y => if y = "part" then some v else none)
section
variable {prog : Program} {w : World} {A : Around} {E : Value → Shared → Prop} {R : Result → Shared → Prop} {s : Shared} {K : Frag} {mg : Str → Option Value} {C fI : Addr}
theorem init_BadPart (T : BadPartTxt K mg C fI) {x t0 : Addr} {v : Value} (X : K.In s.heap) (hlim : s.heap.NoLimit) (hx : s.heap.get? x = some (excO C t0)) (hnx : K.lookup x = none) (hroom : A.depth < recursionLimit)
    (hq : ∀ h' tk dx, InitEnd s.heap h' x C dx t0 v → R (.ok (.ret .none)) { s with heap := h', toks := tk }) :
    codeAny (model prog w) A (.call (.ref fI) ⟨[.ref x, v], []⟩) R s := by
  obtain ⟨oc, od, kV, doc, pm, an, cdv, ct, osl, p1, p2, q1, q2, q3, q4, ho, hcd⟩ := T.fn
  obtain ⟨nm, q, N, bs, bm, sn, sub, ab, col, dd, k0, k1, k2, k3, k5, hC, hbm⟩ := T.cls
  have hcl : clsIn K C = some { name := nm, bases := bs, mro := .ref C :: bm, ns := N, qualname := q, hasDict := true, slotNames := sn, subclasses := sub, abstract := ab, collection := col, hasDel := false } := by unfold clsIn; rw [hC] <;> rfl
  refine Att.call_fn (binds := [("self", .ref x), ("part", v)]) X hlim ho hcd hroom (BindsTo.of_eq (by first | rfl | with_unfolding_all rfl)) (by first | rfl | decide | with_unfolding_all rfl) (fun s₁ IC => ?_) rfl rfl rfl
  obtain ⟨h₁, tk₁, rfl⟩ := IC.toInCall.same
  have k : ∀ b o, s.heap.get? b = some o → h₁.get? b = some o := IC.toInCall.keep
  have hn := IC.toInCall.ns
  have hxL : s.heap.objs.size ≠ x := Nat.ne_of_gt (Heap.lt_size hx)
  have X₁ : K.In h₁ := X.keeps k
  have hx₁ := k _ _ hx
  -- self.by = by
  show wpAny _ _ (execs _ _) _ _ _
  refine wpAny_execs_cons (plainObj_wpAny_Assign_Attribute ?_)
  refine ldC (v := v) hn (by first | rfl | with_unfolding_all rfl | kernel_rfl) (ldC (v := .ref x) hn (by first | rfl | with_unfolding_all rfl | kernel_rfl) ?_)
  refine set_plain X₁ (ox := excO C t0) (od := none) ⟨hx₁, rfl, rfl, trivial⟩ T.sa ?_
  refine exc_osa X₁ hx₁ hcl (show refsVE (.ref C :: bm) = true from hbm) rfl T.noN (fun h₃ tk₃ dx k₃ dn dne hx₃ hn₃ => ?_)
  show wpAny _ _ (execs _ _) _ _ _
  have z : s.heap.objs.size < h₁.objs.size := hn.lt
  exact wpAny_execs_nil (hq h₃ tk₃ dx ⟨fun b o hb e => k₃ b o hb (k b o e), hx₃, Nat.le_of_lt (Nat.lt_of_lt_of_le z dn), dne, hn₃⟩)
theorem made_BadPart (T : BadPartTxt K mg C fI) {v : Value} (X : K.In s.heap) (hlim : s.heap.NoLimit) (hroom : A.depth + 1 < recursionLimit)
    (hq : ∀ h' tk e d, OwnMade s.heap h' e C d v → R (.ok (.ret (.ref e))) { s with heap := h', toks := tk }) :
    codeAny (model prog w) A (.call (.ref C) ⟨[v], []⟩) R s := by
  obtain ⟨nm, q, N, bs, bm, sn, sub, ab, col, dd, k0, k1, k2, k3, k5, hC, hbm⟩ := T.cls
  obtain ⟨hp, g, dr, tk, os⟩ := s
  have k : ∀ b o, hp.get? b = some o → ((hp.push (kdv_tup [v])).push (excO C hp.objs.size)).get? b = some o := fun b o e => Heap.get?_push_of_some _ (Heap.get?_push_of_some _ e)
  have hget : ((hp.push (kdv_tup [v])).push (excO C hp.objs.size)).get? (hp.objs.size + 1) = some (excO C hp.objs.size) := by heap_get
  have hnx : K.lookup (hp.objs.size + 1) = none := by
    cases e : K.lookup (hp.objs.size + 1) with
    | none => rfl
    | some o =>
      have z : hp.get? (hp.objs.size + 1) = some o := X _ _ e
      exact absurd (Nat.lt_of_succ_lt (Heap.lt_size z)) (Nat.lt_irrefl _)
  refine call_own F.excBase_ValueError (fun X => refsVE_contains X bm hbm) (X _ _ hC) (looks_findIn X T.iC) (fun self => bind_fn X self T.tC) (one_size v) ?_
  refine init_BadPart (s := ⟨(hp.push (kdv_tup [v])).push (excO C hp.objs.size), g, dr, tk, os⟩) T (X.keeps k) (hlim.keeps k) hget hnx ?_ fun h' tk' dx ⟨k', hx, dn, dne, hns⟩ => ?_
  · show A.depth + 1 < recursionLimit
    exact hroom
  · have old : ∀ b o, hp.get? b = some o → h'.get? b = some o := fun b o e => k' b o (Nat.ne_of_lt (Nat.lt_succ_of_lt (Heap.lt_size e))) (k b o e)
    have z : hp.objs.size + 1 + 1 ≤ dx := by
      first
        | (simpa only [Heap.size_push] using dn)
        | exact dn
        | (have q := dn; rw [Heap.size_push, Heap.size_push] at q; exact q)
    exact ⟨rfl, hq h' tk' (hp.objs.size + 1) dx ⟨old, Nat.le_succ _, ⟨_, _, hx, rfl, rfl, rfl, rfl, (by show (4 : Nat) < 6; decide)⟩, Nat.le_trans (Nat.le_trans (Nat.le_succ _) (Nat.le_succ _)) z, dne, hns⟩⟩
end
end BadPartX
end PySem
namespace L2
open PySem PySem.Spec PyProof.Rows
theorem relO_BadPart {v : V} {v' : Value} (r : RelV v v') (f : Str) : RelO (List.lookup f [(("part" : Str), v)]) (if f = "part" then some v' else none) := by
  by_cases hw : f = "part"
  · subst hw
    rw [if_pos rfl]
    have q : List.lookup ("part" : Str) [(("part" : Str), v)] = some v := by simp [List.lookup]
    rw [q]
    exact r
  · rw [if_neg hw]
    have qw : (f == ("part" : Str)) = false := by simpa using hw
    have q2 : List.lookup f [(("part" : Str), v)] = none := by simp [List.lookup, qw]
    rw [q2]
    trivial
section
variable {X : Cx} {C fI : Addr}
/-- Low(e) -/
def tMkBadPart (C : Addr) (ta : TA) : St → Hp → XK → Prop := fun σ H Q => ta σ H fun vs H1 => ∃ v, vs = [v] ∧ ∀ d, H1 d = none → Q (.ref C) (some d) (upd H1 d (.xd [(("part" : Str), v)]))
theorem pmk_BadPart {a : Expr} {ta : TA} {p pos : Pos} {k : Nat} (T : PySem.BadPartX.BadPartTxt X.K X.mg C fI) (hr : Room k X.A) (ha : PA X [a] ta) (hg : Gl X "BadPart" := by rfl)
    (he : starEach (a :: []) X.env = (false, eval a X.env) :: starEach [] X.env := by rfl) (hpl : (backTo pos (starEach [] X.env)).any (·.1) = false := by rfl) :
    PMk X (.Call (.Name "BadPart" p) [a] [] pos) (tMkBadPart C ta) := by
  intro pins s σ H Q I h
  refine wpAny_Call_Name_kw (ld_glob I hg T.gC ?_)
  refine PySem.W.callWith_K (h₀ := X.base) I.ok.mod.kin T.kC (thn (ha.run pos pins s σ H _ I h) fun us s1 hh => ?_) he hpl
  obtain ⟨vs, H1, I1, r1, v, ev, q1⟩ := hh
  subst ev
  refine ⟨I1.kIn, ?_⟩
  cases r1 with
  | cons rv rn =>
    rename_i v' us'
    cases rn
    show wpAny _ _ (call (.ref C) [v']) _ _ _
    have hlim := I1.nolimit
    obtain ⟨hp, g, dr, tk, os⟩ := s1
    refine wpAny_call (PySem.BadPartX.made_BadPart T I1.kIn hlim (by have := hr.dp; omega) fun h' tk' e d M => ?_)
    show MkP X pins σ Q (.ref e) ⟨h', g, dr, tk', os⟩
    obtain ⟨oe, fv, hoe, hc, hd, hdat, h1, _⟩ := M.obj
    have hns := M.ns
    obtain ⟨G', g1, g2⟩ := restrict h' fun b => decide (b ≠ e)
    have gk : ∀ b, b ≠ e → G'.get? b = h'.get? b := fun b hb => g1 b (decide_eq_true hb)
    have ge : G'.get? e = none := g2 e (by simp)
    have old : ∀ b o, hp.get? b = some o → G'.get? b = some o := fun b o q => (gk b (Nat.ne_of_lt (Nat.lt_of_lt_of_le (Heap.lt_size q) M.new))).trans (M.keep b o q)
    have ob : ObjOk X.prog X.w (upd H1 d (.xd [(("part" : Str), v)])) G' d (.xd [(("part" : Str), v)]) :=
      ⟨_, hns.at (fun o q => (gk d M.dne).trans q), fun f => relO_BadPart rv f⟩
    have J : Inv X pins σ (upd H1 d (.xd [(("part" : Str), v)])) ⟨G', g, dr, tk', os⟩ := I1.laid (t' := tk') old M.dbig ob
    refine ⟨e, oe, fv, ⟨G', g, dr, tk', os⟩, _, .ref C, some d, rfl, J, fun b o q => ?_, ge, hoe, ⟨hc, hd⟩, hdat, h1, ?_, rfl, I1.bare, raises_own T.exC T.tyC, q1 d (I1.hok.fresh M.dbig)⟩
    · by_cases hb : b = e
      · have q' : G'.get? b = some o := q
        rw [hb, ge] at q'; cases q'
      · exact (gk b hb).symm.trans q
    · rw [upd_ne (Ne.symm M.dne)]
      exact I1.hok.fresh M.new
/-- raise Low(e) -/
def tRaiseBadPart (C : Addr) (W : WX) (ta : TA) : TS := fun _ σ H => tMkBadPart C ta σ H fun cls d H' => W cls d σ H'
theorem ps_raiseBadPart {a : Expr} {ta : TA} {W : WX} {p pos pos2 : Pos} {k : Nat} (hc : X.calm = true) (T : PySem.BadPartX.BadPartTxt X.K X.mg C fI) (hr : Room k X.A) (tk : Takes X W) (ha : PA X [a] ta) (hg : Gl X "BadPart" := by rfl)
    (he : starEach (a :: []) X.env = (false, eval a X.env) :: starEach [] X.env := by rfl) (hpl : (backTo pos (starEach [] X.env)).any (·.1) = false := by rfl) :
    PS X (.Raise (some (.Call (.Name "BadPart" p) [a] [] pos)) none pos2) (tRaiseBadPart C W ta) := ps_raise hc tk (pmk_BadPart T hr ha hg he hpl)
/-- low.by, low the exception that the suite holds (at a; its class cls, its dict d) -/
def tByBadPart (C : Addr) (a : Addr) (cls : Value) (d : Option Addr) (te : TE) : TE := fun σ H Q => te σ H fun x H1 => x = .ref a ∧ cls = .ref C ∧ ∃ (dd : Addr) (v : V), d = some dd ∧ H1 dd = some (.xd [(("part" : Str), v)]) ∧ Q v H1
theorem pe_byBadPart {a : Addr} {oe : Obj} {cls : Value} {d : Option Addr} {pn : List (Addr × Obj)} {e : Expr} {te : TE} {pos : Pos} (T : PySem.BadPartX.BadPartTxt X.K X.mg C fI) (hz : Zc cls d oe) (hf : ∃ vs, oe.data = .fields vs) (he : PE (X.suite a ((a, oe) :: pn)) e te)
    (hb : attributeBase e "part" X.env (eval e X.env) = eval e X.env := by rfl) :
    PE (X.suite a ((a, oe) :: pn)) (.Attribute e "part" pos) (tByBadPart C a cls d te) := by
  refine ⟨fun pins s σ H Q I h => ?_⟩
  refine attr_of hb (thn (he.run pins s σ H _ I h) fun u s1 hh => ?_)
  obtain ⟨x, H1, I1, rx, ex, ec, dd, v, ed, ea, q⟩ := hh
  subst ex
  obtain rfl : u = Value.ref a := rx
  subst ec
  subst ed
  obtain ⟨ha, _⟩ := I1.pin (a, oe) (List.mem_append_left _ List.mem_cons_self)
  obtain ⟨vs, hd⟩ := hf
  have hx : ObjOk X.prog X.w H1 s1.heap dd (.xd [(("part" : Str), v)]) := I1.hok dd _ ea
  obtain ⟨mA, hns, hr⟩ := hx
  obtain ⟨od, ho, hl⟩ := lookIn_ns hns
  have l : List.lookup ("part" : Str) [(("part" : Str), v)] = some v := by simp [List.lookup]
  obtain ⟨u, hu, ru⟩ := RelO.some_of (v := v) (o := mA "part") (by rw [← l]; exact hr "part")
  have J : PySem.W.InstAt s1.heap a oe C (some od) := ⟨ha, hz.1, by unfold PySem.W.notCls; rw [hd] <;> rfl, by rw [hz.2]; exact ho⟩
  exact HandSPX.exc_get I1.kIn J T.ga T.gg T.exC (PySem.W.findObj_own T.hdC T.noN rfl (by rw [hl, hu])) (handed_of ru) ⟨v, H1, I1.tok _, ru, q⟩
end
end L2



namespace PySem
namespace IsGoneX
open PySem.W PySem.Calls PyProof.Rows PySem.HandSPX
/-! ### the text of __init__ -/
def iA (p1 p2 : Pos) : Arguments := { posonlyargs := [], args := [{ arg := "self", annotation := none, pos := p1 }, { arg := "part", annotation := none, pos := p2 }], vararg := none, kwonlyargs := [], kw_defaults := [], kwarg := none, defaults := [] }
def iB (q1 q2 q3 q4 : Pos) : List Stmt := [.Assign [.Attribute (.Name "self" q1) "part" q2] (.Name "part" q3) q4]
def iS : Scope := { kind := .function, names := [(PySem.Str.ofString "self", .local), (PySem.Str.ofString "part", .local)], isGenerator := false, isCoroutine := false, more := [] }
/-- what the written part says of Low, at C, and of its __init__, at fI -/
structure IsGoneTxt (K : Frag) (mg : Str → Option Value) (C fI : Addr) : Prop where
  gC : mg "IsGone" = some (.ref C)
  cls : ∃ nm q N bs bm sn sub ab col dd k0 k1 k2 k3 k5, K.lookup C = some (excClassObj nm q C N bs bm true sn sub ab col dd k0 k1 k2 k3 k5 "ValueError.__new__") ∧ refsVE bm = true
  sa : findIn K (.ref C) "__setattr__" = some (some (.builtin "object.__setattr__"))
  ga : findIn K (.ref C) "__getattribute__" = some (some (.builtin "BaseException.__getattribute__"))
  gg : findIn K (.ref C) "__getattr__" = some none
  noN : findIn K (.ref C) "part" = some none
  iC : findIn K (.ref C) "__init__" = some (some (.ref fI))
  tC : typeIn K (.ref fI) = some (.type "function")
  kC : keepIn K (.ref C) = true
  exC : subIn K (.ref C) (.type "BaseException") = some true
  tyC : typeIn K (.ref C) = some (.type "type")
  hdC : hasDictIn K C = true
  te : exmOne K (.ref C) (.ref C) = some true
  fn : ∃ (oc : Value) (od : Option Addr) (kV doc pm : Value) (an : Option Addr) (cdv ct : Value) (osl : Array (Option Value)) (p1 p2 q1 q2 q3 q4 : Pos),
    K.lookup fI = some ⟨oc, od, .func (fnOf "__init__" "IsGone.__init__" (iA p1 p2) (iB q1 q2 q3 q4) iS .none kV doc pm an cdv ct), osl⟩ ∧ codeIn K cdv "IsGone.__init__" = true
theorem one_size (v : Value) : [v].length ≤ sizeLine := by
  rw [sizeLine_eq]
  exact (by decide : 1 ≤ 16777216)
theorem kept_but {K : Frag} {h h' : Heap} {x : Addr} (X : K.In h) (hx : K.lookup x = none) (k : ∀ b o, b ≠ x → h.get? b = some o → h'.get? b = some o) : K.In h' := fun a o e =>
  k a o (fun z => by rw [z, hx] at e; cases e) (X a o e)
theorem ldC {M : Model} {s : Shared} {name : Str} {scope : Scope} {L a : Addr} {cd : Value} {m : Str → Option Value} {x : Str} {pos : Pos} {v : Value} {Q : Value → Shared → Prop} {A : Around} {E : Value → Shared → Prop} (hn : s.heap.Ns L m) (hv : m x = some v) (h : Q v s)
    (hk : scope.kind = .function := by rfl) (hl : (envOfC name scope L a cd).kindOf x = some .local := by rfl) (hd : (x == ("__debug__" : Str)) = false := by decide) :
    wpAny M A (eval (.Name x pos) (envOfC name scope L a cd)) Q E s := wpAny_Name (wpAny_loadName_local hk hl hn hv h) hd
/-- what __init__ leaves of a fresh exception at x -/
structure InitEnd (h h' : Heap) (x C dx t1 : Addr) (v : Value) : Prop where
  keep : ∀ b o, b ≠ x → h.get? b = some o → h'.get? b = some o
  obj : h'.get? x = some { cls := .ref C, dict := some dx, data := .fields #[.ref t1, .none, .none, .none, .bool false, .none] }
  dbig : h.objs.size ≤ dx
  dne : dx ≠ x
  ns : h'.Ns1 dx (fun y => if y = "part" then some v else none)
/-- a made Low -/
structure OwnMade (h h' : Heap) (e C d : Addr) (v : Value) : Prop where
  keep : ∀ b o, h.get? b = some o → h'.get? b = some o
  new : h.objs.size ≤ e
  obj : ∃ oe vs, h'.get? e = some oe ∧ oe.cls = .ref C ∧ oe.dict = some d ∧ oe.data = .fields vs ∧ vs[1]? = some .none ∧ 4 < vs.size
  dbig : h.objs.size ≤ d
  dne : d ≠ e
  ns : h'.Ns1 d (fun y => if y = "part" then some v else none)
section
variable {prog : Program} {w : World} {A : Around} {E : Value → Shared → Prop} {R : Result → Shared → Prop} {s : Shared} {K : Frag} {mg : Str → Option Value} {C fI : Addr}
theorem init_IsGone (T : IsGoneTxt K mg C fI) {x t0 : Addr} {v : Value} (X : K.In s.heap) (hlim : s.heap.NoLimit) (hx : s.heap.get? x = some (excO C t0)) (hnx : K.lookup x = none) (hroom : A.depth < recursionLimit)
    (hq : ∀ h' tk dx, InitEnd s.heap h' x C dx t0 v → R (.ok (.ret .none)) { s with heap := h', toks := tk }) :
    codeAny (model prog w) A (.call (.ref fI) ⟨[.ref x, v], []⟩) R s := by
  obtain ⟨oc, od, kV, doc, pm, an, cdv, ct, osl, p1, p2, q1, q2, q3, q4, ho, hcd⟩ := T.fn
  obtain ⟨nm, q, N, bs, bm, sn, sub, ab, col, dd, k0, k1, k2, k3, k5, hC, hbm⟩ := T.cls
  have hcl : clsIn K C = some { name := nm, bases := bs, mro := .ref C :: bm, ns := N, qualname := q, hasDict := true, slotNames := sn, subclasses := sub, abstract := ab, collection := col, hasDel := false } := by unfold clsIn; rw [hC] <;> rfl
  refine Att.call_fn (binds := [("self", .ref x), ("part", v)]) X hlim ho hcd hroom (BindsTo.of_eq (by first | rfl | with_unfolding_all rfl)) (by first | rfl | decide | with_unfolding_all rfl) (fun s₁ IC => ?_) rfl rfl rfl
  obtain ⟨h₁, tk₁, rfl⟩ := IC.toInCall.same
  have k : ∀ b o, s.heap.get? b = some o → h₁.get? b = some o := IC.toInCall.keep
  have hn := IC.toInCall.ns
  have hxL : s.heap.objs.size ≠ x := Nat.ne_of_gt (Heap.lt_size hx)
  have X₁ : K.In h₁ := X.keeps k
  have hx₁ := k _ _ hx
  -- self.by = by
  show wpAny _ _ (execs _ _) _ _ _
  refine wpAny_execs_cons (plainObj_wpAny_Assign_Attribute ?_)
  refine ldC (v := v) hn (by first | rfl | with_unfolding_all rfl | kernel_rfl) (ldC (v := .ref x) hn (by first | rfl | with_unfolding_all rfl | kernel_rfl) ?_)
  refine set_plain X₁ (ox := excO C t0) (od := none) ⟨hx₁, rfl, rfl, trivial⟩ T.sa ?_
  refine exc_osa X₁ hx₁ hcl (show refsVE (.ref C :: bm) = true from hbm) rfl T.noN (fun h₃ tk₃ dx k₃ dn dne hx₃ hn₃ => ?_)
  show wpAny _ _ (execs _ _) _ _ _
  have z : s.heap.objs.size < h₁.objs.size := hn.lt
  exact wpAny_execs_nil (hq h₃ tk₃ dx ⟨fun b o hb e => k₃ b o hb (k b o e), hx₃, Nat.le_of_lt (Nat.lt_of_lt_of_le z dn), dne, hn₃⟩)
theorem made_IsGone (T : IsGoneTxt K mg C fI) {v : Value} (X : K.In s.heap) (hlim : s.heap.NoLimit) (hroom : A.depth + 1 < recursionLimit)
    (hq : ∀ h' tk e d, OwnMade s.heap h' e C d v → R (.ok (.ret (.ref e))) { s with heap := h', toks := tk }) :
    codeAny (model prog w) A (.call (.ref C) ⟨[v], []⟩) R s := by
  obtain ⟨nm, q, N, bs, bm, sn, sub, ab, col, dd, k0, k1, k2, k3, k5, hC, hbm⟩ := T.cls
  obtain ⟨hp, g, dr, tk, os⟩ := s
  have k : ∀ b o, hp.get? b = some o → ((hp.push (kdv_tup [v])).push (excO C hp.objs.size)).get? b = some o := fun b o e => Heap.get?_push_of_some _ (Heap.get?_push_of_some _ e)
  have hget : ((hp.push (kdv_tup [v])).push (excO C hp.objs.size)).get? (hp.objs.size + 1) = some (excO C hp.objs.size) := by heap_get
  have hnx : K.lookup (hp.objs.size + 1) = none := by
    cases e : K.lookup (hp.objs.size + 1) with
    | none => rfl
    | some o =>
      have z : hp.get? (hp.objs.size + 1) = some o := X _ _ e
      exact absurd (Nat.lt_of_succ_lt (Heap.lt_size z)) (Nat.lt_irrefl _)
  refine call_own F.excBase_ValueError (fun X => refsVE_contains X bm hbm) (X _ _ hC) (looks_findIn X T.iC) (fun self => bind_fn X self T.tC) (one_size v) ?_
  refine init_IsGone (s := ⟨(hp.push (kdv_tup [v])).push (excO C hp.objs.size), g, dr, tk, os⟩) T (X.keeps k) (hlim.keeps k) hget hnx ?_ fun h' tk' dx ⟨k', hx, dn, dne, hns⟩ => ?_
  · show A.depth + 1 < recursionLimit
    exact hroom
  · have old : ∀ b o, hp.get? b = some o → h'.get? b = some o := fun b o e => k' b o (Nat.ne_of_lt (Nat.lt_succ_of_lt (Heap.lt_size e))) (k b o e)
    have z : hp.objs.size + 1 + 1 ≤ dx := by
      first
        | (simpa only [Heap.size_push] using dn)
        | exact dn
        | (have q := dn; rw [Heap.size_push, Heap.size_push] at q; exact q)
    exact ⟨rfl, hq h' tk' (hp.objs.size + 1) dx ⟨old, Nat.le_succ _, ⟨_, _, hx, rfl, rfl, rfl, rfl, (by show (4 : Nat) < 6; decide)⟩, Nat.le_trans (Nat.le_trans (Nat.le_succ _) (Nat.le_succ _)) z, dne, hns⟩⟩
end
end IsGoneX
end PySem
namespace L2
open PySem PySem.Spec PyProof.Rows
theorem relO_IsGone {v : V} {v' : Value} (r : RelV v v') (f : Str) : RelO (List.lookup f [(("part" : Str), v)]) (if f = "part" then some v' else none) := by
  by_cases hw : f = "part"
  · subst hw
    rw [if_pos rfl]
    have q : List.lookup ("part" : Str) [(("part" : Str), v)] = some v := by simp [List.lookup]
    rw [q]
    exact r
  · rw [if_neg hw]
    have qw : (f == ("part" : Str)) = false := by simpa using hw
    have q2 : List.lookup f [(("part" : Str), v)] = none := by simp [List.lookup, qw]
    rw [q2]
    trivial
section
variable {X : Cx} {C fI : Addr}
/-- Low(e) -/
def tMkIsGone (C : Addr) (ta : TA) : St → Hp → XK → Prop := fun σ H Q => ta σ H fun vs H1 => ∃ v, vs = [v] ∧ ∀ d, H1 d = none → Q (.ref C) (some d) (upd H1 d (.xd [(("part" : Str), v)]))
theorem pmk_IsGone {a : Expr} {ta : TA} {p pos : Pos} {k : Nat} (T : PySem.IsGoneX.IsGoneTxt X.K X.mg C fI) (hr : Room k X.A) (ha : PA X [a] ta) (hg : Gl X "IsGone" := by rfl)
    (he : starEach (a :: []) X.env = (false, eval a X.env) :: starEach [] X.env := by rfl) (hpl : (backTo pos (starEach [] X.env)).any (·.1) = false := by rfl) :
    PMk X (.Call (.Name "IsGone" p) [a] [] pos) (tMkIsGone C ta) := by
  intro pins s σ H Q I h
  refine wpAny_Call_Name_kw (ld_glob I hg T.gC ?_)
  refine PySem.W.callWith_K (h₀ := X.base) I.ok.mod.kin T.kC (thn (ha.run pos pins s σ H _ I h) fun us s1 hh => ?_) he hpl
  obtain ⟨vs, H1, I1, r1, v, ev, q1⟩ := hh
  subst ev
  refine ⟨I1.kIn, ?_⟩
  cases r1 with
  | cons rv rn =>
    rename_i v' us'
    cases rn
    show wpAny _ _ (call (.ref C) [v']) _ _ _
    have hlim := I1.nolimit
    obtain ⟨hp, g, dr, tk, os⟩ := s1
    refine wpAny_call (PySem.IsGoneX.made_IsGone T I1.kIn hlim (by have := hr.dp; omega) fun h' tk' e d M => ?_)
    show MkP X pins σ Q (.ref e) ⟨h', g, dr, tk', os⟩
    obtain ⟨oe, fv, hoe, hc, hd, hdat, h1, _⟩ := M.obj
    have hns := M.ns
    obtain ⟨G', g1, g2⟩ := restrict h' fun b => decide (b ≠ e)
    have gk : ∀ b, b ≠ e → G'.get? b = h'.get? b := fun b hb => g1 b (decide_eq_true hb)
    have ge : G'.get? e = none := g2 e (by simp)
    have old : ∀ b o, hp.get? b = some o → G'.get? b = some o := fun b o q => (gk b (Nat.ne_of_lt (Nat.lt_of_lt_of_le (Heap.lt_size q) M.new))).trans (M.keep b o q)
    have ob : ObjOk X.prog X.w (upd H1 d (.xd [(("part" : Str), v)])) G' d (.xd [(("part" : Str), v)]) :=
      ⟨_, hns.at (fun o q => (gk d M.dne).trans q), fun f => relO_IsGone rv f⟩
    have J : Inv X pins σ (upd H1 d (.xd [(("part" : Str), v)])) ⟨G', g, dr, tk', os⟩ := I1.laid (t' := tk') old M.dbig ob
    refine ⟨e, oe, fv, ⟨G', g, dr, tk', os⟩, _, .ref C, some d, rfl, J, fun b o q => ?_, ge, hoe, ⟨hc, hd⟩, hdat, h1, ?_, rfl, I1.bare, raises_own T.exC T.tyC, q1 d (I1.hok.fresh M.dbig)⟩
    · by_cases hb : b = e
      · have q' : G'.get? b = some o := q
        rw [hb, ge] at q'; cases q'
      · exact (gk b hb).symm.trans q
    · rw [upd_ne (Ne.symm M.dne)]
      exact I1.hok.fresh M.new
/-- raise Low(e) -/
def tRaiseIsGone (C : Addr) (W : WX) (ta : TA) : TS := fun _ σ H => tMkIsGone C ta σ H fun cls d H' => W cls d σ H'
theorem ps_raiseIsGone {a : Expr} {ta : TA} {W : WX} {p pos pos2 : Pos} {k : Nat} (hc : X.calm = true) (T : PySem.IsGoneX.IsGoneTxt X.K X.mg C fI) (hr : Room k X.A) (tk : Takes X W) (ha : PA X [a] ta) (hg : Gl X "IsGone" := by rfl)
    (he : starEach (a :: []) X.env = (false, eval a X.env) :: starEach [] X.env := by rfl) (hpl : (backTo pos (starEach [] X.env)).any (·.1) = false := by rfl) :
    PS X (.Raise (some (.Call (.Name "IsGone" p) [a] [] pos)) none pos2) (tRaiseIsGone C W ta) := ps_raise hc tk (pmk_IsGone T hr ha hg he hpl)
/-- low.by, low the exception that the suite holds (at a; its class cls, its dict d) -/
def tByIsGone (C : Addr) (a : Addr) (cls : Value) (d : Option Addr) (te : TE) : TE := fun σ H Q => te σ H fun x H1 => x = .ref a ∧ cls = .ref C ∧ ∃ (dd : Addr) (v : V), d = some dd ∧ H1 dd = some (.xd [(("part" : Str), v)]) ∧ Q v H1
theorem pe_byIsGone {a : Addr} {oe : Obj} {cls : Value} {d : Option Addr} {pn : List (Addr × Obj)} {e : Expr} {te : TE} {pos : Pos} (T : PySem.IsGoneX.IsGoneTxt X.K X.mg C fI) (hz : Zc cls d oe) (hf : ∃ vs, oe.data = .fields vs) (he : PE (X.suite a ((a, oe) :: pn)) e te)
    (hb : attributeBase e "part" X.env (eval e X.env) = eval e X.env := by rfl) :
    PE (X.suite a ((a, oe) :: pn)) (.Attribute e "part" pos) (tByIsGone C a cls d te) := by
  refine ⟨fun pins s σ H Q I h => ?_⟩
  refine attr_of hb (thn (he.run pins s σ H _ I h) fun u s1 hh => ?_)
  obtain ⟨x, H1, I1, rx, ex, ec, dd, v, ed, ea, q⟩ := hh
  subst ex
  obtain rfl : u = Value.ref a := rx
  subst ec
  subst ed
  obtain ⟨ha, _⟩ := I1.pin (a, oe) (List.mem_append_left _ List.mem_cons_self)
  obtain ⟨vs, hd⟩ := hf
  have hx : ObjOk X.prog X.w H1 s1.heap dd (.xd [(("part" : Str), v)]) := I1.hok dd _ ea
  obtain ⟨mA, hns, hr⟩ := hx
  obtain ⟨od, ho, hl⟩ := lookIn_ns hns
  have l : List.lookup ("part" : Str) [(("part" : Str), v)] = some v := by simp [List.lookup]
  obtain ⟨u, hu, ru⟩ := RelO.some_of (v := v) (o := mA "part") (by rw [← l]; exact hr "part")
  have J : PySem.W.InstAt s1.heap a oe C (some od) := ⟨ha, hz.1, by unfold PySem.W.notCls; rw [hd] <;> rfl, by rw [hz.2]; exact ho⟩
  exact HandSPX.exc_get I1.kIn J T.ga T.gg T.exC (PySem.W.findObj_own T.hdC T.noN rfl (by rw [hl, hu])) (handed_of ru) ⟨v, H1, I1.tok _, ru, q⟩
end
end L2



namespace PySem
namespace BadDemandX
open PySem.W PySem.Calls PyProof.Rows PySem.HandSPX
/-! ### the text of __init__ -/
def iA (p1 p2 : Pos) : Arguments := { posonlyargs := [], args := [{ arg := "self", annotation := none, pos := p1 }, { arg := "place", annotation := none, pos := p2 }], vararg := none, kwonlyargs := [], kw_defaults := [], kwarg := none, defaults := [] }
def iB (q1 q2 q3 q4 : Pos) : List Stmt := [.Assign [.Attribute (.Name "self" q1) "place" q2] (.Name "place" q3) q4]
def iS : Scope := { kind := .function, names := [(PySem.Str.ofString "self", .local), (PySem.Str.ofString "place", .local)], isGenerator := false, isCoroutine := false, more := [] }
/-- what the written part says of Low, at C, and of its __init__, at fI -/
structure BadDemandTxt (K : Frag) (mg : Str → Option Value) (C fI : Addr) : Prop where
  gC : mg "BadDemand" = some (.ref C)
  cls : ∃ nm q N bs bm sn sub ab col dd k0 k1 k2 k3 k5, K.lookup C = some (excClassObj nm q C N bs bm true sn sub ab col dd k0 k1 k2 k3 k5 "ValueError.__new__") ∧ refsVE bm = true
  sa : findIn K (.ref C) "__setattr__" = some (some (.builtin "object.__setattr__"))
  ga : findIn K (.ref C) "__getattribute__" = some (some (.builtin "BaseException.__getattribute__"))
  gg : findIn K (.ref C) "__getattr__" = some none
  noN : findIn K (.ref C) "place" = some none
  iC : findIn K (.ref C) "__init__" = some (some (.ref fI))
  tC : typeIn K (.ref fI) = some (.type "function")
  kC : keepIn K (.ref C) = true
  exC : subIn K (.ref C) (.type "BaseException") = some true
  tyC : typeIn K (.ref C) = some (.type "type")
  hdC : hasDictIn K C = true
  te : exmOne K (.ref C) (.ref C) = some true
  fn : ∃ (oc : Value) (od : Option Addr) (kV doc pm : Value) (an : Option Addr) (cdv ct : Value) (osl : Array (Option Value)) (p1 p2 q1 q2 q3 q4 : Pos),
    K.lookup fI = some ⟨oc, od, .func (fnOf "__init__" "BadDemand.__init__" (iA p1 p2) (iB q1 q2 q3 q4) iS .none kV doc pm an cdv ct), osl⟩ ∧ codeIn K cdv "BadDemand.__init__" = true
theorem one_size (v : Value) : [v].length ≤ sizeLine := by
  rw [sizeLine_eq]
  exact (by decide : 1 ≤ 16777216)
theorem kept_but {K : Frag} {h h' : Heap} {x : Addr} (X : K.In h) (hx : K.lookup x = none) (k : ∀ b o, b ≠ x → h.get? b = some o → h'.get? b = some o) : K.In h' := fun a o e =>
  k a o (fun z => by rw [z, hx] at e; cases e) (X a o e)
theorem ldC {M : Model} {s : Shared} {name : Str} {scope : Scope} {L a : Addr} {cd : Value} {m : Str → Option Value} {x : Str} {pos : Pos} {v : Value} {Q : Value → Shared → Prop} {A : Around} {E : Value → Shared → Prop} (hn : s.heap.Ns L m) (hv : m x = some v) (h : Q v s)
    (hk : scope.kind = .function := by rfl) (hl : (envOfC name scope L a cd).kindOf x = some .local := by rfl) (hd : (x == ("__debug__" : Str)) = false := by decide) :
    wpAny M A (eval (.Name x pos) (envOfC name scope L a cd)) Q E s := wpAny_Name (wpAny_loadName_local hk hl hn hv h) hd
/-- what __init__ leaves of a fresh exception at x -/
structure InitEnd (h h' : Heap) (x C dx t1 : Addr) (v : Value) : Prop where
  keep : ∀ b o, b ≠ x → h.get? b = some o → h'.get? b = some o
  obj : h'.get? x = some { cls := .ref C, dict := some dx, data := .fields #[.ref t1, .none, .none, .none, .bool false, .none] }
  dbig : h.objs.size ≤ dx
  dne : dx ≠ x
  ns : h'.Ns1 dx (fun y => if y = "place" then some v else none)
/-- a made Low -/
structure OwnMade (h h' : Heap) (e C d : Addr) (v : Value) : Prop where
  keep : ∀ b o, h.get? b = some o → h'.get? b = some o
  new : h.objs.size ≤ e
  obj : ∃ oe vs, h'.get? e = some oe ∧ oe.cls = .ref C ∧ oe.dict = some d ∧ oe.data = .fields vs ∧ vs[1]? = some .none ∧ 4 < vs.size
  dbig : h.objs.size ≤ d
  dne : d ≠ e
  ns : h'.Ns1 d (fun y => if y = "place" then some v else none)
section
variable {prog : Program} {w : World} {A : Around} {E : Value → Shared → Prop} {R : Result → Shared → Prop} {s : Shared} {K : Frag} {mg : Str → Option Value} {C fI : Addr}
theorem init_BadDemand (T : BadDemandTxt K mg C fI) {x t0 : Addr} {v : Value} (X : K.In s.heap) (hlim : s.heap.NoLimit) (hx : s.heap.get? x = some (excO C t0)) (hnx : K.lookup x = none) (hroom : A.depth < recursionLimit)
    (hq : ∀ h' tk dx, InitEnd s.heap h' x C dx t0 v → R (.ok (.ret .none)) { s with heap := h', toks := tk }) :
    codeAny (model prog w) A (.call (.ref fI) ⟨[.ref x, v], []⟩) R s := by
  obtain ⟨oc, od, kV, doc, pm, an, cdv, ct, osl, p1, p2, q1, q2, q3, q4, ho, hcd⟩ := T.fn
  obtain ⟨nm, q, N, bs, bm, sn, sub, ab, col, dd, k0, k1, k2, k3, k5, hC, hbm⟩ := T.cls
  have hcl : clsIn K C = some { name := nm, bases := bs, mro := .ref C :: bm, ns := N, qualname := q, hasDict := true, slotNames := sn, subclasses := sub, abstract := ab, collection := col, hasDel := false } := by unfold clsIn; rw [hC] <;> rfl
  refine Att.call_fn (binds := [("self", .ref x), ("place", v)]) X hlim ho hcd hroom (BindsTo.of_eq (by first | rfl | with_unfolding_all rfl)) (by first | rfl | decide | with_unfolding_all rfl) (fun s₁ IC => ?_) rfl rfl rfl
  obtain ⟨h₁, tk₁, rfl⟩ := IC.toInCall.same
  have k : ∀ b o, s.heap.get? b = some o → h₁.get? b = some o := IC.toInCall.keep
  have hn := IC.toInCall.ns
  have hxL : s.heap.objs.size ≠ x := Nat.ne_of_gt (Heap.lt_size hx)
  have X₁ : K.In h₁ := X.keeps k
  have hx₁ := k _ _ hx
  -- self.by = by
  show wpAny _ _ (execs _ _) _ _ _
  refine wpAny_execs_cons (plainObj_wpAny_Assign_Attribute ?_)
  refine ldC (v := v) hn (by first | rfl | with_unfolding_all rfl | kernel_rfl) (ldC (v := .ref x) hn (by first | rfl | with_unfolding_all rfl | kernel_rfl) ?_)
  refine set_plain X₁ (ox := excO C t0) (od := none) ⟨hx₁, rfl, rfl, trivial⟩ T.sa ?_
  refine exc_osa X₁ hx₁ hcl (show refsVE (.ref C :: bm) = true from hbm) rfl T.noN (fun h₃ tk₃ dx k₃ dn dne hx₃ hn₃ => ?_)
  show wpAny _ _ (execs _ _) _ _ _
  have z : s.heap.objs.size < h₁.objs.size := hn.lt
  exact wpAny_execs_nil (hq h₃ tk₃ dx ⟨fun b o hb e => k₃ b o hb (k b o e), hx₃, Nat.le_of_lt (Nat.lt_of_lt_of_le z dn), dne, hn₃⟩)
theorem made_BadDemand (T : BadDemandTxt K mg C fI) {v : Value} (X : K.In s.heap) (hlim : s.heap.NoLimit) (hroom : A.depth + 1 < recursionLimit)
    (hq : ∀ h' tk e d, OwnMade s.heap h' e C d v → R (.ok (.ret (.ref e))) { s with heap := h', toks := tk }) :
    codeAny (model prog w) A (.call (.ref C) ⟨[v], []⟩) R s := by
  obtain ⟨nm, q, N, bs, bm, sn, sub, ab, col, dd, k0, k1, k2, k3, k5, hC, hbm⟩ := T.cls
  obtain ⟨hp, g, dr, tk, os⟩ := s
  have k : ∀ b o, hp.get? b = some o → ((hp.push (kdv_tup [v])).push (excO C hp.objs.size)).get? b = some o := fun b o e => Heap.get?_push_of_some _ (Heap.get?_push_of_some _ e)
  have hget : ((hp.push (kdv_tup [v])).push (excO C hp.objs.size)).get? (hp.objs.size + 1) = some (excO C hp.objs.size) := by heap_get
  have hnx : K.lookup (hp.objs.size + 1) = none := by
    cases e : K.lookup (hp.objs.size + 1) with
    | none => rfl
    | some o =>
      have z : hp.get? (hp.objs.size + 1) = some o := X _ _ e
      exact absurd (Nat.lt_of_succ_lt (Heap.lt_size z)) (Nat.lt_irrefl _)
  refine call_own F.excBase_ValueError (fun X => refsVE_contains X bm hbm) (X _ _ hC) (looks_findIn X T.iC) (fun self => bind_fn X self T.tC) (one_size v) ?_
  refine init_BadDemand (s := ⟨(hp.push (kdv_tup [v])).push (excO C hp.objs.size), g, dr, tk, os⟩) T (X.keeps k) (hlim.keeps k) hget hnx ?_ fun h' tk' dx ⟨k', hx, dn, dne, hns⟩ => ?_
  · show A.depth + 1 < recursionLimit
    exact hroom
  · have old : ∀ b o, hp.get? b = some o → h'.get? b = some o := fun b o e => k' b o (Nat.ne_of_lt (Nat.lt_succ_of_lt (Heap.lt_size e))) (k b o e)
    have z : hp.objs.size + 1 + 1 ≤ dx := by
      first
        | (simpa only [Heap.size_push] using dn)
        | exact dn
        | (have q := dn; rw [Heap.size_push, Heap.size_push] at q; exact q)
    exact ⟨rfl, hq h' tk' (hp.objs.size + 1) dx ⟨old, Nat.le_succ _, ⟨_, _, hx, rfl, rfl, rfl, rfl, (by show (4 : Nat) < 6; decide)⟩, Nat.le_trans (Nat.le_trans (Nat.le_succ _) (Nat.le_succ _)) z, dne, hns⟩⟩
end
end BadDemandX
end PySem
namespace L2
open PySem PySem.Spec PyProof.Rows
theorem relO_BadDemand {v : V} {v' : Value} (r : RelV v v') (f : Str) : RelO (List.lookup f [(("place" : Str), v)]) (if f = "place" then some v' else none) := by
  by_cases hw : f = "place"
  · subst hw
    rw [if_pos rfl]
    have q : List.lookup ("place" : Str) [(("place" : Str), v)] = some v := by simp [List.lookup]
    rw [q]
    exact r
  · rw [if_neg hw]
    have qw : (f == ("place" : Str)) = false := by simpa using hw
    have q2 : List.lookup f [(("place" : Str), v)] = none := by simp [List.lookup, qw]
    rw [q2]
    trivial
section
variable {X : Cx} {C fI : Addr}
/-- Low(e) -/
def tMkBadDemand (C : Addr) (ta : TA) : St → Hp → XK → Prop := fun σ H Q => ta σ H fun vs H1 => ∃ v, vs = [v] ∧ ∀ d, H1 d = none → Q (.ref C) (some d) (upd H1 d (.xd [(("place" : Str), v)]))
theorem pmk_BadDemand {a : Expr} {ta : TA} {p pos : Pos} {k : Nat} (T : PySem.BadDemandX.BadDemandTxt X.K X.mg C fI) (hr : Room k X.A) (ha : PA X [a] ta) (hg : Gl X "BadDemand" := by rfl)
    (he : starEach (a :: []) X.env = (false, eval a X.env) :: starEach [] X.env := by rfl) (hpl : (backTo pos (starEach [] X.env)).any (·.1) = false := by rfl) :
    PMk X (.Call (.Name "BadDemand" p) [a] [] pos) (tMkBadDemand C ta) := by
  intro pins s σ H Q I h
  refine wpAny_Call_Name_kw (ld_glob I hg T.gC ?_)
  refine PySem.W.callWith_K (h₀ := X.base) I.ok.mod.kin T.kC (thn (ha.run pos pins s σ H _ I h) fun us s1 hh => ?_) he hpl
  obtain ⟨vs, H1, I1, r1, v, ev, q1⟩ := hh
  subst ev
  refine ⟨I1.kIn, ?_⟩
  cases r1 with
  | cons rv rn =>
    rename_i v' us'
    cases rn
    show wpAny _ _ (call (.ref C) [v']) _ _ _
    have hlim := I1.nolimit
    obtain ⟨hp, g, dr, tk, os⟩ := s1
    refine wpAny_call (PySem.BadDemandX.made_BadDemand T I1.kIn hlim (by have := hr.dp; omega) fun h' tk' e d M => ?_)
    show MkP X pins σ Q (.ref e) ⟨h', g, dr, tk', os⟩
    obtain ⟨oe, fv, hoe, hc, hd, hdat, h1, _⟩ := M.obj
    have hns := M.ns
    obtain ⟨G', g1, g2⟩ := restrict h' fun b => decide (b ≠ e)
    have gk : ∀ b, b ≠ e → G'.get? b = h'.get? b := fun b hb => g1 b (decide_eq_true hb)
    have ge : G'.get? e = none := g2 e (by simp)
    have old : ∀ b o, hp.get? b = some o → G'.get? b = some o := fun b o q => (gk b (Nat.ne_of_lt (Nat.lt_of_lt_of_le (Heap.lt_size q) M.new))).trans (M.keep b o q)
    have ob : ObjOk X.prog X.w (upd H1 d (.xd [(("place" : Str), v)])) G' d (.xd [(("place" : Str), v)]) :=
      ⟨_, hns.at (fun o q => (gk d M.dne).trans q), fun f => relO_BadDemand rv f⟩
    have J : Inv X pins σ (upd H1 d (.xd [(("place" : Str), v)])) ⟨G', g, dr, tk', os⟩ := I1.laid (t' := tk') old M.dbig ob
    refine ⟨e, oe, fv, ⟨G', g, dr, tk', os⟩, _, .ref C, some d, rfl, J, fun b o q => ?_, ge, hoe, ⟨hc, hd⟩, hdat, h1, ?_, rfl, I1.bare, raises_own T.exC T.tyC, q1 d (I1.hok.fresh M.dbig)⟩
    · by_cases hb : b = e
      · have q' : G'.get? b = some o := q
        rw [hb, ge] at q'; cases q'
      · exact (gk b hb).symm.trans q
    · rw [upd_ne (Ne.symm M.dne)]
      exact I1.hok.fresh M.new
/-- raise Low(e) -/
def tRaiseBadDemand (C : Addr) (W : WX) (ta : TA) : TS := fun _ σ H => tMkBadDemand C ta σ H fun cls d H' => W cls d σ H'
theorem ps_raiseBadDemand {a : Expr} {ta : TA} {W : WX} {p pos pos2 : Pos} {k : Nat} (hc : X.calm = true) (T : PySem.BadDemandX.BadDemandTxt X.K X.mg C fI) (hr : Room k X.A) (tk : Takes X W) (ha : PA X [a] ta) (hg : Gl X "BadDemand" := by rfl)
    (he : starEach (a :: []) X.env = (false, eval a X.env) :: starEach [] X.env := by rfl) (hpl : (backTo pos (starEach [] X.env)).any (·.1) = false := by rfl) :
    PS X (.Raise (some (.Call (.Name "BadDemand" p) [a] [] pos)) none pos2) (tRaiseBadDemand C W ta) := ps_raise hc tk (pmk_BadDemand T hr ha hg he hpl)
/-- low.by, low the exception that the suite holds (at a; its class cls, its dict d) -/
def tByBadDemand (C : Addr) (a : Addr) (cls : Value) (d : Option Addr) (te : TE) : TE := fun σ H Q => te σ H fun x H1 => x = .ref a ∧ cls = .ref C ∧ ∃ (dd : Addr) (v : V), d = some dd ∧ H1 dd = some (.xd [(("place" : Str), v)]) ∧ Q v H1
theorem pe_byBadDemand {a : Addr} {oe : Obj} {cls : Value} {d : Option Addr} {pn : List (Addr × Obj)} {e : Expr} {te : TE} {pos : Pos} (T : PySem.BadDemandX.BadDemandTxt X.K X.mg C fI) (hz : Zc cls d oe) (hf : ∃ vs, oe.data = .fields vs) (he : PE (X.suite a ((a, oe) :: pn)) e te)
    (hb : attributeBase e "place" X.env (eval e X.env) = eval e X.env := by rfl) :
    PE (X.suite a ((a, oe) :: pn)) (.Attribute e "place" pos) (tByBadDemand C a cls d te) := by
  refine ⟨fun pins s σ H Q I h => ?_⟩
  refine attr_of hb (thn (he.run pins s σ H _ I h) fun u s1 hh => ?_)
  obtain ⟨x, H1, I1, rx, ex, ec, dd, v, ed, ea, q⟩ := hh
  subst ex
  obtain rfl : u = Value.ref a := rx
  subst ec
  subst ed
  obtain ⟨ha, _⟩ := I1.pin (a, oe) (List.mem_append_left _ List.mem_cons_self)
  obtain ⟨vs, hd⟩ := hf
  have hx : ObjOk X.prog X.w H1 s1.heap dd (.xd [(("place" : Str), v)]) := I1.hok dd _ ea
  obtain ⟨mA, hns, hr⟩ := hx
  obtain ⟨od, ho, hl⟩ := lookIn_ns hns
  have l : List.lookup ("place" : Str) [(("place" : Str), v)] = some v := by simp [List.lookup]
  obtain ⟨u, hu, ru⟩ := RelO.some_of (v := v) (o := mA "place") (by rw [← l]; exact hr "place")
  have J : PySem.W.InstAt s1.heap a oe C (some od) := ⟨ha, hz.1, by unfold PySem.W.notCls; rw [hd] <;> rfl, by rw [hz.2]; exact ho⟩
  exact HandSPX.exc_get I1.kIn J T.ga T.gg T.exC (PySem.W.findObj_own T.hdC T.noN rfl (by rw [hl, hu])) (handed_of ru) ⟨v, H1, I1.tok _, ru, q⟩
end
end L2



namespace PySem
namespace NotAStockX
open PySem.W PySem.Calls PyProof.Rows PySem.HandSPX
/-! ### the text of __init__ -/
def iA (p1 p2 : Pos) : Arguments := { posonlyargs := [], args := [{ arg := "self", annotation := none, pos := p1 }, { arg := "place", annotation := none, pos := p2 }], vararg := none, kwonlyargs := [], kw_defaults := [], kwarg := none, defaults := [] }
def iB (q1 q2 q3 q4 : Pos) : List Stmt := [.Assign [.Attribute (.Name "self" q1) "place" q2] (.Name "place" q3) q4]
def iS : Scope := { kind := .function, names := [(PySem.Str.ofString "self", .local), (PySem.Str.ofString "place", .local)], isGenerator := false, isCoroutine := false, more := [] }
/-- what the written part says of Low, at C, and of its __init__, at fI -/
structure NotAStockTxt (K : Frag) (mg : Str → Option Value) (C fI : Addr) : Prop where
  gC : mg "NotAStock" = some (.ref C)
  cls : ∃ nm q N bs bm sn sub ab col dd k0 k1 k2 k3 k5, K.lookup C = some (excClassObj nm q C N bs bm true sn sub ab col dd k0 k1 k2 k3 k5 "ValueError.__new__") ∧ refsVE bm = true
  sa : findIn K (.ref C) "__setattr__" = some (some (.builtin "object.__setattr__"))
  ga : findIn K (.ref C) "__getattribute__" = some (some (.builtin "BaseException.__getattribute__"))
  gg : findIn K (.ref C) "__getattr__" = some none
  noN : findIn K (.ref C) "place" = some none
  iC : findIn K (.ref C) "__init__" = some (some (.ref fI))
  tC : typeIn K (.ref fI) = some (.type "function")
  kC : keepIn K (.ref C) = true
  exC : subIn K (.ref C) (.type "BaseException") = some true
  tyC : typeIn K (.ref C) = some (.type "type")
  hdC : hasDictIn K C = true
  te : exmOne K (.ref C) (.ref C) = some true
  fn : ∃ (oc : Value) (od : Option Addr) (kV doc pm : Value) (an : Option Addr) (cdv ct : Value) (osl : Array (Option Value)) (p1 p2 q1 q2 q3 q4 : Pos),
    K.lookup fI = some ⟨oc, od, .func (fnOf "__init__" "NotAStock.__init__" (iA p1 p2) (iB q1 q2 q3 q4) iS .none kV doc pm an cdv ct), osl⟩ ∧ codeIn K cdv "NotAStock.__init__" = true
theorem one_size (v : Value) : [v].length ≤ sizeLine := by
  rw [sizeLine_eq]
  exact (by decide : 1 ≤ 16777216)
theorem kept_but {K : Frag} {h h' : Heap} {x : Addr} (X : K.In h) (hx : K.lookup x = none) (k : ∀ b o, b ≠ x → h.get? b = some o → h'.get? b = some o) : K.In h' := fun a o e =>
  k a o (fun z => by rw [z, hx] at e; cases e) (X a o e)
theorem ldC {M : Model} {s : Shared} {name : Str} {scope : Scope} {L a : Addr} {cd : Value} {m : Str → Option Value} {x : Str} {pos : Pos} {v : Value} {Q : Value → Shared → Prop} {A : Around} {E : Value → Shared → Prop} (hn : s.heap.Ns L m) (hv : m x = some v) (h : Q v s)
    (hk : scope.kind = .function := by rfl) (hl : (envOfC name scope L a cd).kindOf x = some .local := by rfl) (hd : (x == ("__debug__" : Str)) = false := by decide) :
    wpAny M A (eval (.Name x pos) (envOfC name scope L a cd)) Q E s := wpAny_Name (wpAny_loadName_local hk hl hn hv h) hd
/-- what __init__ leaves of a fresh exception at x -/
structure InitEnd (h h' : Heap) (x C dx t1 : Addr) (v : Value) : Prop where
  keep : ∀ b o, b ≠ x → h.get? b = some o → h'.get? b = some o
  obj : h'.get? x = some { cls := .ref C, dict := some dx, data := .fields #[.ref t1, .none, .none, .none, .bool false, .none] }
  dbig : h.objs.size ≤ dx
  dne : dx ≠ x
  ns : h'.Ns1 dx (fun y => if y = "place" then some v else none)
/-- a made Low -/
structure OwnMade (h h' : Heap) (e C d : Addr) (v : Value) : Prop where
  keep : ∀ b o, h.get? b = some o → h'.get? b = some o
  new : h.objs.size ≤ e
  obj : ∃ oe vs, h'.get? e = some oe ∧ oe.cls = .ref C ∧ oe.dict = some d ∧ oe.data = .fields vs ∧ vs[1]? = some .none ∧ 4 < vs.size
  dbig : h.objs.size ≤ d
  dne : d ≠ e
  ns : h'.Ns1 d (fun y => if y = "place" then some v else none)
section
variable {prog : Program} {w : World} {A : Around} {E : Value → Shared → Prop} {R : Result → Shared → Prop} {s : Shared} {K : Frag} {mg : Str → Option Value} {C fI : Addr}
theorem init_NotAStock (T : NotAStockTxt K mg C fI) {x t0 : Addr} {v : Value} (X : K.In s.heap) (hlim : s.heap.NoLimit) (hx : s.heap.get? x = some (excO C t0)) (hnx : K.lookup x = none) (hroom : A.depth < recursionLimit)
    (hq : ∀ h' tk dx, InitEnd s.heap h' x C dx t0 v → R (.ok (.ret .none)) { s with heap := h', toks := tk }) :
    codeAny (model prog w) A (.call (.ref fI) ⟨[.ref x, v], []⟩) R s := by
  obtain ⟨oc, od, kV, doc, pm, an, cdv, ct, osl, p1, p2, q1, q2, q3, q4, ho, hcd⟩ := T.fn
  obtain ⟨nm, q, N, bs, bm, sn, sub, ab, col, dd, k0, k1, k2, k3, k5, hC, hbm⟩ := T.cls
  have hcl : clsIn K C = some { name := nm, bases := bs, mro := .ref C :: bm, ns := N, qualname := q, hasDict := true, slotNames := sn, subclasses := sub, abstract := ab, collection := col, hasDel := false } := by unfold clsIn; rw [hC] <;> rfl
  refine Att.call_fn (binds := [("self", .ref x), ("place", v)]) X hlim ho hcd hroom (BindsTo.of_eq (by first | rfl | with_unfolding_all rfl)) (by first | rfl | decide | with_unfolding_all rfl) (fun s₁ IC => ?_) rfl rfl rfl
  obtain ⟨h₁, tk₁, rfl⟩ := IC.toInCall.same
  have k : ∀ b o, s.heap.get? b = some o → h₁.get? b = some o := IC.toInCall.keep
  have hn := IC.toInCall.ns
  have hxL : s.heap.objs.size ≠ x := Nat.ne_of_gt (Heap.lt_size hx)
  have X₁ : K.In h₁ := X.keeps k
  have hx₁ := k _ _ hx
  -- self.by = by
  show wpAny _ _ (execs _ _) _ _ _
  refine wpAny_execs_cons (plainObj_wpAny_Assign_Attribute ?_)
  refine ldC (v := v) hn (by first | rfl | with_unfolding_all rfl | kernel_rfl) (ldC (v := .ref x) hn (by first | rfl | with_unfolding_all rfl | kernel_rfl) ?_)
  refine set_plain X₁ (ox := excO C t0) (od := none) ⟨hx₁, rfl, rfl, trivial⟩ T.sa ?_
  refine exc_osa X₁ hx₁ hcl (show refsVE (.ref C :: bm) = true from hbm) rfl T.noN (fun h₃ tk₃ dx k₃ dn dne hx₃ hn₃ => ?_)
  show wpAny _ _ (execs _ _) _ _ _
  have z : s.heap.objs.size < h₁.objs.size := hn.lt
  exact wpAny_execs_nil (hq h₃ tk₃ dx ⟨fun b o hb e => k₃ b o hb (k b o e), hx₃, Nat.le_of_lt (Nat.lt_of_lt_of_le z dn), dne, hn₃⟩)
theorem made_NotAStock (T : NotAStockTxt K mg C fI) {v : Value} (X : K.In s.heap) (hlim : s.heap.NoLimit) (hroom : A.depth + 1 < recursionLimit)
    (hq : ∀ h' tk e d, OwnMade s.heap h' e C d v → R (.ok (.ret (.ref e))) { s with heap := h', toks := tk }) :
    codeAny (model prog w) A (.call (.ref C) ⟨[v], []⟩) R s := by
  obtain ⟨nm, q, N, bs, bm, sn, sub, ab, col, dd, k0, k1, k2, k3, k5, hC, hbm⟩ := T.cls
  obtain ⟨hp, g, dr, tk, os⟩ := s
  have k : ∀ b o, hp.get? b = some o → ((hp.push (kdv_tup [v])).push (excO C hp.objs.size)).get? b = some o := fun b o e => Heap.get?_push_of_some _ (Heap.get?_push_of_some _ e)
  have hget : ((hp.push (kdv_tup [v])).push (excO C hp.objs.size)).get? (hp.objs.size + 1) = some (excO C hp.objs.size) := by heap_get
  have hnx : K.lookup (hp.objs.size + 1) = none := by
    cases e : K.lookup (hp.objs.size + 1) with
    | none => rfl
    | some o =>
      have z : hp.get? (hp.objs.size + 1) = some o := X _ _ e
      exact absurd (Nat.lt_of_succ_lt (Heap.lt_size z)) (Nat.lt_irrefl _)
  refine call_own F.excBase_ValueError (fun X => refsVE_contains X bm hbm) (X _ _ hC) (looks_findIn X T.iC) (fun self => bind_fn X self T.tC) (one_size v) ?_
  refine init_NotAStock (s := ⟨(hp.push (kdv_tup [v])).push (excO C hp.objs.size), g, dr, tk, os⟩) T (X.keeps k) (hlim.keeps k) hget hnx ?_ fun h' tk' dx ⟨k', hx, dn, dne, hns⟩ => ?_
  · show A.depth + 1 < recursionLimit
    exact hroom
  · have old : ∀ b o, hp.get? b = some o → h'.get? b = some o := fun b o e => k' b o (Nat.ne_of_lt (Nat.lt_succ_of_lt (Heap.lt_size e))) (k b o e)
    have z : hp.objs.size + 1 + 1 ≤ dx := by
      first
        | (simpa only [Heap.size_push] using dn)
        | exact dn
        | (have q := dn; rw [Heap.size_push, Heap.size_push] at q; exact q)
    exact ⟨rfl, hq h' tk' (hp.objs.size + 1) dx ⟨old, Nat.le_succ _, ⟨_, _, hx, rfl, rfl, rfl, rfl, (by show (4 : Nat) < 6; decide)⟩, Nat.le_trans (Nat.le_trans (Nat.le_succ _) (Nat.le_succ _)) z, dne, hns⟩⟩
end
end NotAStockX
end PySem
namespace L2
open PySem PySem.Spec PyProof.Rows
theorem relO_NotAStock {v : V} {v' : Value} (r : RelV v v') (f : Str) : RelO (List.lookup f [(("place" : Str), v)]) (if f = "place" then some v' else none) := by
  by_cases hw : f = "place"
  · subst hw
    rw [if_pos rfl]
    have q : List.lookup ("place" : Str) [(("place" : Str), v)] = some v := by simp [List.lookup]
    rw [q]
    exact r
  · rw [if_neg hw]
    have qw : (f == ("place" : Str)) = false := by simpa using hw
    have q2 : List.lookup f [(("place" : Str), v)] = none := by simp [List.lookup, qw]
    rw [q2]
    trivial
section
variable {X : Cx} {C fI : Addr}
/-- Low(e) -/
def tMkNotAStock (C : Addr) (ta : TA) : St → Hp → XK → Prop := fun σ H Q => ta σ H fun vs H1 => ∃ v, vs = [v] ∧ ∀ d, H1 d = none → Q (.ref C) (some d) (upd H1 d (.xd [(("place" : Str), v)]))
theorem pmk_NotAStock {a : Expr} {ta : TA} {p pos : Pos} {k : Nat} (T : PySem.NotAStockX.NotAStockTxt X.K X.mg C fI) (hr : Room k X.A) (ha : PA X [a] ta) (hg : Gl X "NotAStock" := by rfl)
    (he : starEach (a :: []) X.env = (false, eval a X.env) :: starEach [] X.env := by rfl) (hpl : (backTo pos (starEach [] X.env)).any (·.1) = false := by rfl) :
    PMk X (.Call (.Name "NotAStock" p) [a] [] pos) (tMkNotAStock C ta) := by
  intro pins s σ H Q I h
  refine wpAny_Call_Name_kw (ld_glob I hg T.gC ?_)
  refine PySem.W.callWith_K (h₀ := X.base) I.ok.mod.kin T.kC (thn (ha.run pos pins s σ H _ I h) fun us s1 hh => ?_) he hpl
  obtain ⟨vs, H1, I1, r1, v, ev, q1⟩ := hh
  subst ev
  refine ⟨I1.kIn, ?_⟩
  cases r1 with
  | cons rv rn =>
    rename_i v' us'
    cases rn
    show wpAny _ _ (call (.ref C) [v']) _ _ _
    have hlim := I1.nolimit
    obtain ⟨hp, g, dr, tk, os⟩ := s1
    refine wpAny_call (PySem.NotAStockX.made_NotAStock T I1.kIn hlim (by have := hr.dp; omega) fun h' tk' e d M => ?_)
    show MkP X pins σ Q (.ref e) ⟨h', g, dr, tk', os⟩
    obtain ⟨oe, fv, hoe, hc, hd, hdat, h1, _⟩ := M.obj
    have hns := M.ns
    obtain ⟨G', g1, g2⟩ := restrict h' fun b => decide (b ≠ e)
    have gk : ∀ b, b ≠ e → G'.get? b = h'.get? b := fun b hb => g1 b (decide_eq_true hb)
    have ge : G'.get? e = none := g2 e (by simp)
    have old : ∀ b o, hp.get? b = some o → G'.get? b = some o := fun b o q => (gk b (Nat.ne_of_lt (Nat.lt_of_lt_of_le (Heap.lt_size q) M.new))).trans (M.keep b o q)
    have ob : ObjOk X.prog X.w (upd H1 d (.xd [(("place" : Str), v)])) G' d (.xd [(("place" : Str), v)]) :=
      ⟨_, hns.at (fun o q => (gk d M.dne).trans q), fun f => relO_NotAStock rv f⟩
    have J : Inv X pins σ (upd H1 d (.xd [(("place" : Str), v)])) ⟨G', g, dr, tk', os⟩ := I1.laid (t' := tk') old M.dbig ob
    refine ⟨e, oe, fv, ⟨G', g, dr, tk', os⟩, _, .ref C, some d, rfl, J, fun b o q => ?_, ge, hoe, ⟨hc, hd⟩, hdat, h1, ?_, rfl, I1.bare, raises_own T.exC T.tyC, q1 d (I1.hok.fresh M.dbig)⟩
    · by_cases hb : b = e
      · have q' : G'.get? b = some o := q
        rw [hb, ge] at q'; cases q'
      · exact (gk b hb).symm.trans q
    · rw [upd_ne (Ne.symm M.dne)]
      exact I1.hok.fresh M.new
/-- raise Low(e) -/
def tRaiseNotAStock (C : Addr) (W : WX) (ta : TA) : TS := fun _ σ H => tMkNotAStock C ta σ H fun cls d H' => W cls d σ H'
theorem ps_raiseNotAStock {a : Expr} {ta : TA} {W : WX} {p pos pos2 : Pos} {k : Nat} (hc : X.calm = true) (T : PySem.NotAStockX.NotAStockTxt X.K X.mg C fI) (hr : Room k X.A) (tk : Takes X W) (ha : PA X [a] ta) (hg : Gl X "NotAStock" := by rfl)
    (he : starEach (a :: []) X.env = (false, eval a X.env) :: starEach [] X.env := by rfl) (hpl : (backTo pos (starEach [] X.env)).any (·.1) = false := by rfl) :
    PS X (.Raise (some (.Call (.Name "NotAStock" p) [a] [] pos)) none pos2) (tRaiseNotAStock C W ta) := ps_raise hc tk (pmk_NotAStock T hr ha hg he hpl)
/-- low.by, low the exception that the suite holds (at a; its class cls, its dict d) -/
def tByNotAStock (C : Addr) (a : Addr) (cls : Value) (d : Option Addr) (te : TE) : TE := fun σ H Q => te σ H fun x H1 => x = .ref a ∧ cls = .ref C ∧ ∃ (dd : Addr) (v : V), d = some dd ∧ H1 dd = some (.xd [(("place" : Str), v)]) ∧ Q v H1
theorem pe_byNotAStock {a : Addr} {oe : Obj} {cls : Value} {d : Option Addr} {pn : List (Addr × Obj)} {e : Expr} {te : TE} {pos : Pos} (T : PySem.NotAStockX.NotAStockTxt X.K X.mg C fI) (hz : Zc cls d oe) (hf : ∃ vs, oe.data = .fields vs) (he : PE (X.suite a ((a, oe) :: pn)) e te)
    (hb : attributeBase e "place" X.env (eval e X.env) = eval e X.env := by rfl) :
    PE (X.suite a ((a, oe) :: pn)) (.Attribute e "place" pos) (tByNotAStock C a cls d te) := by
  refine ⟨fun pins s σ H Q I h => ?_⟩
  refine attr_of hb (thn (he.run pins s σ H _ I h) fun u s1 hh => ?_)
  obtain ⟨x, H1, I1, rx, ex, ec, dd, v, ed, ea, q⟩ := hh
  subst ex
  obtain rfl : u = Value.ref a := rx
  subst ec
  subst ed
  obtain ⟨ha, _⟩ := I1.pin (a, oe) (List.mem_append_left _ List.mem_cons_self)
  obtain ⟨vs, hd⟩ := hf
  have hx : ObjOk X.prog X.w H1 s1.heap dd (.xd [(("place" : Str), v)]) := I1.hok dd _ ea
  obtain ⟨mA, hns, hr⟩ := hx
  obtain ⟨od, ho, hl⟩ := lookIn_ns hns
  have l : List.lookup ("place" : Str) [(("place" : Str), v)] = some v := by simp [List.lookup]
  obtain ⟨u, hu, ru⟩ := RelO.some_of (v := v) (o := mA "place") (by rw [← l]; exact hr "place")
  have J : PySem.W.InstAt s1.heap a oe C (some od) := ⟨ha, hz.1, by unfold PySem.W.notCls; rw [hd] <;> rfl, by rw [hz.2]; exact ho⟩
  exact HandSPX.exc_get I1.kIn J T.ga T.gg T.exC (PySem.W.findObj_own T.hdC T.noN rfl (by rw [hl, hu])) (handed_of ru) ⟨v, H1, I1.tok _, ru, q⟩
end
end L2





set_option Elab.async false
set_option linter.all false
set_option maxRecDepth 100000
set_option maxHeartbeats 4000000
/-! A set's table laid anew: it never fails for small whole numbers. -/
namespace SetT
open PySem L2
def orb (mask : Nat) : Nat → Nat → Nat → List Nat
  | 0, _, _ => []
  | f + 1, i, p => i :: orb mask f ((i * 5 + 1 + p / 32) % (mask + 1)) (p / 32)
/-- every slot is met -/
def Met (mask h : Nat) : Prop := ∀ s, s < mask + 1 → s ∈ orb mask (SetTable.turns mask) (h % (mask + 1)) h
def allMet (mask : Nat) : Bool := (List.range 64).all fun h => (List.range (mask + 1)).all fun s => (orb mask (SetTable.turns mask) (h % (mask + 1)) h).contains s
theorem met_of {mask : Nat} (c : allMet mask = true) {h : Nat} (hh : h < 64) : Met mask h := fun s hs => by
  have a := List.all_eq_true.mp c h (List.mem_range.mpr hh)
  have b := List.all_eq_true.mp a s (List.mem_range.mpr hs)
  exact List.contains_iff_mem.mp b
theorem met7 : allMet 7 = true := by decide +kernel
theorem met15 : allMet 15 = true := by decide +kernel
theorem met31 : allMet 31 = true := by decide +kernel
theorem met63 : allMet 63 = true := by decide +kernel
theorem met127 : allMet 127 = true := by decide +kernel
def GoodM (mask : Nat) : Prop := mask = 7 ∨ mask = 15 ∨ mask = 31 ∨ mask = 63 ∨ mask = 127
theorem GoodM.met {mask : Nat} (g : GoodM mask) {h : Nat} (hh : h < 64) : Met mask h := by
  rcases g with rfl | rfl | rfl | rfl | rfl
  · exact met_of met7 hh
  · exact met_of met15 hh
  · exact met_of met31 hh
  · exact met_of met63 hh
  · exact met_of met127 hh
end SetT


set_option Elab.async false
set_option linter.all false
set_option maxRecDepth 100000
set_option maxHeartbeats 4000000
/-! A set's table laid anew: it never fails for small whole numbers. -/
namespace SetT
open PySem L2
theorem fm_congr {α β : Type} {f g : α → Option β} : ∀ {l : List α}, (∀ x ∈ l, f x = g x) → l.filterMap f = l.filterMap g
  | [], _ => rfl
  | x :: l, h => by
    have e := h x (List.mem_cons_self ..)
    have ih := fm_congr (l := l) fun y hy => h y (List.mem_cons_of_mem _ hy)
    cases q : f x with
    | none => rw [List.filterMap_cons_none q, List.filterMap_cons_none (by rw [← e]; exact q), ih]
    | some z => rw [List.filterMap_cons_some q, List.filterMap_cons_some (by rw [← e]; exact q), ih]
theorem free_some {mask : Nat} {owner : Array (Option Nat)} {s : Nat} (hs : (owner.getD s (some 0)).isNone = true) : ∀ (f i p : Nat), s ∈ orb mask f i p → ∃ j, SetTable.layClean.free mask owner f i p = some j
  | 0, i, p, h => by simp [orb] at h
  | f + 1, i, p, h => by
    unfold SetTable.layClean.free
    cases hf : (List.range (SetTable.runEnd mask i + 1 - i)).find? fun k => (owner.getD (i + k) (some 0)).isNone with
    | some k => exact ⟨_, rfl⟩
    | none =>
      rcases List.mem_cons.mp h with e | e
      · exfalso
        have h0 := List.find?_eq_none.mp hf 0 (List.mem_range.mpr (by
          unfold SetTable.runEnd
          split <;> omega))
        rw [← e] at h0
        exact h0 (by simpa using hs)
      · exact free_some hs f _ _ e
theorem free_sound {mask : Nat} {owner : Array (Option Nat)} : ∀ (f i p j : Nat), SetTable.layClean.free mask owner f i p = some j → (owner.getD j (some 0)).isNone = true
  | 0, i, p, j, h => by simp [SetTable.layClean.free] at h
  | f + 1, i, p, j, h => by
    unfold SetTable.layClean.free at h
    cases hf : (List.range (SetTable.runEnd mask i + 1 - i)).find? fun k => (owner.getD (i + k) (some 0)).isNone with
    | some k =>
      rw [hf] at h
      have e : i + k = j := Option.some.inj h
      rw [← e]
      exact List.find?_some (p := fun k => (owner.getD (i + k) (some 0)).isNone) hf
    | none =>
      rw [hf] at h
      exact free_sound f _ _ j h
def ownL (owner : Array (Option Nat)) (M : Nat) : List Nat := (List.range M).filterMap fun j => owner.getD j none
structure Owned (owner : Array (Option Nat)) (M k : Nat) : Prop where
  size : owner.size = M
  perm : (ownL owner M).Perm (List.range k)
theorem fm_new {f g : Nat → Option Nat} {j k : Nat} (hf : f j = none) (hg : g j = some k) (ho : ∀ i, i ≠ j → g i = f i) : ∀ l : List Nat, l.Nodup → j ∈ l → (l.filterMap g).Perm (k :: l.filterMap f)
  | [], _, h => by simp at h
  | x :: l, nd, h => by
    obtain ⟨n1, n2⟩ := List.nodup_cons.mp nd
    by_cases c : x = j
    · subst c
      have e : l.filterMap g = l.filterMap f := fm_congr fun i hi => ho i fun z => n1 (z ▸ hi)
      rw [List.filterMap_cons_some hg, List.filterMap_cons_none hf, e]
    · have hj : j ∈ l := by
        rcases List.mem_cons.mp h with z | z
        · exact absurd z.symm c
        · exact z
      have ih := fm_new hf hg ho l n2 hj
      cases q : f x with
      | none =>
        rw [List.filterMap_cons_none (by rw [ho x c]; exact q), List.filterMap_cons_none q]
        exact ih
      | some y =>
        rw [List.filterMap_cons_some (by rw [ho x c]; exact q), List.filterMap_cons_some q]
        exact (ih.cons y).trans (List.Perm.swap k y _)
theorem Owned.step {owner : Array (Option Nat)} {M k j : Nat} (h : Owned owner M k) (hj : (owner.getD j (some 0)).isNone = true) : Owned (owner.setIfInBounds j (some k)) M (k + 1) := by
  have hjs : j < owner.size := by
    by_cases c : j < owner.size
    · exact c
    · rw [Array.getD_eq_getD_getElem?, Array.getElem?_eq_none (by omega)] at hj
      cases hj
  have hn : owner.getD j none = none := by
    rw [Array.getD_eq_getD_getElem?, Array.getElem?_eq_getElem hjs] at hj ⊢
    simpa using hj
  refine ⟨by rw [Array.size_setIfInBounds]; exact h.size, ?_⟩
  have p := fm_new (f := fun i => owner.getD i none) (g := fun i => (owner.setIfInBounds j (some k)).getD i none) (j := j) (k := k) hn (by
    show (owner.setIfInBounds j (some k)).getD j none = some k
    rw [Array.getD_eq_getD_getElem?, Array.getElem?_setIfInBounds_self_of_lt hjs]
    rfl) (fun i hi => by
    show (owner.setIfInBounds j (some k)).getD i none = owner.getD i none
    rw [Array.getD_eq_getD_getElem?, Array.getD_eq_getD_getElem?, Array.getElem?_setIfInBounds_ne (Ne.symm hi)]) (List.range M) List.nodup_range (List.mem_range.mpr (by rw [← h.size]; exact hjs))
  refine p.trans ?_
  rw [List.range_succ]
  exact (h.perm.cons k).trans (List.perm_append_singleton k (List.range k)).symm
theorem fm_full {f : Nat → Option Nat} : ∀ l : List Nat, (∀ j ∈ l, f j ≠ none) → (l.filterMap f).length = l.length
  | [], _ => rfl
  | x :: l, h => by
    cases q : f x with
    | none => exact absurd q (h x (List.mem_cons_self ..))
    | some y =>
      rw [List.filterMap_cons_some q, List.length_cons, List.length_cons, fm_full l fun j hj => h j (List.mem_cons_of_mem _ hj)]
theorem Owned.room {owner : Array (Option Nat)} {M k : Nat} (h : Owned owner M k) (hk : k < M) : ∃ s, s < M ∧ (owner.getD s (some 0)).isNone = true := by
  apply Classical.byContradiction
  intro c
  have hall : ∀ j ∈ List.range M, owner.getD j none ≠ none := fun j hj e => by
    have hjM := List.mem_range.mp hj
    refine c ⟨j, hjM, ?_⟩
    rw [Array.getD_eq_getD_getElem?, Array.getElem?_eq_getElem (by rw [h.size]; exact hjM)] at e ⊢
    simp at e
    simp [e]
  have e1 := fm_full (f := fun j => owner.getD j none) (List.range M) hall
  have e2 := h.perm.length_eq
  unfold ownL at e2
  rw [List.length_range] at e1 e2
  omega
theorem Owned.nil (M : Nat) : Owned (Array.replicate M none) M 0 := by
  refine ⟨by simp, ?_⟩
  have e : ownL (Array.replicate M none) M = [] := by
    unfold ownL
    rw [List.filterMap_eq_nil_iff]
    intro j hj
    rw [Array.getD_eq_getD_getElem?, Array.getElem?_replicate]
    split <;> rfl
  rw [e]
  exact List.Perm.refl _
def stepL (mask : Nat) (acc : Option (Array (Option Nat) × Nat)) (h : Int) : Option (Array (Option Nat) × Nat) := do
    let (owner, k) ← acc
    let j ← SetTable.layClean.free mask owner (SetTable.turns mask) (SetTable.bits h % (mask + 1)) (SetTable.bits h)
    pure (owner.setIfInBounds j (some k), k + 1)
theorem fold_ok {mask : Nat} (g : GoodM mask) : ∀ (hs : List Int) (owner : Array (Option Nat)) (k : Nat), Owned owner (mask + 1) k → k + hs.length ≤ mask + 1 → (∀ h ∈ hs, SetTable.bits h < 64) →
    ∃ owner', hs.foldl (stepL mask) (some (owner, k)) = some (owner', k + hs.length) ∧ Owned owner' (mask + 1) (k + hs.length)
  | [], owner, k, O, _, _ => ⟨owner, rfl, O⟩
  | h :: hs, owner, k, O, hl, hb => by
    rw [List.length_cons] at hl
    obtain ⟨s, hs1, hs2⟩ := O.room (by omega)
    obtain ⟨j, hj⟩ := free_some hs2 _ _ _ (g.met (hb h (List.mem_cons_self ..)) s hs1)
    have hn := free_sound _ _ _ _ hj
    have e : stepL mask (some (owner, k)) h = some (owner.setIfInBounds j (some k), k + 1) := by
      unfold stepL
      show (SetTable.layClean.free mask owner (SetTable.turns mask) (SetTable.bits h % (mask + 1)) (SetTable.bits h)).bind _ = _
      rw [hj]
      rfl
    obtain ⟨o', h1, h2⟩ := fold_ok g hs _ (k + 1) (O.step hn) (by omega) fun z hz => hb z (List.mem_cons_of_mem _ hz)
    refine ⟨o', ?_, ?_⟩
    · rw [List.foldl_cons, e, h1, List.length_cons, show k + 1 + hs.length = k + (hs.length + 1) by omega]
    · rw [List.length_cons, show k + (hs.length + 1) = k + 1 + hs.length by omega]
      exact h2
theorem layClean_ok {mask : Nat} (g : GoodM mask) {hs : Array Int} (hl : hs.size ≤ mask + 1) (hb : ∀ h ∈ hs.toList, SetTable.bits h < 64) : ∃ owner, SetTable.layClean mask hs = some owner ∧ Owned owner (mask + 1) hs.size := by
  obtain ⟨o, h1, h2⟩ := fold_ok g hs.toList _ 0 (Owned.nil (mask + 1)) (by rw [Array.length_toList]; omega) hb
  refine ⟨o, ?_, by rw [Array.length_toList, Nat.zero_add] at h2; exact h2⟩
  unfold SetTable.layClean
  rw [← Array.foldl_toList]
  show Option.map (·.1) (hs.toList.foldl (stepL mask) (some (Array.replicate (mask + 1) none, 0))) = some o
  rw [h1]
  rfl
theorem laid_ok {mask finger moves : Nat} {led plain : Bool} (g : GoodM mask) {hs : Array Int} (hl : hs.size ≤ mask) (hb : ∀ h ∈ hs.toList, SetTable.bits h < 64) :
    ∃ t order, SetTable.laid mask finger moves led plain hs = some (t, order) ∧ t.mask = mask ∧ t.dummies = #[] ∧ t.led = led ∧ Ris t.place.toList ∧ t.fits hs.size = true ∧ order.toList.Perm (List.range hs.size) := by
  obtain ⟨owner, h1, h2⟩ := layClean_ok g (hs := hs) (by omega) hb
  have eo : ((List.range (mask + 1)).filterMap fun j => (owner.getD j none).map (j, ·)).map (·.2) = ownL owner (mask + 1) := by
    unfold ownL
    rw [List.map_filterMap]
    apply fm_congr
    intro j _
    cases owner.getD j none <;> rfl
  have el : ((List.range (mask + 1)).filterMap fun j => (owner.getD j none).map (j, ·)).length = hs.size := by
    have := congrArg List.length eo
    rw [List.length_map] at this
    rw [this, h2.perm.length_eq, List.length_range]
  refine ⟨_, _, by unfold SetTable.laid; rw [h1]; rfl, rfl, rfl, rfl, ?_, ?_, ?_⟩
  · refine (ris_live (fun j => owner.getD j none) (List.range (mask + 1)) ?_).1
    unfold Ris
    first | exact List.pairwise_lt_range | exact List.pairwise_lt_range _
  · unfold SetTable.fits SetTable.fill
    dsimp only
    rw [Bool.and_eq_true]
    refine ⟨?_, ?_⟩
    · rw [beq_iff_eq]
      simp only [List.size_toArray, List.length_map]
      exact el
    · rw [decide_eq_true_eq]
      simp only [List.size_toArray, List.length_map]
      rw [el]
      exact hl
  · dsimp only
    rw [eo]
    exact h2.perm
theorem range_fm {α : Type} (es : List α) : (List.range es.length).filterMap (fun i => es[i]?) = es := by
  suffices h : ∀ (n : Nat) (es : List α), es.length = n → (List.range es.length).filterMap (fun i => es[i]?) = es from h _ es rfl
  clear es
  intro n
  induction n with
  | zero =>
    intro es he
    rw [List.length_eq_zero_iff.mp he]
    rfl
  | succ n ih0 =>
    intro es0 he
    obtain ⟨es, x, rfl⟩ : ∃ es x, es0 = es ++ [x] := ⟨es0.dropLast, es0.getLast (fun z => by rw [z] at he; cases he), (List.dropLast_concat_getLast _).symm⟩
    have ih := ih0 es (by rw [List.length_append, List.length_singleton] at he; omega)
    rw [List.length_append, List.length_singleton, List.range_succ, List.filterMap_append]
    have e1 : (List.range es.length).filterMap (fun i => (es ++ [x])[i]?) = (List.range es.length).filterMap (fun i => es[i]?) := by
      apply fm_congr
      intro i hi
      rw [List.getElem?_append_left (List.mem_range.mp hi)]
    rw [e1, ih]
    simp
theorem order_perm {α : Type} {es : Array α} {order : Array Nat} (h : order.toList.Perm (List.range es.size)) : (order.filterMap (es[·]?)).toList.Perm es.toList := by
  rw [Array.toList_filterMap]
  refine (h.filterMap _).trans ?_
  have e : (List.range es.size).filterMap (fun i => es[i]?) = es.toList := by
    have := range_fm es.toList
    rw [Array.length_toList] at this
    refine Eq.trans (fm_congr fun i _ => ?_) this
    rw [Array.getElem?_toList]
  rw [e]
end SetT


set_option Elab.async false
set_option linter.all false
set_option maxRecDepth 100000
set_option maxHeartbeats 4000000
/-! Sets of small whole numbers: walked, laid anew, merged. -/
namespace SetT
open PySem PySem.Spec PyProof.Rows L2
/-- a set of whole numbers at a: its elements es -/
structure SX (w : World) (h : Heap) (a : Addr) (es : Array (Int × Value)) (ep : Nat) (t : SetTable) : Prop where
  ob : ∃ o, h.get? a = some o ∧ o.ExactSet ∧ o.data = .set es ep t
  good : ∀ e ∈ es.toList, GoodE e
  nd : (es.toList.map keyOf).Nodup
  small : es.size < scanBound
  fits : t.fits es.size = true
  ris : Ris t.place.toList
  led : w.params.followText "set-order" = true ∨ t.led = true
def Mem (S : Int → Bool) (es : Array (Int × Value)) : Prop := ∀ k, S k = true ↔ k ∈ es.toList.map keyOf
theorem sx_of {w : World} {h : Heap} {a : Addr} {S : Int → Bool} {n : Nat} (R : SetR w h a S n) : ∃ es ep t, SX w h a es ep t ∧ Mem S es ∧ es.size = n := by
  obtain ⟨o, es, ep, t, ho, hex, hd, g, nd, hm, hb, hf, hn, hr, hl⟩ := R
  exact ⟨es, ep, t, ⟨⟨o, ho, hex, hd⟩, g, nd, hb, hf, hr, hl⟩, hm, hn⟩
theorem SX.setR {w : World} {h : Heap} {a : Addr} {S : Int → Bool} {es : Array (Int × Value)} {ep : Nat} {t : SetTable} (X : SX w h a es ep t) (m : Mem S es) : SetR w h a S es.size := by
  obtain ⟨o, ho, hex, hd⟩ := X.ob
  exact ⟨o, es, ep, t, ho, hex, hd, X.good, X.nd, m, X.small, X.fits, rfl, X.ris, X.led⟩
theorem SX.keep {w : World} {h h' : Heap} {a : Addr} {es : Array (Int × Value)} {ep : Nat} {t : SetTable} (X : SX w h a es ep t) (k : ∀ o, h.get? a = some o → h'.get? a = some o) : SX w h' a es ep t := by
  obtain ⟨o, ho, r⟩ := X.ob
  exact ⟨⟨o, k o ho, r⟩, X.good, X.nd, X.small, X.fits, X.ris, X.led⟩
section
variable {P : Program} {w : World} {A : Around} {E : Value → Shared → Prop} {s : Shared} {a : Addr} {es : Array (Int × Value)} {ep : Nat} {t : SetTable}
theorem SX.typeIs (X : SX w s.heap a es ep t) : s.TypeIs (.ref a) "set" := by
  obtain ⟨o, ho, hex, _⟩ := X.ob
  exact ⟨o, ho, hex.1⟩
theorem SX.lt (X : SX w s.heap a es ep t) : a < s.heap.objs.size := by
  obtain ⟨o, ho, _⟩ := X.ob
  exact Heap.lt_size ho
theorem SX.state {Q : (Array (Int × Value) × Nat × SetTable) → Shared → Prop} (X : SX w s.heap a es ep t) (h : Q (es, ep, t) s) : wpAny (model P w) A (setState a) Q E s := by
  obtain ⟨o, ho, _, hd⟩ := X.ob
  exact wpAny_setState_of ho hd X.fits h
theorem SX.entries {Q : Array (Int × Value) → Shared → Prop} (X : SX w s.heap a es ep t) (h : Q es s) : wpAny (model P w) A (setEntries a) Q E s := by
  obtain ⟨o, ho, _, hd⟩ := X.ob
  exact wpAny_setEntries_of ho hd X.fits h
theorem SX.epoch {Q : Nat → Shared → Prop} (X : SX w s.heap a es ep t) (h : Q ep s) : wpAny (model P w) A (setEpoch a) Q E s := by
  obtain ⟨o, ho, _, hd⟩ := X.ob
  exact wpAny_setEpoch_of ho hd X.fits h
/-- stored anew -/
theorem SX.store {es' : Array (Int × Value)} {t' : SetTable} {Q : Unit → Shared → Prop} (X : SX w s.heap a es ep t) (g : ∀ e ∈ es'.toList, GoodE e) (nd : (es'.toList.map keyOf).Nodup) (hb : es'.size < scanBound) (hf : t'.fits es'.size = true) (r : Ris t'.place.toList) (hl : w.params.followText "set-order" = true ∨ t'.led = true)
    (h : ∀ h', Heap.SameBut a s.heap h' → SX w h' a es' (ep + 1) t' → Q () { s with heap := h' }) : wpAny (model P w) A (storeSet a es' t') Q E s := by
  obtain ⟨o, ho, hex, hd⟩ := X.ob
  refine wpAny_storeSet_of ho hd ?_ (fits_of_scanBound hb)
  have ho1 := store_at (es' := es') (t' := t') ho hd
  exact h _ (Heap.SameBut.update s.heap a (Obj.putSet es' t')) ⟨⟨_, ho1, hex, rfl⟩, g, nd, hb, hf, r, hl⟩
/-! ### walks -/
theorem setWalk_eq (a : Addr) : setWalk a = (do
  let (es, epoch, t) ← setState a
  if ← setsByText then return pickOrder ((← ask).params.setOrder a epoch) es
  if (!t.plain && es.size > 1) then return (← drawOrder es.size es.toList).toArray
  (do if !t.led && es.size > 1 then unsupported "set:maker-not-led" : Sem Unit)
  return es) := rfl
theorem SX.walk {Q : Array (Int × Value) → Shared → Prop} (X : SX w s.heap a es ep t) (h : ∀ es' d, es'.toList.Perm es.toList → Q es' { s with drawn := d }) : wpAny (model P w) A (setWalk a) Q E s := by
  rw [setWalk_eq]
  refine wpAny_bind (X.state ?_)
  dsimp only
  refine wpAny_bind (wpAny_byText ?_)
  cases hb : w.params.followText "set-order" with
  | true =>
    refine wp_if_pos rfl ?_
    refine wpAny_bind (wpAny_askSetting ?_)
    exact wpAny_pure (h _ s.drawn (pick_perm _ _))
  | false =>
    refine wp_if_neg (by simp) ?_
    have hl : t.led = true := by
      rcases X.led with z | z
      · rw [hb] at z; cases z
      · exact z
    cases hp : (!t.plain && decide (es.size > 1)) with
    | true =>
      refine wp_if_pos rfl ?_
      refine wpAny_bind (drawOrder_at _ _ _ _ (by rw [Array.length_toList]; exact Nat.le_refl _) fun ys d p => ?_)
      exact wpAny_pure (h _ d p)
    | false =>
      refine wp_if_neg (by simp) ?_
      refine wpAny_bind ?_
      rw [hl]
      refine wp_if_neg (by simp) ?_
      exact wpAny_pure (wpAny_pure (h _ s.drawn (List.Perm.refl _)))
theorem quiet_ok {Q : Bool → Shared → Prop} (as : List Addr) (ha : ∀ b ∈ as, ∃ es ep t, SX w s.heap b es ep t) (h : Q true s) : wpAny (model P w) A (setsQuiet as) Q E s := by
  unfold setsQuiet
  refine wpAny_bind ?_
  refine wpAny_forIn_list _ (fun rest r s' => r.1 = none ∧ s' = s ∧ ∀ b ∈ rest, ∃ es ep t, SX w s.heap b es ep t) _ ?_ ?_ _ _ ⟨rfl, rfl, ha⟩
  · rintro b rest r s' ⟨hr, rfl, hb⟩
    obtain ⟨es, ep, t, X⟩ := hb b (List.mem_cons_self ..)
    refine wpAny_bind (X.entries ?_)
    refine wpAny_bind ?_
    refine wpAny_forIn_array' _ (fun rest2 r2 s2 => r2.1 = none ∧ s2 = s' ∧ ∀ e ∈ rest2, GoodE e) _ ?_ ?_ _ _ ⟨rfl, rfl, X.good⟩
    · rintro ⟨hh, x⟩ rest2 r2 s2 ⟨hr2, rfl, hg⟩
      obtain ⟨k, tk, e1, e2⟩ := hg _ (List.mem_cons_self ..)
      dsimp only at e1
      subst e1
      dsimp only
      exact wpAny_pure ⟨rfl, rfl, fun e he => hg e (List.mem_cons_of_mem _ he)⟩
    · rintro r2 s2 ⟨hr2, rfl, _⟩
      obtain ⟨r21, r22⟩ := r2
      dsimp only at hr2
      subst hr2
      dsimp only
      exact wpAny_pure ⟨rfl, rfl, fun e he => hb e (List.mem_cons_of_mem _ he)⟩
  · rintro r s' ⟨hr, rfl, _⟩
    obtain ⟨r1, r2⟩ := r
    dsimp only at hr
    subst hr
    exact wpAny_pure h
end
end SetT


set_option Elab.async false
set_option linter.all false
set_option maxRecDepth 100000
set_option maxHeartbeats 4000000
/-! Sets of small whole numbers: merged, copied, joined. -/
namespace SetT
open PySem PySem.Spec PyProof.Rows L2
theorem bits_low {k : Int} (h0 : 0 ≤ k) (h1 : k < 64) : SetTable.bits (hashInt k) < 64 := by
  obtain ⟨n, rfl⟩ : ∃ n : Nat, k = (n : Int) := ⟨k.toNat, by omega⟩
  have hn : n < 64 := by omega
  have all : ∀ n : Fin 64, SetTable.bits (hashInt ((n : Nat) : Int)) < 64 := by decide +kernel
  exact all ⟨n, hn⟩
/-- the keys are small -/
def Low (es : Array (Int × Value)) : Prop := ∀ k ∈ es.toList.map keyOf, 0 ≤ k ∧ k < 64
theorem Low.bits {es : Array (Int × Value)} (l : Low es) (g : ∀ e ∈ es.toList, GoodE e) : ∀ h ∈ (es.map (·.1)).toList, SetTable.bits h < 64 := fun h hh => by
  rw [Array.toList_map] at hh
  obtain ⟨e, he, rfl⟩ := List.mem_map.mp hh
  obtain ⟨k, tk, h1, h2⟩ := g e he
  have hk : keyOf e = k := by
    unfold keyOf
    rw [h1]
  have := l (keyOf e) (List.mem_map.mpr ⟨e, he, rfl⟩)
  rw [hk] at this
  rw [h2]
  exact bits_low this.1 this.2
theorem above_good : ∀ n : Fin 128, (SetTable.sizeAbove n - 1 = 7 ∨ SetTable.sizeAbove n - 1 = 15 ∨ SetTable.sizeAbove n - 1 = 31 ∨ SetTable.sizeAbove n - 1 = 63 ∨ SetTable.sizeAbove n - 1 = 127) ∧ n < SetTable.sizeAbove n ∧ SetTable.sizeAbove n ≤ 128 := by decide +kernel
section
variable {P : Program} {w : World} {A : Around} {E : Value → Shared → Prop} {s : Shared} {a : Addr} {es : Array (Int × Value)} {ep : Nat} {t : SetTable}
theorem setRelay_eq (a : Addr) (wanted : Nat) : setRelay a wanted = (do
  let (es, _, t) ← setState a
  if SetTable.sizeAbove wanted > sizeLine then unsupported "set:memory"
  let (es, t) ← (do
    let some (t, order) := t.relaid (es.map (·.1)) wanted | unsupported "internal:set-table-without-room"
    let es' := order.filterMap (es[·]?)
    if es'.size != es.size then unsupported "internal:set-table-lost-an-element"
    pure (es', t))
  storeSet a es t) := rfl
/-- laid anew -/
theorem SX.relay {wanted : Nat} {Q : Unit → Shared → Prop} (X : SX w s.heap a es ep t) (lo : Low es) (hw : wanted < 128) (hs : es.size ≤ wanted)
    (h : ∀ h' es' t', Heap.SameBut a s.heap h' → SX w h' a es' (ep + 1) t' → es'.toList.Perm es.toList → GoodM t'.mask → wanted ≤ t'.mask → t'.dummies = #[] → Q () { s with heap := h' }) : wpAny (model P w) A (setRelay a wanted) Q E s := by
  obtain ⟨g1, g2, g3⟩ := above_good ⟨wanted, hw⟩
  dsimp only at g1 g2 g3
  obtain ⟨t', order, e1, e2, e3, e4, e5, e6, e7⟩ := laid_ok (finger := t.finger) (moves := t.movedTo (SetTable.sizeAbove wanted - 1)) (led := t.led) (plain := t.plain) g1 (hs := es.map (·.1)) (by rw [Array.size_map]; omega) (lo.bits X.good)
  rw [Array.size_map] at e6 e7
  have pm := order_perm e7
  have hsz : (order.filterMap (es[·]?)).size = es.size := by
    have := pm.length_eq
    rw [Array.length_toList, Array.length_toList] at this
    exact this
  rw [setRelay_eq]
  refine wpAny_bind (X.state ?_)
  dsimp only
  have hL : ¬ (SetTable.sizeAbove wanted > sizeLine) := by
    rw [sizeLine_eq]
    omega
  rw [if_neg hL]
  have er : t.relaid (es.map (·.1)) wanted = some (t', order) := e1
  rw [er]
  dsimp only
  have ec : ((order.filterMap (es[·]?)).size != es.size) = false := by
    rw [hsz]
    simp
  rw [ec]
  refine wpAny_bind (wpAny_pure ?_)
  dsimp only
  refine X.store (fun e he => X.good e (pm.mem_iff.mp he)) ((pm.map keyOf).nodup_iff.mpr X.nd) (by rw [hsz]; exact X.small) (by rw [hsz]; exact e6) e5 (X.led.imp id fun z => by rw [e4]; exact z) fun h' sb X' => ?_
  exact h h' _ t' sb X' pm (by rw [e2]; exact g1) (by rw [e2]; omega) e3
theorem Low.perm {es es' : Array (Int × Value)} (l : Low es) (p : es'.toList.Perm es.toList) : Low es' := fun k hk => l k ((p.map keyOf).mem_iff.mp hk)
theorem Mem.perm {S : Int → Bool} {es es' : Array (Int × Value)} (m : Mem S es) (p : es'.toList.Perm es.toList) : Mem S es' := fun k => (m k).trans (p.map keyOf).mem_iff.symm
/-- walked, where nobody sees the order -/
theorem SX.walkU {others : List Addr} {f : Addr} {ef : Array (Int × Value)} {epf : Nat} {tf : SetTable} {Q : Array (Int × Value) → Shared → Prop} (X : SX w s.heap a es ep t) (Xf : SX w s.heap f ef epf tf) (ho : ∀ b ∈ others, ∃ es ep t, SX w s.heap b es ep t)
    (h : ∀ es' h' d ep' t', es'.toList.Perm es.toList → Heap.SameBut f s.heap h' → SX w h' f ef ep' t' → Q es' { s with heap := h', drawn := d }) : wpAny (model P w) A (setWalkUnseen a others (some f)) Q E s := by
  have viaWalk : wpAny (model P w) A (setWalk a) Q E s := X.walk fun es' d p => h es' s.heap d epf tf p (Heap.SameBut.refl f s.heap) Xf
  unfold setWalkUnseen
  refine wpAny_bind (X.state ?_)
  dsimp only
  refine wpAny_bind (wpAny_byText ?_)
  by_cases c : (w.params.followText "set-order" || (t.led && t.plain) || decide (es.size ≤ 1)) = true
  · refine wp_if_pos c ?_
    first | exact viaWalk | exact wpAny_bind (wpAny_mono viaWalk (fun u s' q => wpAny_pure q) fun _ _ q => q)
  · refine wp_if_neg c ?_
    refine wpAny_bind (quiet_ok (a :: others) (fun b hb => ?_) ?_)
    · rcases List.mem_cons.mp hb with e | e
      · rw [e]
        exact ⟨_, _, _, X⟩
      · exact ho b e
    · refine wp_if_neg (by simp) ?_
      refine wpAny_bind (wpAny_rule ?_)
      refine wpAny_bind (Xf.state ?_)
      dsimp only
      have hb : w.params.followText "set-order" = false := by
        cases q : w.params.followText "set-order" with
        | false => rfl
        | true => rw [q] at c; exact absurd rfl c
      have hl : t.led = true := by
        rcases X.led with z | z
        · rw [hb] at z; cases z
        · exact z
      split
      · refine wpAny_bind (Xf.store Xf.good Xf.nd Xf.small ?_ Xf.ris (Xf.led.imp id fun z => ?_) fun h' sb X' => ?_)
        · exact Xf.fits
        · show (tf.led && t.led) = true
          rw [z, hl]
          rfl
        · exact wpAny_pure (h es h' s.drawn _ _ (List.Perm.refl _) sb X')
      · exact wpAny_pure (h es s.heap s.drawn epf tf (List.Perm.refl _) (Heap.SameBut.refl f s.heap) Xf)
end
end SetT


set_option Elab.async false
set_option linter.all false
set_option maxRecDepth 100000
set_option maxHeartbeats 4000000
/-! Sets of small whole numbers: one merged into another. -/
namespace SetT
open PySem PySem.Spec PyProof.Rows L2
/-- at a: the set S of at most c numbers; empty: its table can be filled -/
def Res (w : World) (h : Heap) (a : Addr) (S : Int → Bool) (c : Nat) (fl : Prop) : Prop := ∃ es ep t, SX w h a es ep t ∧ Mem S es ∧ es.size ≤ c ∧ (es.size = 0 → GoodM t.mask ∧ t.dummies = #[]) ∧ (fl → t.dummies = #[])
def LowS (S : Int → Bool) : Prop := ∀ k, S k = true → 0 ≤ k ∧ k < 64
theorem LowS.low {S : Int → Bool} {es : Array (Int × Value)} (l : LowS S) (m : Mem S es) : Low es := fun k hk => l k ((m k).mpr hk)
theorem Res.setR {w : World} {h : Heap} {a : Addr} {S : Int → Bool} {c : Nat} {fl : Prop} (R : Res w h a S c fl) : ∃ n, n ≤ c ∧ SetR w h a S n := by
  obtain ⟨es, ep, t, X, m, hc, _, _⟩ := R
  exact ⟨es.size, hc, X.setR m⟩
section
variable {P : Program} {w : World} {A : Around} {E : Value → Shared → Prop} {s : Shared} {a o : Addr} {es eo : Array (Int × Value)} {ep epo : Nat} {t to : SetTable}
theorem SX.room {more : Nat} {Q : Unit → Shared → Prop} (X : SX w s.heap a es ep t) (lo : Low es) (hm : es.size + more < 64) (hM : es.size = 0 → GoodM t.mask ∧ t.dummies = #[]) (hpos : 0 < more)
    (h : ∀ h' es' ep' t', Heap.SameBut a s.heap h' → SX w h' a es' ep' t' → es'.toList.Perm es.toList → (t'.fill = 0 → GoodM t'.mask ∧ more ≤ t'.mask) → (es.size = 0 ∧ t.dummies = #[] → t'.fill = 0) → Q () { s with heap := h' }) : wpAny (model P w) A (setRoomFor a more) Q E s := by
  unfold setRoomFor
  refine wpAny_bind (X.state ?_)
  dsimp only
  have hp : t.place.size = es.size := by
    have := X.fits
    unfold SetTable.fits at this
    rw [Bool.and_eq_true] at this
    exact beq_iff_eq.mp this.1
  unfold SetTable.roomFor
  by_cases c : (t.fill + more) * 5 ≥ t.mask * 3
  · rw [if_pos c]
    dsimp only
    refine X.relay lo (by rw [hp]; omega) (by rw [hp]; omega) fun h' es' t' sb X' pm g hw hd => ?_
    refine h h' es' _ t' sb X' pm (fun _ => ⟨g, by omega⟩) fun ⟨z, _⟩ => ?_
    have hp' : t'.place.size = es'.size := by
      have := X'.fits
      unfold SetTable.fits at this
      rw [Bool.and_eq_true] at this
      exact beq_iff_eq.mp this.1
    have hl := pm.length_eq
    rw [Array.length_toList, Array.length_toList] at hl
    unfold SetTable.fill
    rw [hd, hp', hl, z]
    rfl
  · rw [if_neg c]
    dsimp only
    refine wpAny_pure (h s.heap es ep t (Heap.SameBut.refl a s.heap) X (List.Perm.refl _) (fun hf => ?_) fun ⟨z, z2⟩ => by unfold SetTable.fill; rw [z2, hp, z]; rfl)
    have h0 : es.size = 0 := by
      unfold SetTable.fill at hf
      omega
    obtain ⟨g, _⟩ := hM h0
    exact ⟨g, by rw [hf] at c; omega⟩
theorem setMerge_eq (s o : Addr) (each : Sem Unit) : setMerge s o each = (do
  if s == o then return
  let (eo, epoch, to) ← setState o
  if eo.isEmpty then return
  setRoomFor s eo.size
  let (_, _, ts) ← setState s
  match ts.road to with
  | .slotForSlot => storeSet s eo { to with finger := ts.finger, led := ts.led && to.led, moves := ts.moves, plain := ts.plain && to.plain }
  | .clean =>
    let (es, t) ← (do
      let some (t, order) := (SetTable.laid ts.mask ts.finger ts.moves (led := ts.led && to.led) (plain := ts.plain && to.plain) (eo.map (·.1))) | unsupported "internal:set-table-without-room"
      let es' := order.filterMap (eo[·]?)
      if es'.size != eo.size then unsupported "internal:set-table-lost-an-element"
      pure (es', t))
    storeSet s es t
  | .oneByOne =>
    for (h, x) in ← setWalkUnseen o [s] (some s) do
      let _ ← holding [x] (setAddHashed s x h)
      each
      if (← setState o).2.1 != epoch then unsupported "set.changed-during-merge") := rfl
theorem merge_at {S So : Int → Bool} {each : Sem Unit} {Q : Unit → Shared → Prop} (X : SX w s.heap a es ep t) (Xo : SX w s.heap o eo epo to) (hne : a ≠ o) (m : Mem S es) (mo : Mem So eo) (lo : LowS S) (loo : LowS So) (hsz : es.size + eo.size < 64)
    (hM : es.size = 0 → GoodM t.mask ∧ t.dummies = #[]) (hE : ∀ (s1 : Shared) (Q' : Unit → Shared → Prop), SX w s1.heap o eo epo to → Q' () s1 → wpAny (model P w) A each Q' E s1)
    (h : ∀ h' d, Heap.SameBut a s.heap h' → Res w h' a (fun k => S k || So k) (es.size + eo.size) (es.size = 0 ∧ t.dummies = #[]) → Q () { s with heap := h', drawn := d }) : wpAny (model P w) A (setMerge a o each) Q E s := by
  rw [setMerge_eq]
  have hb : (a == o) = false := by simpa using hne
  rw [hb]
  refine wp_if_neg (by simp) ?_
  refine wpAny_bind (Xo.state ?_)
  dsimp only
  by_cases c0 : eo.size = 0
  · refine wp_if_pos (by simpa [Array.isEmpty] using c0) ?_
    refine wpAny_pure (h s.heap s.drawn (Heap.SameBut.refl a s.heap) ⟨es, ep, t, X, fun k => ?_, by omega, hM, fun z => z.2⟩)
    have hso : So k = false := by
      cases q : So k with
      | false => rfl
      | true =>
        have := (mo k).mp q
        rw [Array.size_eq_zero_iff.mp c0] at this
        simp at this
    show (S k || So k) = true ↔ _
    rw [hso, Bool.or_false]
    exact m k
  refine wp_if_neg (by simpa [Array.isEmpty] using c0) ?_
  refine wpAny_bind (X.room (lo.low m) (by omega) hM (by omega) fun h1 es1 ep1 t1 sb1 X1 pm1 hg1 hf1 => ?_)
  have Xo1 : SX w h1 o eo epo to := Xo.keep fun ob q => by rw [sb1.2 o (Ne.symm hne)]; exact q
  have hes1 : es1.size = es.size := by
    have := pm1.length_eq
    rw [Array.length_toList, Array.length_toList] at this
    exact this
  refine wpAny_bind (X1.state ?_)
  dsimp only
  have hp1 : t1.place.size = es1.size := by
    have := X1.fits
    unfold SetTable.fits at this
    rw [Bool.and_eq_true] at this
    exact beq_iff_eq.mp this.1
  have emp : t1.fill = 0 → ∀ k, S k = false := fun hf k => by
    cases q : S k with
    | false => rfl
    | true =>
      have := (m k).mp q
      have e0 : es.size = 0 := by
        unfold SetTable.fill at hf
        omega
      rw [Array.size_eq_zero_iff.mp e0] at this
      simp at this
  unfold SetTable.road
  by_cases cf : t1.fill = 0
  · have hS := emp cf
    have meq : ∀ {es' : Array (Int × Value)}, es'.toList.Perm eo.toList → Mem (fun k => S k || So k) es' := fun p k => by
      show (S k || So k) = true ↔ _
      rw [hS k, Bool.false_or]
      exact mo.perm p k
    rw [if_neg (by simp [cf])]
    by_cases cs : (t1.mask == to.mask && to.dummies.isEmpty) = true
    · rw [if_pos cs]
      dsimp only
      refine X1.store Xo.good Xo.nd Xo.small ?_ Xo.ris ?_ fun h2 sb2 X2 => ?_
      · exact Xo.fits
      · rcases X1.led with z | z
        · exact .inl z
        · rcases Xo.led with z2 | z2
          · exact .inl z2
          · exact .inr (by show (t1.led && to.led) = true; rw [z, z2]; rfl)
      · refine h h2 s.drawn (sb1.trans sb2) ⟨_, _, _, X2, meq (List.Perm.refl _), by omega, fun z => absurd z c0, fun _ => ?_⟩
        rw [Bool.and_eq_true] at cs
        exact Array.isEmpty_iff.mp cs.2
    · rw [if_neg cs]
      dsimp only
      obtain ⟨g1, g2⟩ := hg1 cf
      obtain ⟨t', order, e1, e2, e3, e4, e5, e6, e7⟩ := laid_ok (finger := t1.finger) (moves := t1.moves) (led := t1.led && to.led) (plain := t1.plain && to.plain) g1 (hs := eo.map (·.1)) (by rw [Array.size_map]; omega) ((loo.low mo).bits Xo.good)
      rw [Array.size_map] at e6 e7
      have pm := order_perm e7
      have hsz2 : (order.filterMap (eo[·]?)).size = eo.size := by
        have := pm.length_eq
        rw [Array.length_toList, Array.length_toList] at this
        exact this
      rw [e1]
      dsimp only
      have ec : ((order.filterMap (eo[·]?)).size != eo.size) = false := by
        rw [hsz2]
        simp
      rw [ec]
      refine wpAny_bind (wpAny_pure ?_)
      dsimp only
      refine X1.store (fun e he => Xo.good e (pm.mem_iff.mp he)) ((pm.map keyOf).nodup_iff.mpr Xo.nd) (by rw [hsz2]; exact Xo.small) (by rw [hsz2]; exact e6) e5 ?_ fun h2 sb2 X2 => ?_
      · rcases X1.led with z | z
        · exact .inl z
        · rcases Xo.led with z2 | z2
          · exact .inl z2
          · exact .inr (by rw [e4, z, z2]; rfl)
      · exact h h2 s.drawn (sb1.trans sb2) ⟨_, _, _, X2, meq pm, by rw [hsz2]; omega, fun z => absurd (hsz2 ▸ z) c0, fun _ => e3⟩
  · rw [if_pos (by simp [cf])]
    dsimp only
    refine wpAny_bind (SX.walkU (s := { s with heap := h1 }) Xo1 X1 (fun b hb => ?_) fun es2 h2 d2 ep2 t2 pm2 sb2 X2 => ?_)
    · rw [List.mem_singleton.mp hb]
      exact ⟨_, _, _, X1⟩
    · have Xo2 : SX w h2 o eo epo to := Xo1.keep fun ob q => by rw [sb2.2 o (Ne.symm hne)]; exact q
      have R2 : SetR w h2 a S es1.size := X2.setR (m.perm pm1)
      have hl2 : es2.toList.length = eo.size := by rw [pm2.length_eq, Array.length_toList]
      refine wpAny_bind ?_
      refine wpAny_forIn_array' _ (fun rest _ s1 => ∃ h3 S3 c3, s1 = { s with heap := h3, drawn := d2 } ∧ Heap.SameBut a h2 h3 ∧ SetR w h3 a S3 c3 ∧ c3 + rest.length ≤ es.size + eo.size ∧ (∀ e ∈ rest, GoodE e) ∧ (∀ k, (S3 k = true ∨ k ∈ rest.map keyOf) ↔ (S k = true ∨ So k = true)))
        _ ?_ ?_ _ _ ⟨h2, S, es1.size, rfl, Heap.SameBut.refl a h2, R2, by omega, fun e he => Xo.good e (pm2.mem_iff.mp he), fun k => by rw [(mo.perm pm2 k)]⟩
      · rintro ⟨hh, x⟩ rest _ s1 ⟨h3, S3, c3, rfl, sb3, R3, hc3, hg3, hk3⟩
        obtain ⟨k, tk, e1, e2⟩ := hg3 _ (List.mem_cons_self ..)
        dsimp only at e1 e2
        subst e1 e2
        rw [List.length_cons] at hc3
        have hkey : keyOf (hashInt k, Value.int k tk) = k := rfl
        have sc : scanBound = 4096 := rfl
        refine wpAny_bind (wpAny_holding ?_)
        refine setR_add_hashed (s := { s with heap := h3, drawn := d2 }) (k := k) (tk := tk) R3 (by omega) fun h4 sb4 R4 => ?_
        have Xo4 : SX w h4 o eo epo to := (Xo2.keep fun ob q => by rw [sb3.2 o (Ne.symm hne)]; exact q).keep fun ob q => by rw [sb4.2 o (Ne.symm hne)]; exact q
        refine wpAny_bind (hE _ _ Xo4 ?_)
        refine wpAny_bind (Xo4.state ?_)
        have en : (epo != epo) = false := by simp
        dsimp only
        rw [en]
        refine wp_if_neg (by simp) ?_
        refine wpAny_pure ⟨h4, _, _, rfl, sb3.trans sb4, R4, ?_, fun e he => hg3 e (List.mem_cons_of_mem _ he), fun j => ?_⟩
        · split <;> omega
        · rw [← hk3 j, List.map_cons, hkey]
          simp only [Bool.or_eq_true, decide_eq_true_eq, List.mem_cons]
          constructor
          · rintro ((z | z) | z)
            · exact .inl z
            · exact .inr (.inl z)
            · exact .inr (.inr z)
          · rintro (z | z | z)
            · exact .inl (.inl z)
            · exact .inl (.inr z)
            · exact .inr z
      · rintro _ s1 ⟨h3, S3, c3, rfl, sb3, R3, hc3, _, hk3⟩
        have eS : ∀ k, (fun k => S k || So k) k = S3 k := fun k => by
          have := hk3 k
          rw [List.map_nil] at this
          simp only [List.not_mem_nil, or_false] at this
          cases q1 : S3 k <;> cases q2 : S k <;> cases q3 : So k <;> simp_all
        have R4 := R3.congr eS
        obtain ⟨es4, ep4, t4, X4, m4, hn4⟩ := sx_of R4
        refine wpAny_pure (h h3 d2 ((sb1.trans sb2).trans sb3) ⟨es4, ep4, t4, X4, m4, ?_, fun z => ?_, fun z => absurd (hf1 z) cf⟩)
        · simp at hc3
          omega
        · exfalso
          obtain ⟨e0, he0⟩ : ∃ e0, e0 ∈ eo.toList := List.exists_mem_of_ne_nil _ fun q => c0 (by rw [← Array.length_toList, q]; rfl)
          have hk0 : So (keyOf e0) = true := (mo _).mpr (List.mem_map.mpr ⟨e0, he0, rfl⟩)
          have := (m4 (keyOf e0)).mp (by show (S (keyOf e0) || So (keyOf e0)) = true; rw [hk0, Bool.or_true])
          rw [Array.size_eq_zero_iff.mp z] at this
          simp at this
end
end SetT


set_option Elab.async false
set_option linter.all false
set_option maxRecDepth 100000
set_option maxHeartbeats 4000000
namespace SetT
open PySem PySem.Spec PyProof.Rows L2
theorem entry_or : entryFor table "set.__or__" = some Builtin.«frozenset.__or__» := entryFor_alias (id' := "frozenset.__or__") (by kernel_rfl) rfl (by decide +kernel) (by kernel_rfl)
theorem entry_and : entryFor table "set.__and__" = some Builtin.«frozenset.__and__» := entryFor_alias (id' := "frozenset.__and__") (by kernel_rfl) rfl (by decide +kernel) (by kernel_rfl)
theorem entry_sub : entryFor table "set.__sub__" = some Builtin.«frozenset.__sub__» := entryFor_alias (id' := "frozenset.__sub__") (by kernel_rfl) rfl (by decide +kernel) (by kernel_rfl)
end SetT


set_option Elab.async false
set_option linter.all false
set_option maxRecDepth 100000
set_option maxHeartbeats 4000000
/-! Sets of small whole numbers: a | b, a & b, a - b. -/
namespace SetT
open PySem PySem.Spec PyProof.Rows L2
section
variable {P : Program} {w : World} {A : Around} {E : Value → Shared → Prop} {s : Shared} {a o : Addr} {es eo : Array (Int × Value)} {ep epo : Nat} {t to : SetTable}
def freshObj (w : World) : Obj := { cls := .type "set", dict := none, data := .set #[] 0 (.fresh 0 0 (!w.params.followText "set-order")) }
theorem newSet_at {Q : Value → Shared → Prop} (h : Q (.ref s.heap.objs.size) { s with heap := s.heap.push (freshObj w) }) : wpAny (model P w) A (newSet (.type "set")) Q E s := by
  unfold newSet setsByText
  refine wpAny_bind (wpAny_bind (wpAny_askSetting (wpAny_pure ?_)))
  dsimp only
  simp only [newObj]
  exact wpAny_bind (wpAny_alloc (wpAny_pure h))
theorem fresh_sx {h : Heap} (w : World) : SX w (h.push (freshObj w)) h.objs.size #[] 0 (.fresh 0 0 (!w.params.followText "set-order")) :=
  ⟨⟨_, Heap.get?_push_size _ rfl, ⟨rfl, rfl, rfl⟩, rfl⟩, (fun e he => by simp at he), (by simp), (by decide), (by rfl), List.Pairwise.nil, by
    show _ ∨ (!w.params.followText "set-order") = true
    cases w.params.followText "set-order"
    · exact .inr rfl
    · exact .inl rfl⟩
theorem SX.anySet {Q : Bool → Shared → Prop} (X : SX w s.heap a es ep t) (h : Q true s) : wpAny (model P w) A (Builtin.Frozenset.isAnySet (.ref a)) Q E s := by
  unfold Builtin.Frozenset.isAnySet orM
  refine wpAny_bind (wpAny_isInstance (b := true) X.typeIs sub_set_self ?_)
  exact wpAny_pure h
theorem SX.base {Q : Value → Shared → Prop} (X : SX w s.heap a es ep t) (h : Q (.type "set") s) : wpAny (model P w) A (Builtin.Frozenset.baseOf a) Q E s := by
  unfold Builtin.Frozenset.baseOf
  refine wpAny_bind (wpAny_isInstance (b := true) X.typeIs sub_set_self ?_)
  exact wpAny_pure h
theorem SX.push (X : SX w s.heap a es ep t) (x : Obj) : SX w (s.heap.push x) a es ep t := X.keep fun _ q => Heap.get?_push_of_some _ q
theorem SX.ne_new (X : SX w s.heap a es ep t) : s.heap.objs.size ≠ a := Nat.ne_of_gt X.lt
/-- a new heap: all old things stay, at the new place stands S -/
def NewS (w : World) (h h' : Heap) (S : Int → Bool) (c : Nat) (fl : Prop) : Prop := (∀ b u, h.get? b = some u → h'.get? b = some u) ∧ Res w h' h.objs.size S c fl
theorem keep_new {h h' : Heap} {x : Obj} (sb : Heap.SameBut h.objs.size (h.push x) h') : ∀ b u, h.get? b = some u → h'.get? b = some u := fun b u q => by
  rw [sb.2 b (Nat.ne_of_lt (Heap.lt_size q))]
  exact Heap.get?_push_of_some _ q
/-- a copy -/
theorem copy_at {S : Int → Bool} {Q : Value → Shared → Prop} (X : SX w s.heap a es ep t) (m : Mem S es) (lo : LowS S) (hs : es.size < 64)
    (h : ∀ h' d, NewS w s.heap h' S es.size True → Q (.ref s.heap.objs.size) { s with heap := h', drawn := d }) : wpAny (model P w) A (Builtin.Frozenset.copyOf a) Q E s := by
  unfold Builtin.Frozenset.copyOf
  refine wpAny_bind (X.base ?_)
  refine wpAny_bind (newSet_at ?_)
  unfold Builtin.Frozenset.addrOf
  refine wpAny_bind (wpAny_pure ?_)
  refine wpAny_bind (merge_at (s := { s with heap := s.heap.push (freshObj w) }) (S := fun _ => false) (So := S) (fresh_sx w) (X.push _) X.ne_new (fun k => by simp) m (fun k z => nomatch z) lo (by simp; exact hs) (fun _ => ⟨.inl rfl, rfl⟩) (fun s1 Q' _ q => wpAny_pure q) fun h' d sb R => ?_)
  refine wpAny_pure (h h' d ⟨keep_new sb, ?_⟩)
  obtain ⟨es', ep', t', X', m', hc, hM, hF⟩ := R
  exact ⟨es', ep', t', X', fun k => by rw [← m' k]; simp, by simpa using hc, hM, fun _ => hF ⟨rfl, rfl⟩⟩
theorem Res.mono {h : Heap} {S S' : Int → Bool} {c c' : Nat} {fl : Prop} (R : Res w h a S c fl) (e : ∀ k, S' k = S k) (hc : c ≤ c') : Res w h a S' c' False := by
  obtain ⟨es, ep, t, X, m, h1, h2, _⟩ := R
  exact ⟨es, ep, t, X, fun k => by rw [e k]; exact m k, Nat.le_trans h1 hc, h2, fun z => z.elim⟩
theorem or_at {S So : Int → Bool} {Q : Value → Shared → Prop} (X : SX w s.heap a es ep t) (Xo : SX w s.heap o eo epo to) (hne : a ≠ o) (m : Mem S es) (mo : Mem So eo) (lo : LowS S) (loo : LowS So) (hsz : es.size + eo.size < 64)
    (h : ∀ h' d, NewS w s.heap h' (fun k => S k || So k) (es.size + eo.size) False → Q (.ref s.heap.objs.size) { s with heap := h', drawn := d }) : wpAny (model P w) A (binaryOp .BitOr (.ref a) (.ref o)) Q E s := by
  refine wpAny_binaryOp_same X.typeIs Xo.typeIs PySem.F.fills_set_or PySem.F.slot_set_or (wpAny_call_entry PySem.F.slot_set_or X.typeIs entry_or ?_ (PySem.F.args_set_or_2 _ _))
  unfold Builtin.«frozenset.__or__»
  refine wpAny_bind (m := Builtin.Frozenset.slot1 "__or__" _) (wpAny_of_eq (a := (.ref a, .ref o)) (by rfl) ?_)
  dsimp only
  refine wpAny_bind ?_
  refine wpAny_bind (X.anySet ?_)
  show wpAny _ _ (Builtin.Frozenset.isAnySet (.ref o)) _ _ _
  refine Xo.anySet ?_
  refine wp_if_neg (by simp) ?_
  unfold Builtin.Frozenset.addrOf
  refine wpAny_bind (wpAny_pure ?_)
  refine wpAny_bind ?_
  show wpAny _ _ (do
    let result ← Builtin.Frozenset.copyOf a
    if (Value.ref o) != .ref a then
      let x ← Builtin.Frozenset.addrOf result
      holding [result] (Builtin.Frozenset.updateFrom "frozenset.__or__" x (.ref o))
    return result) _ _ _
  refine wpAny_bind (copy_at X m lo (by omega) fun h1 d1 N1 => ?_)
  have hra : (Value.ref o != Value.ref a) = true := by simpa using (Ne.symm hne)
  refine wp_if_pos hra ?_
  obtain ⟨k1, es1, ep1, t1, X1, m1, hc1, hM1, _⟩ := N1
  have Xo1 : SX w h1 o eo epo to := Xo.keep fun ob q => k1 _ _ q
  unfold Builtin.Frozenset.addrOf
  refine wpAny_bind (wpAny_pure ?_)
  refine wpAny_bind (wpAny_holding ?_)
  unfold Builtin.Frozenset.updateFrom
  refine wpAny_bind (SX.anySet (s := { s with heap := h1, drawn := d1 }) Xo1 ?_)
  refine wp_if_pos rfl ?_
  unfold Builtin.Frozenset.addrOf Builtin.Frozenset.merge
  refine wpAny_bind (wpAny_pure ?_)
  refine wpAny_bind (SX.epoch (s := { s with heap := h1, drawn := d1 }) Xo1 ?_)
  refine merge_at (s := { s with heap := h1, drawn := d1 }) X1 Xo1 Xo.ne_new m1 mo lo loo (by omega) hM1 (fun s1 Q' Xs q => ?_) fun h2 d2 sb2 R2 => ?_
  · unfold Builtin.Frozenset.unchanged
    refine wpAny_bind (Xs.epoch ?_)
    refine wp_if_neg (by simp) ?_
    exact wpAny_pure q
  · refine wpAny_pure ?_
    refine wpAny_pure ⟨_, rfl, (fun z => nomatch z), h h2 d2 ⟨fun b u q => ?_, R2.mono (fun _ => rfl) (by omega)⟩⟩
    rw [sb2.2 b (Nat.ne_of_lt (Heap.lt_size q))]
    exact k1 _ _ q
end
end SetT


set_option Elab.async false
set_option linter.all false
set_option maxRecDepth 100000
set_option maxHeartbeats 4000000
namespace SetT
open PySem PySem.Spec PyProof.Rows L2
section
variable {P : Program} {w : World} {A : Around} {E : Value → Shared → Prop} {s : Shared} {a o : Addr} {es eo : Array (Int × Value)} {ep epo : Nat} {t to : SetTable}
/-- of the walked set (at a) those that p asks for go into the set at r -/
theorem pick_loop {r : Addr} {S Sr p : Int → Bool} {cr : Nat} {body : Int × Value → PUnit → Sem (ForInStep PUnit)} {Q : PUnit → Shared → Prop} (es2 : Array (Int × Value)) (pm : es2.toList.Perm es.toList) (X : SX w s.heap a es ep t) (hne : r ≠ a) (m : Mem S es) (R : SetR w s.heap r Sr cr) (he : ∀ k, Sr k = false) (hsz : cr + es.size < 128) (G : Heap → Prop) (hG : ∀ h', Heap.SameBut r s.heap h' → G h')
    (hbody : ∀ (k : Int) (tk : Tok) (s1 : Shared) (Q' : ForInStep PUnit → Shared → Prop) (S1 : Int → Bool) (c1 : Nat), G s1.heap → SX w s1.heap a es ep t → SetR w s1.heap r S1 c1 → c1 < 128 →
      (∀ h' c', Heap.SameBut r s1.heap h' → c' ≤ c1 + 1 → SetR w h' r (fun j => S1 j || (decide (j = k) && p k)) c' → Q' (.yield ⟨⟩) { s1 with heap := h' }) → wpAny (model P w) A (body (hashInt k, .int k tk) ⟨⟩) Q' E s1)
    (h : ∀ h' c, Heap.SameBut r s.heap h' → SetR w h' r (fun k => S k && p k) c → c ≤ cr + es.size → Q ⟨⟩ { s with heap := h' }) : wpAny (model P w) A (forIn es2 ⟨⟩ body) Q E s := by
  have hl2 : es2.toList.length = es.size := by rw [pm.length_eq, Array.length_toList]
  refine wpAny_forIn_array' _ (fun rest _ s1 => ∃ h3 S3 c3, s1 = { s with heap := h3 } ∧ Heap.SameBut r s.heap h3 ∧ SetR w h3 r S3 c3 ∧ c3 + rest.length ≤ cr + es.size ∧ (∀ e ∈ rest, GoodE e) ∧ (∀ k, (S3 k = true ∨ (k ∈ rest.map keyOf ∧ p k = true)) ↔ (S k = true ∧ p k = true)))
    _ ?_ ?_ _ _ ⟨s.heap, Sr, cr, rfl, Heap.SameBut.refl r s.heap, R, by omega, fun e he => X.good e (pm.mem_iff.mp he), fun k => by rw [(m.perm pm k), he k]; simp⟩
  · rintro ⟨hh, x⟩ rest u s1 ⟨h3, S3, c3, rfl, sb3, R3, hc3, hg3, hk3⟩
    obtain ⟨k, tk, e1, e2⟩ := hg3 _ (List.mem_cons_self ..)
    dsimp only at e1 e2
    subst e1 e2
    rw [List.length_cons] at hc3
    have hkey : keyOf (hashInt k, Value.int k tk) = k := rfl
    refine hbody k tk { s with heap := h3 } _ S3 c3 (hG h3 sb3) (X.keep fun ob q => by rw [sb3.2 a (Ne.symm hne)]; exact q) R3 (by omega) fun h4 c4 sb4 hc4 R4 => ?_
    refine ⟨h4, _, c4, rfl, sb3.trans sb4, R4, by omega, fun e he => hg3 e (List.mem_cons_of_mem _ he), fun j => ?_⟩
    rw [← hk3 j, List.map_cons, hkey]
    simp only [Bool.or_eq_true, Bool.and_eq_true, decide_eq_true_eq, List.mem_cons]
    constructor
    · rintro ((z | ⟨rfl, z⟩) | ⟨z, z2⟩)
      · exact .inl z
      · exact .inr ⟨.inl rfl, z⟩
      · exact .inr ⟨.inr z, z2⟩
    · rintro (z | ⟨rfl | z, z2⟩)
      · exact .inl (.inl z)
      · exact .inl (.inr ⟨rfl, z2⟩)
      · exact .inr ⟨z, z2⟩
  · rintro u s1 ⟨h3, S3, c3, rfl, sb3, R3, hc3, _, hk3⟩
    have eS : ∀ k, (fun k => S k && p k) k = S3 k := fun k => by
      have := hk3 k
      rw [List.map_nil] at this
      simp only [List.not_mem_nil, false_and, or_false] at this
      cases q1 : S3 k <;> cases q2 : S k <;> cases q3 : p k <;> simp_all
    exact h h3 c3 sb3 (R3.congr eS) (by simp at hc3; omega)
theorem find_at {S : Int → Bool} {n : Nat} {k : Int} {tk : Tok} {Q : Option Nat → Shared → Prop} (R : SetR w s.heap a S n) (h : ∀ r : Option Nat, r.isSome = S k → Q r s) : wpAny (model P w) A (setFind a (.int k tk) (hashInt k)) Q E s :=
  wpAny_setFind_of (knd := intKind P w) (intKind_is P w k tk) rfl R.setOf h
/-- a & b -/
theorem and_at {S So : Int → Bool} {Q : Value → Shared → Prop} (X : SX w s.heap a es ep t) (Xo : SX w s.heap o eo epo to) (hne : a ≠ o) (m : Mem S es) (mo : Mem So eo) (hsz : es.size + eo.size < 64)
    (h : ∀ h' d c, (∀ b u, s.heap.get? b = some u → h'.get? b = some u) → SetR w h' s.heap.objs.size (fun k => S k && So k) c → c < 64 → Q (.ref s.heap.objs.size) { s with heap := h', drawn := d }) : wpAny (model P w) A (binaryOp .BitAnd (.ref a) (.ref o)) Q E s := by
  refine wpAny_binaryOp_same X.typeIs Xo.typeIs PySem.F.fills_set_and PySem.F.slot_set_and (wpAny_call_entry PySem.F.slot_set_and X.typeIs entry_and ?_ (PySem.F.args_set_and_2 _ _))
  unfold Builtin.«frozenset.__and__»
  refine wpAny_bind (m := Builtin.Frozenset.slot1 "__and__" _) (wpAny_of_eq (a := (.ref a, .ref o)) (by rfl) ?_)
  dsimp only
  refine wpAny_bind ?_
  refine wpAny_bind (X.anySet ?_)
  show wpAny _ _ (Builtin.Frozenset.isAnySet (.ref o)) _ _ _
  refine Xo.anySet ?_
  refine wp_if_neg (by simp) ?_
  unfold Builtin.Frozenset.addrOf
  refine wpAny_bind (wpAny_pure ?_)
  refine wpAny_bind ?_
  show wpAny _ _ (Builtin.Frozenset.intersection _ a (.ref o)) _ _ _
  unfold Builtin.Frozenset.intersection
  have hra : (Value.ref o == Value.ref a) = false := by simpa using (Ne.symm hne)
  refine wp_if_neg (by rw [hra]; exact Bool.false_ne_true) ?_
  refine wpAny_bind (X.base ?_)
  refine wpAny_bind (newSet_at ?_)
  unfold Builtin.Frozenset.addrOf
  refine wpAny_bind (wpAny_pure ?_)
  have F := fresh_sx (h := s.heap) w
  have X1 := X.push (freshObj w)
  have Xo1 := Xo.push (freshObj w)
  have n1 := X.ne_new
  have n2 := Xo.ne_new
  refine wpAny_bind (wpAny_holding ?_)
  refine wpAny_bind (SX.anySet (s := { s with heap := s.heap.push (freshObj w) }) Xo1 ?_)
  refine wp_if_pos rfl ?_
  refine wpAny_bind (wpAny_pure ?_)
  unfold Builtin.Frozenset.sizeOf
  refine wpAny_bind (wpAny_bind (SX.entries (s := { s with heap := s.heap.push (freshObj w) }) Xo1 (wpAny_pure ?_)))
  refine wpAny_bind (wpAny_bind (SX.entries (s := { s with heap := s.heap.push (freshObj w) }) X1 (wpAny_pure ?_)))
  -- the walked one
  have go : ∀ (a1 o1 : Addr) (e1 eo1 : Array (Int × Value)) (p1 po1 : Nat) (t1 to1 : SetTable) (S1 So1 : Int → Bool), SX w (s.heap.push (freshObj w)) a1 e1 p1 t1 → SX w (s.heap.push (freshObj w)) o1 eo1 po1 to1 → s.heap.objs.size ≠ a1 → s.heap.objs.size ≠ o1 → Mem S1 e1 → Mem So1 eo1 → e1.size < 64 → (∀ k, (S1 k && So1 k) = (S k && So k)) →
      wpAny (model P w) A.in1 (do
        let was ← setEpoch a1
        for (h, x) in ← setWalkUnseen a1 [o1, s.heap.objs.size] (some s.heap.objs.size) do
          holding [x] do
            if (← setFind o1 x h).isSome then
              let _ ← setAddHashed s.heap.objs.size x h
          Builtin.Frozenset.unchanged (toString "frozenset." ++ toString "__and__") a1 was) (fun _ s' => wpAny (model P w) A.in1 (pure (Value.ref s.heap.objs.size)) (fun a s' => wpAny (model P w) A.in1 (ret a) (fun fin s' => ∃ v, fin = Fin.done (Flow.ret v) ∧ v ≠ Value.notImplemented ∧ Q v s') E s') E s') E { s with heap := s.heap.push (freshObj w) } := by
    intro a1 o1 e1 eo1 p1 po1 t1 to1 S1 So1 Y Yo na no mY mYo hz eq
    refine wpAny_bind (SX.epoch (s := { s with heap := s.heap.push (freshObj w) }) Y ?_)
    refine wpAny_bind (SX.walkU (s := { s with heap := s.heap.push (freshObj w) }) Y F (fun b hb => ?_) fun es2 h2 d2 ep2 t2 pm2 sb2 F2 => ?_)
    · rcases List.mem_cons.mp hb with z | z
      · rw [z]; exact ⟨_, _, _, Yo⟩
      · rw [List.mem_singleton.mp z]; exact ⟨_, _, _, F⟩
    have Y2 : SX w h2 a1 e1 p1 t1 := Y.keep fun ob q => by rw [sb2.2 a1 (Ne.symm na)]; exact q
    have Yo2 : SX w h2 o1 eo1 po1 to1 := Yo.keep fun ob q => by rw [sb2.2 o1 (Ne.symm no)]; exact q
    have R2 : SetR w h2 s.heap.objs.size (fun _ => false) 0 := F2.setR (fun k => by simp)
    refine wpAny_bind ?_
    refine pick_loop (s := { s with heap := h2, drawn := d2 }) (p := So1) es2 pm2 Y2 na mY R2 (fun _ => rfl) (by omega) (fun h' => SX w h' o1 eo1 po1 to1) (fun h' sb => Yo2.keep fun ob q => by rw [sb.2 o1 (Ne.symm no)]; exact q) (fun k tk s1 Q' S3 c3 G3 X3 R3 hc hq => ?_) fun h3 c3 sb3 R3 hc3 => ?_
    · dsimp only
      have Yr := G3.setR mYo
      refine wpAny_bind (wpAny_holding ?_)
      refine wpAny_bind (find_at Yr fun r hr => ?_)
      have sc : scanBound = 4096 := rfl
      rw [hr]
      cases c : So1 k with
      | true =>
        refine wp_if_pos rfl ?_
        refine wpAny_bind (setR_add_hashed R3 (by omega) fun h4 sb4 R4 => ?_)
        refine wpAny_pure ?_
        unfold Builtin.Frozenset.unchanged
        have X4 : SX w h4 a1 e1 p1 t1 := X3.keep fun ob q => by rw [sb4.2 a1 (Ne.symm na)]; exact q
        refine wpAny_bind (wpAny_bind (SX.epoch (s := { s1 with heap := h4 }) X4 ?_))
        refine wp_if_neg (by simp) ?_
        refine wpAny_pure (wpAny_pure ?_)
        refine hq h4 _ sb4 ?_ (R4.congr fun j => ?_)
        · split <;> omega
        · rw [c, Bool.and_true]
      | false =>
        refine wp_if_neg (by simp) ?_
        refine wpAny_pure ?_
        unfold Builtin.Frozenset.unchanged
        refine wpAny_bind (wpAny_bind (X3.epoch ?_))
        refine wp_if_neg (by simp) ?_
        refine wpAny_pure (wpAny_pure ?_)
        refine hq s1.heap c3 (Heap.SameBut.refl _ _) (by omega) (R3.congr fun j => ?_)
        rw [c, Bool.and_false, Bool.or_false]
    · refine wpAny_pure (wpAny_pure ?_)
      refine wpAny_pure ⟨_, rfl, (fun z => nomatch z), h h3 d2 c3 (keep_new (sb2.trans sb3)) (R3.congr fun k => ?_) (by omega)⟩
      exact (eq k).symm
  by_cases c : eo.size > es.size
  · rw [if_pos c]
    exact go a o es eo ep epo t to S So X1 Xo1 n1 n2 m mo (by omega) fun _ => rfl
  · rw [if_neg c]
    exact go o a eo es epo ep to t So S Xo1 X1 n2 n1 mo m (by omega) fun k => Bool.and_comm _ _
end
end SetT


set_option Elab.async false
set_option linter.all false
set_option maxRecDepth 100000
set_option maxHeartbeats 4000000
namespace SetT
open PySem PySem.Spec PyProof.Rows L2
section
variable {P : Program} {w : World} {A : Around} {E : Value → Shared → Prop} {s : Shared} {a o : Addr} {es eo : Array (Int × Value)} {ep epo : Nat} {t to : SetTable}
/-- walked, where nobody sees the order, nothing filled -/
theorem SX.walkU0 {others : List Addr} {Q : Array (Int × Value) → Shared → Prop} (X : SX w s.heap a es ep t) (ho : ∀ b ∈ others, ∃ es ep t, SX w s.heap b es ep t)
    (h : ∀ es' d, es'.toList.Perm es.toList → Q es' { s with drawn := d }) : wpAny (model P w) A (setWalkUnseen a others none) Q E s := by
  have viaWalk : wpAny (model P w) A (setWalk a) Q E s := X.walk fun es' d p => h es' d p
  unfold setWalkUnseen
  refine wpAny_bind (X.state ?_)
  dsimp only
  refine wpAny_bind (wpAny_byText ?_)
  by_cases c : (w.params.followText "set-order" || (t.led && t.plain) || decide (es.size ≤ 1)) = true
  · refine wp_if_pos c ?_
    first | exact viaWalk | exact wpAny_bind (wpAny_mono viaWalk (fun u s' q => wpAny_pure q) fun _ _ q => q)
  · refine wp_if_neg c ?_
    refine wpAny_bind (quiet_ok (a :: others) (fun b hb => ?_) ?_)
    · rcases List.mem_cons.mp hb with e | e
      · rw [e]
        exact ⟨_, _, _, X⟩
      · exact ho b e
    · refine wp_if_neg (by simp) ?_
      refine wpAny_bind (wpAny_rule ?_)
      exact wpAny_pure (h es s.drawn (List.Perm.refl _))
theorem find_ix {k : Int} {tk : Tok} {Q : Option Nat → Shared → Prop} (X : SX w s.heap a es ep t)
    (h0 : k ∉ es.toList.map keyOf → Q none s) (h1 : ∀ (i : Nat) (hi : i < es.toList.length), keyOf es.toList[i] = k → Q (some i) s) : wpAny (model P w) A (setFind a (.int k tk) (hashInt k)) Q E s := by
  obtain ⟨ob, ho, hex, hd⟩ := X.ob
  have hkey : (intKind P w).is k (.int k tk) = true := intKind_is P w k tk
  have hsc : (Value.int k tk).scannable = true := rfl
  have hel : ElemsOf (intKind P w) es.toList := good_elems X.good
  unfold setFind setFindIn
  refine wpAny_bind (wpAny_setState_of ho hd X.fits ?_)
  dsimp only
  rw [byScan_of hsc X.small hel]
  simp only [↓reduceIte]
  refine wpAny_bind (wpAny_rule ?_)
  refine wpAny_bind (wpAny_setScan_of (knd := intKind P w) hkey ho hd X.fits hel ?_)
  cases hr : List.findIdx? (fun e => (intKind P w).is k e.2) es.toList with
  | none =>
    dsimp only
    refine wpAny_pure (h0 fun z => ?_)
    obtain ⟨e, he, q⟩ := (good_mem (P := P) (w := w) X.good k).1 z
    have c := List.findIdx?_eq_none_iff.mp hr e he
    rw [q] at c
    cases c
  | some j =>
    dsimp only
    obtain ⟨hj, pj, _⟩ := List.findIdx?_eq_some_iff_getElem.mp hr
    refine wpAny_pure ?_
    have := h1 j hj ((good_is (P := P) (w := w) (X.good _ (List.getElem_mem hj)) k).mp pj)
    first | exact this | (rw [Nat.zero_add]; exact this)
theorem erase_list {α : Type} (xs : Array α) (i : Nat) : (SetTable.eraseAt xs i).toList = xs.toList.eraseIdx i := by
  unfold SetTable.eraseAt
  rw [Array.toList_append, Array.toList_extract, Array.toList_extract, List.eraseIdx_eq_take_drop_succ]
  simp only [List.extract_eq_take_drop, Nat.sub_zero, List.drop_zero]
  rw [List.take_of_length_le (l := List.drop (i + 1) xs.toList) (by rw [List.length_drop, Array.length_toList]; exact Nat.le_refl _)]
theorem erase_map {α β : Type} (f : α → β) : ∀ (l : List α) (i : Nat), (l.eraseIdx i).map f = (l.map f).eraseIdx i
  | [], i => by simp
  | a :: r, 0 => by simp
  | a :: r, i + 1 => by simp [erase_map f r i]
theorem nodup_inj {l : List Int} (nd : l.Nodup) {i j : Nat} (hi : i < l.length) (hj : j < l.length) (e : l[i] = l[j]) : i = j := by
  rcases Nat.lt_trichotomy i j with c | c | c
  · exact absurd e (List.pairwise_iff_getElem.mp nd i j hi hj c)
  · exact c
  · exact absurd e.symm (List.pairwise_iff_getElem.mp nd j i hj hi c)
/-- one taken out -/
theorem discard_at {S : Int → Bool} {k : Int} {tk : Tok} {Q : Bool → Shared → Prop} (X : SX w s.heap a es ep t) (m : Mem S es)
    (h : ∀ b h' es' ep' t', Heap.SameBut a s.heap h' → SX w h' a es' ep' t' → Mem (fun j => S j && !decide (j = k)) es' → es'.size ≤ es.size → t'.mask = t.mask → t'.dummies.size ≤ t.dummies.size + 1 → Q b { s with heap := h' }) :
    wpAny (model P w) A (setDiscardHashed a (.int k tk) (hashInt k)) Q E s := by
  unfold setDiscardHashed
  refine wpAny_bind (find_ix X (fun hk => ?_) fun i hi hk => ?_)
  · refine wpAny_pure (h false s.heap es ep t (Heap.SameBut.refl a s.heap) X (fun j => ?_) (Nat.le_refl _) rfl (by omega))
    show (S j && !decide (j = k)) = true ↔ _
    rw [Bool.and_eq_true, Bool.not_eq_true', decide_eq_false_iff_not, m j]
    refine ⟨fun z => z.1, fun z => ⟨z, fun e => hk (e ▸ z)⟩⟩
  · dsimp only
    refine wpAny_bind (X.state ?_)
    dsimp only
    have hle := erase_list es i
    have hi2 : i < es.size := by rw [← Array.length_toList]; exact hi
    have hsz : (SetTable.eraseAt es i).size = es.size - 1 := by
      rw [← Array.length_toList, hle, List.length_eraseIdx_of_lt hi, Array.length_toList]
    have hp : t.place.size = es.size := by
      have := X.fits
      unfold SetTable.fits at this
      rw [Bool.and_eq_true] at this
      exact beq_iff_eq.mp this.1
    have hfl : t.fill ≤ t.mask := by
      have := X.fits
      unfold SetTable.fits at this
      rw [Bool.and_eq_true] at this
      exact of_decide_eq_true this.2
    have hpi : t.place[i]? = some (t.place[i]'(by rw [hp]; exact hi2)) := Array.getElem?_eq_getElem _
    have hdr : t.drop i = { t with place := SetTable.eraseAt t.place i, dummies := SetTable.insertAt t.dummies (SetTable.below t.dummies (t.place[i]'(by rw [hp]; exact hi2))) (t.place[i]'(by rw [hp]; exact hi2)) } := by
      unfold SetTable.drop
      rw [hpi]
    have hpe : (SetTable.eraseAt t.place i).size = es.size - 1 := by
      rw [← Array.length_toList, erase_list, List.length_eraseIdx_of_lt (by rw [Array.length_toList, hp]; exact hi2), Array.length_toList, hp]
    have hin : ∀ (p : Nat) (x : Nat), (SetTable.insertAt t.dummies p x).size ≤ t.dummies.size + 1 := fun p x => by
      unfold SetTable.insertAt
      simp only [Array.size_append, Array.size_push, Array.size_extract]
      omega
    have key1 : (es.toList.eraseIdx i).map keyOf = (es.toList.map keyOf).eraseIdx i := erase_map keyOf _ _
    have hik : i < (es.toList.map keyOf).length := by rw [List.length_map]; exact hi
    have hkk : (es.toList.map keyOf)[i] = k := by rw [List.getElem_map]; exact hk
    refine wpAny_bind (X.store (fun e he => ?_) ?_ ?_ ?_ ?_ ?_ fun h' sb X' => ?_)
    · rw [hle] at he
      exact X.good e (List.mem_of_mem_eraseIdx he)
    · rw [hle, key1]
      exact X.nd.sublist (List.eraseIdx_sublist _ _)
    · rw [hsz]
      have := X.small
      omega
    · rw [hdr]
      unfold SetTable.fits SetTable.fill
      dsimp only
      rw [Bool.and_eq_true]
      refine ⟨?_, ?_⟩
      · rw [beq_iff_eq, hpe, hsz]
      · rw [decide_eq_true_eq, hpe]
        have := hin (SetTable.below t.dummies (t.place[i]'(by rw [hp]; exact hi2))) (t.place[i]'(by rw [hp]; exact hi2))
        unfold SetTable.fill at hfl
        omega
    · rw [hdr]
      dsimp only
      rw [erase_list]
      exact List.Pairwise.sublist (List.eraseIdx_sublist _ _) X.ris
    · rw [hdr]
      exact X.led
    · refine wpAny_bind (wpAny_point ?_)
      refine wpAny_pure (h true h' _ _ _ sb X' (fun j => ?_) (by rw [hsz]; omega) (by rw [hdr]) (by rw [hdr]; exact hin _ _))
      show (S j && !decide (j = k)) = true ↔ _
      rw [Bool.and_eq_true, Bool.not_eq_true', decide_eq_false_iff_not, m j, hle, key1]
      constructor
      · rintro ⟨z, hne⟩
        obtain ⟨q, hq, hqe⟩ := List.mem_iff_getElem.mp z
        have hqi : q ≠ i := fun e => hne (by subst e; rw [← hqe, hkk])
        exact List.mem_eraseIdx_iff_getElem.mpr ⟨q, hq, hqi, hqe⟩
      · intro z
        obtain ⟨q, hq, hqi, hqe⟩ := List.mem_eraseIdx_iff_getElem.mp z
        refine ⟨List.mem_of_mem_eraseIdx z, fun e => hqi ?_⟩
        have e2 : (es.toList.map keyOf)[q] = (es.toList.map keyOf)[i] := by rw [hqe, hkk, e]
        exact nodup_inj X.nd hq hik e2
end
end SetT


set_option Elab.async false
set_option linter.all false
set_option maxRecDepth 100000
set_option maxHeartbeats 4000000
namespace SetT
open PySem PySem.Spec PyProof.Rows L2
section
variable {P : Program} {w : World} {A : Around} {E : Value → Shared → Prop} {s : Shared} {a o : Addr} {es eo : Array (Int × Value)} {ep epo : Nat} {t to : SetTable}
theorem SX.psize {h : Heap} (X : SX w h a es ep t) : t.place.size = es.size ∧ t.fill ≤ t.mask := by
  have := X.fits
  unfold SetTable.fits at this
  rw [Bool.and_eq_true] at this
  exact ⟨beq_iff_eq.mp this.1, of_decide_eq_true this.2⟩
/-- all of o taken out of r -/
theorem minus_at {r : Addr} {S So : Int → Bool} {id : String} {Q : Unit → Shared → Prop} (X : SX w s.heap r es ep t) (Xo : SX w s.heap o eo epo to) (hne : r ≠ o) (m : Mem S es) (mo : Mem So eo) (hb : eo.size / 8 ≤ es.size) (hq : eo.size < es.size / 4 + 1) (hd : t.dummies = #[])
    (h : ∀ h' d c, Heap.SameBut r s.heap h' → SetR w h' r (fun k => S k && !So k) c → c ≤ es.size → Q () { s with heap := h', drawn := d }) : wpAny (model P w) A (Builtin.Frozenset.differenceUpdate id r (.ref o)) Q E s := by
  have hn : t.place.size ≤ t.mask := by
    have := X.psize.2
    unfold SetTable.fill at this
    omega
  have hp := X.psize.1
  unfold Builtin.Frozenset.differenceUpdate
  have hra : (Value.ref o == Value.ref r) = false := by simpa using (Ne.symm hne)
  refine wp_if_neg (by rw [hra]; exact Bool.false_ne_true) ?_
  refine wpAny_bind (Xo.anySet ?_)
  refine wp_if_pos rfl ?_
  unfold Builtin.Frozenset.addrOf
  refine wpAny_bind (wpAny_pure ?_)
  unfold Builtin.Frozenset.sizeOf
  refine wpAny_bind (wpAny_bind (Xo.entries (wpAny_pure ?_)))
  refine wpAny_bind (wpAny_bind (X.entries (wpAny_pure ?_)))
  refine wp_if_neg (by omega) ?_
  refine wpAny_bind (Xo.epoch ?_)
  refine wpAny_bind (wpAny_holding ?_)
  refine wpAny_bind (Xo.walkU0 (fun b hb => by rw [List.mem_singleton.mp hb]; exact ⟨_, _, _, X⟩) fun es2 d2 pm2 => ?_)
  have hl2 : es2.toList.length = eo.size := by rw [pm2.length_eq, Array.length_toList]
  have hh : ∀ (X1 : SX w s.heap o eo epo to), True := fun _ => trivial
  refine wpAny_bind ?_
  refine wpAny_forIn_array' _ (fun rest _ s1 => ∃ h3 es3 ep3 t3 S3, s1 = { s with heap := h3, drawn := d2 } ∧ Heap.SameBut r s.heap h3 ∧ SX w h3 r es3 ep3 t3 ∧ Mem S3 es3 ∧ es3.size ≤ es.size ∧ t3.mask = t.mask ∧ t3.dummies.size + rest.length ≤ eo.size ∧ (∀ e ∈ rest, GoodE e) ∧ (∀ k, (S3 k = true ∧ k ∉ rest.map keyOf) ↔ (S k = true ∧ So k = false)))
    _ ?_ ?_ _ _ ⟨s.heap, es, ep, t, S, rfl, Heap.SameBut.refl r s.heap, X, m, Nat.le_refl _, rfl, by rw [hd, hl2]; simp, fun e he => Xo.good e (pm2.mem_iff.mp he), fun k => by
      have e := mo.perm pm2 k
      cases q : So k with
      | true => rw [q] at e; simp [e.mp rfl]
      | false =>
        rw [q] at e
        have : k ∉ es2.toList.map keyOf := fun z => by have := e.mpr z; cases this
        simp [this]⟩
  · rintro ⟨hh, x⟩ rest u s1 ⟨h3, es3, ep3, t3, S3, rfl, sb3, X3, m3, hc3, hm3, hd3, hg3, hk3⟩
    obtain ⟨k, tk, e1, e2⟩ := hg3 _ (List.mem_cons_self ..)
    dsimp only at e1 e2
    subst e1 e2
    rw [List.length_cons] at hd3
    have hkey : keyOf (hashInt k, Value.int k tk) = k := rfl
    have Xo3 : SX w h3 o eo epo to := Xo.keep fun ob q => by rw [sb3.2 o (Ne.symm hne)]; exact q
    dsimp only
    refine wpAny_bind (wpAny_holding ?_)
    refine discard_at (s := { s with heap := h3, drawn := d2 }) X3 m3 fun b h4 es4 ep4 t4 sb4 X4 m4 hc4 hm4 hd4 => ?_
    unfold Builtin.Frozenset.unchanged
    have Xo4 : SX w h4 o eo epo to := Xo3.keep fun ob q => by rw [sb4.2 o (Ne.symm hne)]; exact q
    refine wpAny_bind (wpAny_bind (SX.epoch (s := { s with heap := h4, drawn := d2 }) Xo4 ?_))
    refine wp_if_neg (by simp) ?_
    refine wpAny_pure (wpAny_pure ?_)
    refine ⟨h4, es4, ep4, t4, _, rfl, sb3.trans sb4, X4, m4, by omega, by omega, by omega, fun e he => hg3 e (List.mem_cons_of_mem _ he), fun j => ?_⟩
    rw [← hk3 j, List.map_cons, hkey]
    simp only [Bool.and_eq_true, Bool.not_eq_true', decide_eq_false_iff_not, List.mem_cons, not_or]
    constructor
    · rintro ⟨⟨z, z2⟩, z3⟩
      exact ⟨z, z2, z3⟩
    · rintro ⟨z, z2, z3⟩
      exact ⟨⟨z, z2⟩, z3⟩
  · rintro u s1 ⟨h3, es3, ep3, t3, S3, rfl, sb3, X3, m3, hc3, hm3, hd3, _, hk3⟩
    refine wpAny_pure ?_
    unfold setTidy
    have e3 : ∀ k, (fun k => S k && !So k) k = S3 k := fun k => by
      have := hk3 k
      rw [List.map_nil] at this
      simp only [List.not_mem_nil, not_false_eq_true, and_true] at this
      cases q1 : S3 k <;> cases q2 : S k <;> cases q3 : So k <;> simp_all
    refine wpAny_bind (SX.state (s := { s with heap := h3, drawn := d2 }) X3 ?_)
    dsimp only
    have hnd : t3.tooManyDummies = false := by
      unfold SetTable.tooManyDummies
      rw [decide_eq_false_iff_not, hm3]
      simp at hd3
      omega
    rw [hnd]
    refine wp_if_neg (by simp) ?_
    exact wpAny_pure (h h3 d2 es3.size sb3 ((X3.setR m3).congr e3) hc3)
/-- a - b -/
theorem sub_at {S So : Int → Bool} {Q : Value → Shared → Prop} (X : SX w s.heap a es ep t) (Xo : SX w s.heap o eo epo to) (hne : a ≠ o) (m : Mem S es) (mo : Mem So eo) (lo : LowS S) (hsz : es.size < 64) (hsz2 : eo.size < 64)
    (h : ∀ h' d c, (∀ b u, s.heap.get? b = some u → h'.get? b = some u) → SetR w h' s.heap.objs.size (fun k => S k && !So k) c → c < 64 → Q (.ref s.heap.objs.size) { s with heap := h', drawn := d }) : wpAny (model P w) A (binaryOp .Sub (.ref a) (.ref o)) Q E s := by
  refine wpAny_binaryOp_same X.typeIs Xo.typeIs PySem.F.fills_set_sub PySem.F.slot_set_sub (wpAny_call_entry PySem.F.slot_set_sub X.typeIs entry_sub ?_ (PySem.F.args_set_sub_2 _ _))
  unfold Builtin.«frozenset.__sub__»
  refine wpAny_bind (m := Builtin.Frozenset.slot1 "__sub__" _) (wpAny_of_eq (a := (.ref a, .ref o)) (by rfl) ?_)
  dsimp only
  refine wpAny_bind ?_
  refine wpAny_bind (X.anySet ?_)
  show wpAny _ _ (Builtin.Frozenset.isAnySet (.ref o)) _ _ _
  refine Xo.anySet ?_
  refine wp_if_neg (by simp) ?_
  unfold Builtin.Frozenset.addrOf
  refine wpAny_bind (wpAny_pure ?_)
  refine wpAny_bind ?_
  show wpAny _ _ (Builtin.Frozenset.difference _ a (.ref o)) _ _ _
  unfold Builtin.Frozenset.difference
  dsimp only
  refine wpAny_bind (Xo.anySet ?_)
  refine wp_if_neg (by simp) ?_
  unfold Builtin.Frozenset.addrOf
  refine wpAny_bind (wpAny_pure ?_)
  refine wp_if_neg (by simp) ?_
  unfold Builtin.Frozenset.sizeOf
  refine wpAny_bind ?_
  refine wpAny_bind (Xo.entries (wpAny_pure ?_))
  refine wpAny_bind (wpAny_bind (X.entries (wpAny_pure ?_)))
  by_cases c : es.size / 4 > eo.size
  · refine wp_if_pos c ?_
    refine wpAny_bind (wpAny_rule ?_)
    refine wpAny_bind (copy_at X m lo hsz fun h1 d1 N1 => ?_)
    obtain ⟨k1, es1, ep1, t1, X1, m1, hc1, hM1, hF1⟩ := N1
    have Xo1 : SX w h1 o eo epo to := Xo.keep fun ob q => k1 _ _ q
    have hpe : es1.size = es.size := by
      have p1 : (es1.toList.map keyOf).Perm (es.toList.map keyOf) := by
        rw [List.perm_ext_iff_of_nodup X1.nd X.nd]
        intro k
        rw [← m1 k, ← m k]
      have := p1.length_eq
      rw [List.length_map, List.length_map, Array.length_toList, Array.length_toList] at this
      exact this
    refine wpAny_bind (wpAny_pure ?_)
    refine wpAny_bind (wpAny_holding ?_)
    refine minus_at (s := { s with heap := h1, drawn := d1 }) X1 Xo1 Xo.ne_new m1 mo (by omega) (by omega) (hF1 trivial) fun h2 d2 c2 sb2 R2 hc2 => ?_
    refine wpAny_pure ?_
    refine wpAny_pure ⟨_, rfl, (fun z => nomatch z), h h2 d2 c2 (fun b u q => ?_) R2 (by omega)⟩
    rw [sb2.2 b (Nat.ne_of_lt (Heap.lt_size q))]
    exact k1 _ _ q
  · refine wp_if_neg c ?_
    refine wpAny_bind (X.base ?_)
    refine wpAny_bind (newSet_at ?_)
    refine wpAny_bind (wpAny_pure ?_)
    have F := fresh_sx (h := s.heap) w
    have X1 := X.push (freshObj w)
    have Xo1 := Xo.push (freshObj w)
    have n1 := X.ne_new
    have n2 := Xo.ne_new
    refine wpAny_bind (SX.epoch (s := { s with heap := s.heap.push (freshObj w) }) X1 ?_)
    refine wpAny_bind (wpAny_holding ?_)
    refine wpAny_bind ?_
    refine wp_if_pos rfl ?_
    refine SX.walkU (s := { s with heap := s.heap.push (freshObj w) }) X1 F (fun b hb => ?_) fun es2 h2 d2 ep2 t2 pm2 sb2 F2 => ?_
    · rcases List.mem_cons.mp hb with z | z
      · rw [z]; exact ⟨_, _, _, Xo1⟩
      · rw [List.mem_singleton.mp z]; exact ⟨_, _, _, F⟩
    have Y2 : SX w h2 a es ep t := X1.keep fun ob q => by rw [sb2.2 a (Ne.symm n1)]; exact q
    have Yo2 : SX w h2 o eo epo to := Xo1.keep fun ob q => by rw [sb2.2 o (Ne.symm n2)]; exact q
    have R2 : SetR w h2 s.heap.objs.size (fun _ => false) 0 := F2.setR (fun k => by simp)
    refine wpAny_bind ?_
    refine pick_loop (s := { s with heap := h2, drawn := d2 }) (p := fun k => !So k) es2 pm2 Y2 n1 m R2 (fun _ => rfl) (by omega) (fun h' => SX w h' o eo epo to) (fun h' sb => Yo2.keep fun ob q => by rw [sb.2 o (Ne.symm n2)]; exact q) (fun k tk s1 Q' S3 c3 G3 X3 R3 hc hq => ?_) fun h3 c3 sb3 R3 hc3 => ?_
    · dsimp only
      have Yr := G3.setR mo
      refine wpAny_bind (wpAny_holding ?_)
      refine wp_if_pos rfl ?_
      refine wpAny_bind (find_at Yr fun r hr => ?_)
      have sc : scanBound = 4096 := rfl
      refine wpAny_bind (wpAny_pure ?_)
      rw [hr]
      cases c : So k with
      | false =>
        refine wp_if_pos rfl ?_
        refine wpAny_bind (setR_add_hashed R3 (by omega) fun h4 sb4 R4 => ?_)
        refine wpAny_pure ?_
        unfold Builtin.Frozenset.unchanged
        have X4 : SX w h4 a es ep t := X3.keep fun ob q => by rw [sb4.2 a (Ne.symm n1)]; exact q
        refine wpAny_bind (wpAny_bind (SX.epoch (s := { s1 with heap := h4 }) X4 ?_))
        refine wp_if_neg (by simp) ?_
        refine wpAny_pure (wpAny_pure ?_)
        refine hq h4 _ sb4 ?_ (R4.congr fun j => ?_)
        · split <;> omega
        · show (S3 j || (decide (j = k) && !So k)) = _
          rw [c]
          simp
      | true =>
        refine wp_if_neg (by simp) ?_
        refine wpAny_pure ?_
        unfold Builtin.Frozenset.unchanged
        refine wpAny_bind (wpAny_bind (X3.epoch ?_))
        refine wp_if_neg (by simp) ?_
        refine wpAny_pure (wpAny_pure ?_)
        refine hq s1.heap c3 (Heap.SameBut.refl _ _) (by omega) (R3.congr fun j => ?_)
        show (S3 j || (decide (j = k) && !So k)) = _
        rw [c]
        simp
    · refine wpAny_pure (wpAny_pure ?_)
      exact wpAny_pure ⟨_, rfl, (fun z => nomatch z), h h3 d2 c3 (keep_new (sb2.trans sb3)) R3 (by omega)⟩
end
end SetT


set_option Elab.async false
set_option linter.all false
set_option maxRecDepth 100000
set_option maxHeartbeats 4000000
/-! set(t), a | b, a & b, a - b over the layer. -/
namespace L2
open PySem PySem.Spec PyProof.Rows
section
variable {X : Cx}
/-- set(t), t a tuple of whole numbers -/
def rSetT (K : PySem.W.Frag) (w : World) : List V → Hp → VK → Prop := fun xs H Q => ∃ (p : Addr) (ns : List Int), xs = [.ref p] ∧ SqT K H p (ns.map V.int) ∧ ns.length < 64 ∧ ∀ q c, H q = none → c ≤ ns.length → Q (.ref q) (upd H q (SetO w q (fun j => decide (j ∈ ns)) c))
theorem cr_setT (hc : X.calm = true) : CallR X (.type "set") (rSetT X.K X.w) := by
  intro pins s σ H xs us Q I r h
  obtain ⟨p, ns, rfl, hs, hl, q⟩ := h
  rw [Vals.ref1 r]
  obtain ⟨its, rv, pt, hz⟩ := I.tuple hs
  have hi : IntsAre its.toArray.toList ns := ints_of_vals rv
  have hd := I.ok.hd hc
  refine call_set_tupI ns hd (show s.heap.IsTuple p its.toArray from pt) hi (by unfold scanBound; omega) fun h' tk c R1 hcn k => ?_
  exact ⟨.ref _, _, I.laid (t' := tk) k (Nat.le_refl _) (setO_new R1), rfl, q _ c (I.hok.fresh (Nat.le_refl _)) hcn⟩
/-- a op b of two sets of small numbers -/
def rSet2 (w : World) (f : Bool → Bool → Bool) : R2 := fun x y H Q => ∃ (a b : Addr) (S So : Int → Bool) (n m : Nat), x = .ref a ∧ y = .ref b ∧ a ≠ b ∧ H a = some (SetO w a S n) ∧ H b = some (SetO w b So m) ∧ SetT.LowS S ∧ SetT.LowS So ∧ n + m < 64 ∧
  ∀ q c, H q = none → c < 64 → Q (.ref q) (upd H q (SetO w q (fun k => f (S k) (So k)) c))
theorem laid_drawn {pins : List (Addr × Obj)} {σ : St} {H : Hp} {s : Shared} (I : Inv X pins σ H s) {h' : Heap} {d : Drawn} {S : Int → Bool} {c : Nat} (k : ∀ b u, s.heap.get? b = some u → h'.get? b = some u) (R : SetR X.w h' s.heap.objs.size S c) :
    Inv X pins σ (upd H s.heap.objs.size (SetO X.w s.heap.objs.size S c)) { s with heap := h', drawn := d } := by
  have hn : H s.heap.objs.size = none := I.hok.fresh (Nat.le_refl _)
  exact I.call (ch := []) (Un.laid k (Nat.le_refl _) hn) (I.hok.laid k (Nat.le_refl _) (setO_new R)) I.bare (fun _ z => nomatch z)
theorem op_setOr : OpR X (binaryOp .BitOr) (rSet2 X.w fun a b => a || b) := by
  intro pins s σ H x y v u Q I rx ry hq
  obtain ⟨a, b, S, So, n, m, rfl, rfl, hne, ha, hb, lo, loo, hz, q⟩ := hq
  cases rx
  cases ry
  obtain ⟨es, ep, t, Y, mY, hn⟩ := SetT.sx_of (setO_get I ha)
  obtain ⟨eo, epo, to, Yo, mYo, hm⟩ := SetT.sx_of (setO_get I hb)
  refine SetT.or_at Y Yo hne mY mYo lo loo (by omega) fun h' d N => ?_
  obtain ⟨k, R⟩ := N
  obtain ⟨c, hc, R2⟩ := R.setR
  exact ⟨.ref _, _, laid_drawn I k R2, rfl, q _ c (I.hok.fresh (Nat.le_refl _)) (by omega)⟩
theorem op_setAnd : OpR X (binaryOp .BitAnd) (rSet2 X.w fun a b => a && b) := by
  intro pins s σ H x y v u Q I rx ry hq
  obtain ⟨a, b, S, So, n, m, rfl, rfl, hne, ha, hb, lo, loo, hz, q⟩ := hq
  cases rx
  cases ry
  obtain ⟨es, ep, t, Y, mY, hn⟩ := SetT.sx_of (setO_get I ha)
  obtain ⟨eo, epo, to, Yo, mYo, hm⟩ := SetT.sx_of (setO_get I hb)
  refine SetT.and_at Y Yo hne mY mYo (by omega) fun h' d c k R2 hc => ?_
  exact ⟨.ref _, _, laid_drawn I k R2, rfl, q _ c (I.hok.fresh (Nat.le_refl _)) hc⟩
theorem op_setSub : OpR X (binaryOp .Sub) (rSet2 X.w fun a b => a && !b) := by
  intro pins s σ H x y v u Q I rx ry hq
  obtain ⟨a, b, S, So, n, m, rfl, rfl, hne, ha, hb, lo, loo, hz, q⟩ := hq
  cases rx
  cases ry
  obtain ⟨es, ep, t, Y, mY, hn⟩ := SetT.sx_of (setO_get I ha)
  obtain ⟨eo, epo, to, Yo, mYo, hm⟩ := SetT.sx_of (setO_get I hb)
  refine SetT.sub_at Y Yo hne mY mYo lo (by omega) (by omega) fun h' d c k R2 hc => ?_
  exact ⟨.ref _, _, laid_drawn I k R2, rfl, q _ c (I.hok.fresh (Nat.le_refl _)) hc⟩
end
end L2


set_option Elab.async false
set_option linter.all false
set_option maxRecDepth 100000
set_option maxHeartbeats 4000000
/-! list(zip(t, u)) of two tuples of one length. -/
namespace ZiL
open PySem PySem.Calls PyProof.Rows PySem.Spec RZ
abbrev IsZf (h : Heap) (z TI TO : Addr) (f0 : Value) (f : Bool) : Prop :=
  h.get? z = some { cls := .type "zip", dict := none, data := .fields #[f0, .bool f, .bool false, .ref TI, .ref TO], slots := #[] }
section
variable {prog : Program} {w : World} {A : Around} {E : Value → Shared → Prop} {s : Shared}
theorem zipA_free {z TI TO T : Addr} {f : Bool} {oT : Obj} {Q : Bool → Shared → Prop} (hz : IsZf s.heap z TI TO (rawInt T) f) (hT : s.heap.get? T = some oT)
    (hQ : ∀ h', IsZf h' z TI TO (rawInt T) true → Heap.SameBut z s.heap h' → Q false { s with heap := h' }) : wpAny (model prog w) A (Builtin.SmallTypes.ownedTupleIsFree (.ref z)) Q E s := by
  unfold Builtin.SmallTypes.ownedTupleIsFree
  refine wpAny_bind (wpAny_field hz rfl (x := rawInt T) rfl ?_)
  show wpAny _ _ (loadIfAlive ((T : Int).toNat) >>= _) _ _ _
  rw [Int.toNat_natCast]
  refine wpAny_bind (PySem.W.kdx_alive hT ?_)
  simp only [Option.isNone_some, Bool.false_eq_true, if_false]
  refine wpAny_bind (wpAny_field hz rfl (x := .bool f) rfl ?_)
  cases f with
  | true =>
    rw [if_neg (show ¬ ((Value.bool true != Value.bool true) = true) from Bool.false_ne_true)]
    exact wpAny_pure (hQ s.heap hz (Heap.SameBut.refl _ _))
  | false =>
    rw [if_pos (show (Value.bool false != Value.bool true) = true from rfl)]
    refine wpAny_bind (wpAny_setField_rec hz (by simp) fun h₃ he₃ hs₃ => ?_)
    exact wpAny_pure (hQ h₃ he₃ hs₃)
theorem zipA_item {z TI TO i1 i2 l1 l2 T : Addr} {f : Bool} {oT : Obj} {k1 k2 : Nat} {xs ys : Array Value} {x y : Value} {Q : Value → Shared → Prop} (D : ZipApart z TI TO i1 i2 l1 l2)
    (hz : IsZf s.heap z TI TO (rawInt T) f) (hT : s.heap.get? T = some oT) (hTI : IsPair s.heap TI (.ref i1) (.ref i2))
    (h1 : s.heap.IsTupleIter i1 l1 k1) (h2 : s.heap.IsTupleIter i2 l2 k2) (hl1 : s.heap.IsTuple l1 xs) (hl2 : s.heap.IsTuple l2 ys) (hx : xs[k1]? = some x) (hy : ys[k2]? = some y)
    (hQ : ∀ h', IsZf h' z TI TO (rawInt T) true → h'.IsTupleIter i1 l1 (k1 + 1) → h'.IsTupleIter i2 l2 (k2 + 1) → IsPair h' s.heap.objs.size x y → h'.objs.size = s.heap.objs.size + 1 →
      (∀ c o, c ≠ z → c ≠ i1 → c ≠ i2 → s.heap.get? c = some o → h'.get? c = some o) → Q (.ref s.heap.objs.size) { s with heap := h' }) :
    wpAny (model prog w) A (Builtin.«zip.__next__» ⟨[.ref z], []⟩) (fun fin s' => ∃ v, fin = .done (.ret v) ∧ Q v s') E s := by
  show wpAny _ _ (field (.ref z) 2 >>= _) _ _ _
  refine wpAny_bind (wpAny_field hz rfl (x := .bool false) rfl ?_)
  show wpAny _ _ (field (.ref z) 3 >>= _) _ _ _
  refine wpAny_bind (wpAny_field hz rfl (x := .ref TI) rfl ?_)
  refine wpAny_bind (wpAny_seqItems hTI rfl ?_)
  show wpAny _ _ (Builtin.SmallTypes.ownedTupleIsFree (.ref z) >>= _) _ _ _
  refine wpAny_bind (zipA_free hz hT fun h₁ hz₁ hs₁ => ?_)
  simp only [Bool.false_eq_true, if_false]
  refine wpAny_bind ?_
  rw [← Array.forIn_toList]
  simp only [List.forIn_cons, List.forIn_nil]
  refine wpAny_bind (wpAny_bind (wpAny_holding ?_))
  show wpAny _ _ (Builtin.SmallTypes.nextOf (.ref i1) >>= _) _ _ _
  refine wpAny_bind (nextOf_tuple_item (h1.extBut hs₁.extBut D.i1z) (hl1.extBut hs₁.extBut D.l1z) hx fun h₂ h1₂ hs₂ => wpAny_pure ?_)
  refine wpAny_pure ?_
  refine wpAny_bind (wpAny_bind (wpAny_holding ?_))
  show wpAny _ _ (Builtin.SmallTypes.nextOf (.ref i2) >>= _) _ _ _
  refine wpAny_bind (nextOf_tuple_item ((h2.extBut hs₁.extBut D.i2z).extBut hs₂.extBut D.i12.symm)
    ((hl2.extBut hs₁.extBut D.l2z).extBut hs₂.extBut D.l2i1) hy fun h₄ h2₄ hs₄ => wpAny_pure ?_)
  refine wpAny_pure (wpAny_pure ?_)
  show wpAny _ _ (newTuple [x, y] >>= _) _ _ _
  refine wpAny_bind (wpAny_newTuple ?_)
  have hsz : h₄.objs.size = s.heap.objs.size := by rw [hs₄.1, hs₂.1, hs₁.1]
  have hz₄ : IsZf h₄ z TI TO (rawInt T) true := hs₄.extBut _ _ D.i2z.symm (hs₂.extBut _ _ D.i1z.symm hz₁)
  refine wpAny_pure ⟨_, rfl, ?_⟩
  show Q (.ref h₄.objs.size) _
  have q := hQ (h₄.push { cls := .type "tuple", data := .seq #[x, y] }) (Heap.get?_push_of_some _ hz₄) ((h1₂.extBut hs₄.extBut D.i12).at fun o e => Heap.get?_push_of_some _ e) (h2₄.at fun o e => Heap.get?_push_of_some _ e) (by rw [← hsz]; exact Heap.get?_push_size _ rfl) (by rw [Heap.size_push, hsz]) fun c o c1 c3 c4 e =>
    Heap.get?_push_of_some _ (hs₄.extBut _ _ c4 (hs₂.extBut _ _ c3 (hs₁.extBut _ _ c1 e)))
  rw [hsz]
  exact q
theorem zipA_end {z TI TO i1 i2 l1 l2 T : Addr} {f : Bool} {oT : Obj} {k1 : Nat} {xs : Array Value} {Q : Fin → Shared → Prop} (hh : A.handled = none) (D : ZipApart z TI TO i1 i2 l1 l2)
    (hz : IsZf s.heap z TI TO (rawInt T) f) (hT : s.heap.get? T = some oT) (hTI : IsPair s.heap TI (.ref i1) (.ref i2))
    (h1 : s.heap.IsTupleIter i1 l1 k1) (hl1 : s.heap.IsTuple l1 xs) (hx : xs[k1]? = none)
    (hE : ∀ h' e, (∀ c o, c ≠ z → c ≠ i1 → s.heap.get? c = some o → h'.get? c = some o) → (∃ o, h'.get? e = some o ∧ o.cls = .type "StopIteration") → E (.ref e) { s with heap := h' }) :
    wpAny (model prog w) A (Builtin.«zip.__next__» ⟨[.ref z], []⟩) Q E s := by
  show wpAny _ _ (field (.ref z) 2 >>= _) _ _ _
  refine wpAny_bind (wpAny_field hz rfl (x := .bool false) rfl ?_)
  show wpAny _ _ (field (.ref z) 3 >>= _) _ _ _
  refine wpAny_bind (wpAny_field hz rfl (x := .ref TI) rfl ?_)
  refine wpAny_bind (wpAny_seqItems hTI rfl ?_)
  show wpAny _ _ (Builtin.SmallTypes.ownedTupleIsFree (.ref z) >>= _) _ _ _
  refine wpAny_bind (zipA_free hz hT fun h₁ hz₁ hs₁ => ?_)
  simp only [Bool.false_eq_true, if_false]
  refine wpAny_bind ?_
  rw [← Array.forIn_toList]
  simp only [List.forIn_cons, List.forIn_nil]
  refine wpAny_bind (wpAny_bind (wpAny_holding ?_))
  show wpAny _ _ (Builtin.SmallTypes.nextOf (.ref i1) >>= _) _ _ _
  refine wpAny_bind (nextOf_tuple_end hh (h1.extBut hs₁.extBut D.i1z) (hl1.extBut hs₁.extBut D.l1z) hx fun h₂ e hs₂ he => ?_)
  exact hE h₂ e (fun c o c1 c3 x => hs₂ _ _ c3 (hs₁.extBut _ _ c1 x)) he
/-- where the walk of the zip stands: i pairs are out -/
def ZS (S : Addr) (h : Heap) (z TI TO i1 i2 l1 l2 : Addr) (i : Nat) : Prop := IsPair h TI (.ref i1) (.ref i2) ∧ h.IsTupleIter i1 l1 i ∧ h.IsTupleIter i2 l2 i ∧
  ((i = 0 ∧ IsZip h z TI TO .none ∧ ∃ a b, IsPair h TO a b) ∨ ∃ (T : Addr) (f : Bool) (oT : Obj), IsZf h z TI TO (rawInt T) f ∧ h.get? T = some oT ∧ T ≠ z ∧ T ≠ TO ∧ T ≠ i1 ∧ T ≠ i2 ∧ T ≠ S)
theorem zs_item {S z TI TO i1 i2 l1 l2 : Addr} {i : Nat} {xs ys : Array Value} {x y : Value} {Q : Option Value → Shared → Prop} (D : ZipApart z TI TO i1 i2 l1 l2) (st : ZS S s.heap z TI TO i1 i2 l1 l2 i)
    (hS : S < s.heap.objs.size) (hl1 : s.heap.IsTuple l1 xs) (hl2 : s.heap.IsTuple l2 ys) (hx : xs[i]? = some x) (hy : ys[i]? = some y)
    (hQ : ∀ h', ZS S h' z TI TO i1 i2 l1 l2 (i + 1) → IsPair h' s.heap.objs.size x y → h'.objs.size = s.heap.objs.size + 1 →
      (∀ c o, c ≠ z → c ≠ TO → c ≠ i1 → c ≠ i2 → s.heap.get? c = some o → h'.get? c = some o) → Q (some (.ref s.heap.objs.size)) { s with heap := h' }) :
    wpAny (model prog w) A (pyNext (.ref z)) Q E s := by
  obtain ⟨hTI, h1, h2, hz⟩ := st
  have n1 : ∀ {c : Addr} {o : Obj}, s.heap.get? c = some o → s.heap.objs.size ≠ c := fun e => Nat.ne_of_gt (Heap.lt_size e)
  obtain ⟨o1, e1, _⟩ := id h1
  obtain ⟨o2, e2, _⟩ := id h2
  rcases hz with ⟨rfl, hz, a, b, hTO⟩ | ⟨T, f, oT, hz, hT, t1, t2, t3, t4, t5⟩
  · refine pyNext_zipT_item D hz hTI hTO h1 h2 hl1 hl2 hx hy fun h' z' TO' h1' h2' hT hsz hk => ?_
    exact hQ h' ⟨hk _ _ D.TIz D.TITO D.TIi1 D.TIi2 hTI, h1', h2', .inr ⟨_, false, _, z', hT, n1 hz, n1 hTO, n1 e1, n1 e2, Nat.ne_of_gt hS⟩⟩ hT hsz hk
  · have hTt : s.TypeIs (.ref z) "zip" := ⟨_, hz, rfl⟩
    unfold pyNext
    refine wpAny_bind (wpAny_attempt (wpAny_callSpecial?_slot (name := Str.ofString "__next__") hTt F.slot_zip_next
      (wpAny_call_entry F.slot_zip_next hTt F.entry_zip_next
        (zipA_item D hz hT hTI h1 h2 hl1 hl2 hx hy fun h' a1 a3 a4 a5 a6 a7 => wpAny_pure ?_) (F.args_zip_next_1 _))))
    exact hQ h' ⟨a7 _ _ D.TIz D.TIi1 D.TIi2 hTI, a3, a4, .inr ⟨T, true, oT, a1, a7 _ _ t1 t3 t4 hT, t1, t2, t3, t4, t5⟩⟩ a5 a6 fun c o c1 _ c3 c4 e => a7 c o c1 c3 c4 e
theorem zs_end {S z TI TO i1 i2 l1 l2 : Addr} {i : Nat} {xs ys : Array Value} {Q : Option Value → Shared → Prop} (hh : A.handled = none) (D : ZipApart z TI TO i1 i2 l1 l2) (st : ZS S s.heap z TI TO i1 i2 l1 l2 i)
    (hl1 : s.heap.IsTuple l1 xs) (hl2 : s.heap.IsTuple l2 ys) (hx : xs[i]? = none)
    (hQ : ∀ h', (∀ c o, c ≠ z → c ≠ TO → c ≠ i1 → c ≠ i2 → s.heap.get? c = some o → h'.get? c = some o) → Q none { s with heap := h' }) :
    wpAny (model prog w) A (pyNext (.ref z)) Q E s := by
  obtain ⟨hTI, h1, h2, hz⟩ := st
  rcases hz with ⟨rfl, hz, a, b, hTO⟩ | ⟨T, f, oT, hz, hT, t1, t2, t3, t4, t5⟩
  · exact pyNext_zipT_end hh D hz hTI hTO h1 h2 hl1 hl2 (.inl hx) hQ
  · have hTt : s.TypeIs (.ref z) "zip" := ⟨_, hz, rfl⟩
    unfold pyNext
    refine wpAny_bind (wpAny_attempt (wpAny_callSpecial?_slot (name := Str.ofString "__next__") hTt F.slot_zip_next
      (wpAny_call_entry F.slot_zip_next hTt F.entry_zip_next (zipA_end hh D hz hT hTI h1 hl1 hx fun h' e hk he => ?_) (F.args_zip_next_1 _))))
    obtain ⟨o, ho, hc⟩ := he
    refine wpAny_bind (wpAny_isInstance (T := "StopIteration") (b := true) ⟨o, ho, hc⟩ isSubtype_stop ?_)
    exact wpAny_pure (hQ _ fun c o c1 _ c3 _ e => hk c o c1 c3 e)
end
end ZiL


set_option Elab.async false
set_option linter.all false
set_option maxRecDepth 100000
set_option maxHeartbeats 4000000
namespace ZiL
open PySem PySem.Calls PyProof.Rows PySem.Spec RZ
theorem lookup_zip_len : typeLookup (.type "zip") "__len__" = pure none := by rw [typeLookup_type, builtinLookup_eq_fast]; kernel_rfl
theorem lookup_zip_hint : typeLookup (.type "zip") "__length_hint__" = pure none := by rw [typeLookup_type, builtinLookup_eq_fast]; kernel_rfl
end ZiL


set_option Elab.async false
set_option linter.all false
set_option maxRecDepth 100000
set_option maxHeartbeats 4000000
namespace ZiL
open PySem PySem.Calls PyProof.Rows PySem.Spec RZ
/-- pairs made, at rising places behind lo -/
structure PG (xs ys : Array Value) (lo : Addr) (h : Heap) (as : List Addr) : Prop where
  rise : as.Pairwise (· < ·)
  above : ∀ a ∈ as, lo < a
  pairs : ∀ (j : Nat) (a : Addr), as[j]? = some a → ∃ x y, xs[j]? = some x ∧ ys[j]? = some y ∧ IsPair h a x y
theorem PG.there {xs ys : Array Value} {lo : Addr} {h : Heap} {as : List Addr} (g : PG xs ys lo h as) {a : Addr} (ha : a ∈ as) : a < h.objs.size := by
  obtain ⟨j, hj⟩ := List.mem_iff_getElem?.mp ha
  obtain ⟨_, _, _, _, e⟩ := g.pairs j a hj
  exact Heap.lt_size e
theorem ZS.keep {h h' : Heap} {z TI TO i1 i2 l1 l2 : Addr} {i : Nat} {S : Addr} (st : ZS S h z TI TO i1 i2 l1 l2 i) (up : ∀ b o, b ≠ S → h.get? b = some o → h'.get? b = some o) (hS : S ≠ z ∧ S ≠ TI ∧ S ≠ TO ∧ S ≠ i1 ∧ S ≠ i2) : ZS S h' z TI TO i1 i2 l1 l2 i := by
  obtain ⟨hTI, h1, h2, hz⟩ := st
  obtain ⟨s1, s2, s3, s4, s5⟩ := hS
  refine ⟨up _ _ (Ne.symm s2) hTI, h1.at fun o e => up _ o (Ne.symm s4) e, h2.at fun o e => up _ o (Ne.symm s5) e, ?_⟩
  rcases hz with ⟨e, hz, a, b, hTO⟩ | ⟨T, f, oT, hz, hT', t1, t2, t3, t4, t5⟩
  · exact .inl ⟨e, up _ _ (Ne.symm s1) hz, a, b, up _ _ (Ne.symm s3) hTO⟩
  · exact .inr ⟨T, f, oT, up _ _ (Ne.symm s1) hz, up _ _ t5 hT', t1, t2, t3, t4, t5⟩
section
variable {prog : Program} {w : World} {A : Around} {E : Value → Shared → Prop} {s : Shared} {R : Result → Shared → Prop} {xs ys : Array Value}
theorem zip_loop {S z TI TO i1 i2 l1 l2 : Addr} (hh : A.handled = none) (D : ZipApart z TI TO i1 i2 l1 l2) (hS : S ≠ z ∧ S ≠ TI ∧ S ≠ TO ∧ S ≠ i1 ∧ S ≠ i2) (hS1 : l1 ≠ S) (hS2 : l2 ≠ S) {lo0 : Addr} (hlt : z < lo0 ∧ TO < lo0 ∧ i1 < lo0 ∧ i2 < lo0)
    (hn : xs.size ≤ sizeLine) (hxy : xs.size = ys.size) (res : Value) {h₁ : Heap}
    (hR : ∀ h' tk acc c as, (∀ b o, b ≠ S → b ≠ z → b ≠ TO → b ≠ i1 → b ≠ i2 → h₁.get? b = some o → h'.get? b = some o) → h'.get? S = some { cls := .type "list", dict := none, data := .seq acc c, slots := #[] } → as.length = xs.size → PG xs ys S h' as →
      acc.toList = as.map Value.ref → R (.ok (.ret res)) { s with heap := h', toks := tk }) :
    ∀ (k i : Nat) (h : Heap) (tk c : Nat) (acc : Array Value) (as : List Addr), xs.size - i = k → i ≤ xs.size → ZS S h z TI TO i1 i2 l1 l2 i → h.IsTuple l1 xs → h.IsTuple l2 ys → (∀ b o, b ≠ S → b ≠ z → b ≠ TO → b ≠ i1 → b ≠ i2 → h₁.get? b = some o → h.get? b = some o) →
      h.get? S = some { cls := .type "list", dict := none, data := .seq acc c, slots := #[] } → acc.toList = as.map Value.ref → as.length = i → PG xs ys S h as → (∀ a ∈ as, lo0 ≤ a) → lo0 ≤ h.objs.size →
      codeAny (model prog w) A (.builtin "list.extend.loop" ⟨[.ref S, .ref z, res], []⟩) R { s with heap := h, toks := tk } := by
  obtain ⟨s1, s2, s3, s4, s5⟩ := hS
  intro k
  induction k with
  | zero =>
    intro i h tk c acc as hk hi hst hl1 hl2 hkeep hSl hacc hal hG hlo hsz
    have hin : i = xs.size := by omega
    refine codeAny_builtin PySem.F.entry_extend_loop ?_
    rw [Around.under_plainId PySem.F.plain_extend_loop _]
    show wpAny _ A.in1 (pyNext (.ref z) >>= _) _ _ _
    refine wpAny_bind (zs_end (s := { s with heap := h, toks := tk }) (A := A.in1) hh D hst hl1 hl2 (Array.getElem?_eq_none (by omega)) fun h' he => ?_)
    have hge : ∀ a ∈ as, a ≠ z ∧ a ≠ TO ∧ a ≠ i1 ∧ a ≠ i2 := fun a ha => by
      have := hlo a ha
      obtain ⟨q1, q2, q3, q4⟩ := hlt
      exact ⟨fun e => absurd (Nat.lt_of_lt_of_le q1 (e ▸ this)) (Nat.lt_irrefl _), fun e => absurd (Nat.lt_of_lt_of_le q2 (e ▸ this)) (Nat.lt_irrefl _), fun e => absurd (Nat.lt_of_lt_of_le q3 (e ▸ this)) (Nat.lt_irrefl _), fun e => absurd (Nat.lt_of_lt_of_le q4 (e ▸ this)) (Nat.lt_irrefl _)⟩
    refine wpAny_pure (hR h' tk acc c as (fun b o b0 b1 b2 b3 b4 e => he b o b1 b2 b3 b4 (hkeep b o b0 b1 b2 b3 b4 e)) (he S _ s1 s3 s4 s5 hSl) (by omega) ⟨hG.rise, hG.above, fun j a hj => ?_⟩ hacc)
    obtain ⟨x, y, e1, e2, e3⟩ := hG.pairs j a hj
    obtain ⟨q1, q2, q3, q4⟩ := hge a (List.mem_of_getElem? hj)
    exact ⟨x, y, e1, e2, he a _ q1 q2 q3 q4 e3⟩
  | succ k ih =>
    intro i h tk c acc as hk hi hst hl1 hl2 hkeep hSl hacc hal hG hlo hsz0
    have hlt2 : i < xs.size := by omega
    have hx : xs[i]? = some xs[i] := Array.getElem?_eq_getElem hlt2
    have hy : ys[i]? = some (ys[i]'(by omega)) := Array.getElem?_eq_getElem (by omega)
    generalize xs[i] = x at hx
    generalize (ys[i]'(by omega)) = y at hy
    have hsz : acc.size = i := by rw [← Array.length_toList, hacc, List.length_map, hal]
    refine codeAny_builtin PySem.F.entry_extend_loop ?_
    rw [Around.under_plainId PySem.F.plain_extend_loop _]
    show wpAny _ A.in1 (pyNext (.ref z) >>= _) _ _ _
    refine wpAny_bind (zs_item (s := { s with heap := h, toks := tk }) D hst (Heap.lt_size hSl) hl1 hl2 hx hy fun h' hst' ht hz hkp => ?_)
    dsimp only at ht hz hkp ⊢
    have hSl' := hkp S _ s1 s3 s4 s5 hSl
    have up : ∀ b o, b ≠ S → h'.get? b = some o → (h'.update S (Obj.mapSeq (·.push (Value.ref h.objs.size)))).get? b = some o := fun b o hb e => (Heap.get?_update_other _ _ (Ne.symm hb)).trans e
    have hSlt : S < h.objs.size := Heap.lt_size hSl
    show wpAny _ A.in1 (updateSeq S (·.push (Value.ref h.objs.size)) >>= _) _ _ _
    refine wpAny_bind ?_
    have hge : ∀ a, lo0 ≤ a → a ≠ z ∧ a ≠ TO ∧ a ≠ i1 ∧ a ≠ i2 := fun a this => by
      obtain ⟨q1, q2, q3, q4⟩ := hlt
      exact ⟨fun e => absurd (Nat.lt_of_lt_of_le q1 (e ▸ this)) (Nat.lt_irrefl _), fun e => absurd (Nat.lt_of_lt_of_le q2 (e ▸ this)) (Nat.lt_irrefl _), fun e => absurd (Nat.lt_of_lt_of_le q3 (e ▸ this)) (Nat.lt_irrefl _), fun e => absurd (Nat.lt_of_lt_of_le q4 (e ▸ this)) (Nat.lt_irrefl _)⟩
    have tup : ∀ {l : Addr} {vs : Array Value}, l ≠ S → l ≠ z → l ≠ TO → l ≠ i1 → l ≠ i2 → h.IsTuple l vs → (h'.update S (Obj.mapSeq (·.push (Value.ref h.objs.size)))).IsTuple l vs := fun n0 n1 n2 n3 n4 ⟨o, ho, q⟩ => ⟨o, up _ _ n0 (hkp _ _ n1 n2 n3 n4 ho), q⟩
    refine wpAny_updateSeq hSl' rfl (wpAny_pure ⟨plainId_quiet PySem.F.plain_extend_loop _, ih (i + 1) _ tk _ (acc.push (Value.ref h.objs.size)) (as ++ [h.objs.size]) (by omega) hlt2 (hst'.keep up ⟨s1, s2, s3, s4, s5⟩) (tup hS1 D.l1z D.l1TO D.l1i1 D.l1i2 hl1) (tup hS2 D.l2z D.l2TO D.l2i1 D.l2i2 hl2)
      (fun b o b0 b1 b2 b3 b4 e => up b o b0 (hkp b o b1 b2 b3 b4 (hkeep b o b0 b1 b2 b3 b4 e))) (Heap.get?_update_self _ hSl' rfl) (by rw [Array.toList_push, hacc, List.map_append]; rfl) (by rw [List.length_append, hal]; rfl) ⟨?_, ?_, ?_⟩ (fun a ha => ?_) ?_⟩) (by rw [hsz]; omega) (by show (acc.push (Value.ref h.objs.size)).size ≤ sizeLine + 1; rw [Array.size_push]; omega)
    · refine List.pairwise_append.mpr ⟨hG.rise, List.pairwise_singleton _ _, fun a ha b hb => ?_⟩
      rw [List.mem_singleton.mp hb]
      exact hG.there ha
    · intro a ha
      rcases List.mem_append.mp ha with ha | ha
      · exact hG.above a ha
      · rw [List.mem_singleton.mp ha]; exact hSlt
    · intro j b hj
      rcases Nat.lt_trichotomy j as.length with h1 | h1 | h1
      · rw [List.getElem?_append_left h1] at hj
        obtain ⟨x', y', e1, e2, e3⟩ := hG.pairs j b hj
        have hb := hG.above b (List.mem_of_getElem? hj)
        obtain ⟨q1, q2, q3, q4⟩ := hge b (hlo b (List.mem_of_getElem? hj))
        exact ⟨x', y', e1, e2, up b _ (Nat.ne_of_gt hb) (hkp b _ q1 q2 q3 q4 e3)⟩
      · subst h1
        have hb : h.objs.size = b := by simpa using hj
        subst hb
        exact ⟨x, y, by rw [hal]; exact hx, by rw [hal]; exact hy, up _ _ (Nat.ne_of_gt hSlt) ht⟩
      · have hnone : (as ++ [h.objs.size])[j]? = none := List.getElem?_eq_none (by rw [List.length_append, List.length_singleton]; omega)
        rw [hnone] at hj; cases hj
    · rcases List.mem_append.mp ha with ha | ha
      · exact hlo a ha
      · rw [List.mem_singleton.mp ha]; exact hsz0
    · have e : (h'.update S (Obj.mapSeq (·.push (Value.ref h.objs.size)))).get? h.objs.size = _ := up _ _ (Nat.ne_of_gt hSlt) ht
      exact Nat.le_trans hsz0 (Nat.le_of_lt (Heap.lt_size e))

theorem zip_hint {z : Addr} {Q : Bool → Shared → Prop} (hT : s.TypeIs (.ref z) "zip") (h : Q true s) : wpAny (model prog w) A (Builtin.List.listLengthHint (.ref z)) Q E s := by
  unfold Builtin.List.listLengthHint
  refine wpAny_bind (wpAny_specialOf hT lookup_zip_len ?_)
  dsimp only
  refine wpAny_ite_split (fun hab => absurd hab (by decide)) (fun _ => ?_)
  refine wpAny_ite_split (fun hab => absurd hab (by decide)) (fun _ => ?_)
  refine wpAny_bind (wpAny_specialOf hT lookup_zip_hint ?_)
  exact wpAny_pure h
theorem zip_extend {S z TI TO i1 i2 l1 l2 : Addr} (hh : A.handled = none) (D : ZipApart z TI TO i1 i2 l1 l2) (hS : S ≠ z ∧ S ≠ TI ∧ S ≠ TO ∧ S ≠ i1 ∧ S ≠ i2) (hS1 : l1 ≠ S) (hS2 : l2 ≠ S)
    (hlt : z < s.heap.objs.size ∧ TO < s.heap.objs.size ∧ i1 < s.heap.objs.size ∧ i2 < s.heap.objs.size) (st : ZS S s.heap z TI TO i1 i2 l1 l2 0) (hz : IsZip s.heap z TI TO .none) (hl1 : s.heap.IsTuple l1 xs) (hl2 : s.heap.IsTuple l2 ys)
    (hn : xs.size ≤ sizeLine) (hxy : xs.size = ys.size) (res : Value) (c₀ : Nat) (hSl : s.heap.get? S = some { cls := .type "list", data := .seq #[] c₀ })
    (hR : ∀ h' tk acc c as, (∀ b o, b ≠ S → b ≠ z → b ≠ TO → b ≠ i1 → b ≠ i2 → s.heap.get? b = some o → h'.get? b = some o) → h'.get? S = some { cls := .type "list", dict := none, data := .seq acc c, slots := #[] } → as.length = xs.size → PG xs ys S h' as →
      acc.toList = as.map Value.ref → R (.ok (.ret res)) { s with heap := h', toks := tk }) :
    wpAny (model prog w) A.in1 (Builtin.List.listExtendWith (.ref S) (.ref z) res)
      (fun fin s' => match fin with | .done f => R (.ok f) s' | .again c' => c'.quiet = true ∧ codeAny (model prog w) A c' R s') (fun e s' => R (.error e) s') s := by
  have key : ∀ (h : Heap) (c₁ tk : Nat), (∀ b o, b ≠ S → s.heap.get? b = some o → h.get? b = some o) → s.heap.objs.size ≤ h.objs.size →
      h.get? S = some { cls := .type "list", data := .seq #[] c₁ } → codeAny (model prog w) A (.builtin "list.extend.loop" ⟨[.ref S, .ref z, res], []⟩) R { s with heap := h, toks := tk } := by
    intro h c₁ tk hk hsz hS₁
    refine zip_loop (s := s) (h₁ := s.heap) (lo0 := s.heap.objs.size) hh D hS hS1 hS2 hlt hn hxy res (fun h' tk' acc c as hk' hS' hl hG hacc => hR h' tk' acc c as hk' hS' hl hG hacc)
      xs.size 0 h tk c₁ #[] [] (Nat.sub_zero _) (Nat.zero_le _) (st.keep hk hS) ?_ ?_ (fun b o hb _ _ _ _ e => hk b o hb e) hS₁ rfl rfl
      ⟨List.Pairwise.nil, (fun _ ha => nomatch ha), (fun j a hj => by simp at hj)⟩ (fun a ha => nomatch ha) hsz
    · obtain ⟨o, ho, q⟩ := hl1
      exact ⟨o, hk _ _ hS1 ho, q⟩
    · obtain ⟨o, ho, q⟩ := hl2
      exact ⟨o, hk _ _ hS2 ho, q⟩
  unfold Builtin.List.listExtendWith
  have hT : s.TypeIs (.ref z) "zip" := ⟨_, hz, rfl⟩
  refine wpAny_bind (wpAny_typeOf (T := "zip") hT ?_)
  have h1 : Builtin.List.listSameRef (.ref S) (.ref z) = false := by simp [Builtin.List.listSameRef, hS.1]
  have h2 : (Value.type "zip" == Value.type "list") = false := by decide
  have h3 : (Value.type "zip" == Value.type "tuple") = false := by decide
  simp only [h1, h2, h3, Bool.or_false, Bool.false_eq_true, if_false]
  refine wpAny_bind (wpAny_pyIter_zip hz ?_)
  refine wpAny_bind (wpAny_holding (zip_hint hT ?_))
  refine wpAny_ite_split (fun _ => ?_) (fun _ => wpAny_pure ⟨plainId_quiet PySem.F.plain_extend_loop _, key _ c₀ _ (fun b o _ e => e) (Nat.le_refl _) hSl⟩)
  refine wpAny_bind (wpAny_rule ?_)
  refine wpAny_bind ?_
  show wpAny _ _ (updateSeq S (·.push .none) >>= fun _ => updateSeq S (·.pop)) _ _ _
  refine wpAny_bind (wpAny_updateSeq hSl rfl ?_)
  have hS₂ := Heap.get?_update_self (Obj.mapSeq (·.push Value.none)) hSl rfl
  refine wpAny_updateSeq (hz := by seq_fits) hS₂ rfl ?_
  have hS₃ := Heap.get?_update_self (Obj.mapSeq (·.pop)) hS₂ rfl
  refine wpAny_pure ⟨plainId_quiet PySem.F.plain_extend_loop _, key _ _ _ (fun b o hb e => ?_) ?_ hS₃⟩
  · exact (Heap.get?_update_other _ _ (Ne.symm hb)).trans ((Heap.get?_update_other _ _ (Ne.symm hb)).trans e)
  · exact Nat.le_of_eq (by rw [(Heap.SameBut.update _ _ _).1, (Heap.SameBut.update _ _ _).1])
/-- list(zip(t, u)) : the list's making -/
theorem call_list_zip {Q : Value → Shared → Prop} (hh : A.handled = none) {z TI TO i1 i2 l1 l2 : Addr} (D : ZipApart z TI TO i1 i2 l1 l2) (hz : IsZip s.heap z TI TO .none) (hTI : IsPair s.heap TI (.ref i1) (.ref i2)) (hTO : ∃ a b, IsPair s.heap TO a b)
    (h1 : s.heap.IsTupleIter i1 l1 0) (h2 : s.heap.IsTupleIter i2 l2 0) (hl1 : s.heap.IsTuple l1 xs) (hl2 : s.heap.IsTuple l2 ys) (hn : xs.size ≤ sizeLine) (hxy : xs.size = ys.size)
    (hQ : ∀ h' tk acc c as, (∀ b o, b ≠ z → b ≠ TO → b ≠ i1 → b ≠ i2 → s.heap.get? b = some o → h'.get? b = some o) → h'.get? s.heap.objs.size = some { cls := .type "list", dict := none, data := .seq acc c, slots := #[] } → as.length = xs.size → PG xs ys s.heap.objs.size h' as →
      acc.toList = as.map Value.ref → Q (.ref s.heap.objs.size) { s with heap := h', toks := tk }) :
    wpAny (model prog w) A (call (.type "list") [.ref z]) Q E s := by
  refine callType_codes (Q₁ := fun obj s₁ => obj = .ref s.heap.objs.size ∧ s₁ = { s with heap := s.heap.push { cls := .type "list", data := .seq #[] } }) PySem.F.called_list (PySem.F.typeCall_list_1 _) PySem.F.entry_list_init
    (code_list_new _ ⟨rfl, rfl⟩) fun obj s₁ h₁ => ?_
  obtain ⟨rfl, rfl⟩ := h₁
  have hS : (s.heap.push { cls := .type "list", data := .seq #[] }).get? s.heap.objs.size = some { cls := .type "list", data := .seq #[] } := Heap.get?_push_size _ rfl
  have lt : ∀ {b : Addr} {o : Obj}, s.heap.get? b = some o → b < s.heap.objs.size := fun e => Heap.lt_size e
  obtain ⟨a0, b0, hTO⟩ := hTO
  obtain ⟨o1, e1, q1⟩ := id h1
  obtain ⟨o2, e2, q2⟩ := id h2
  obtain ⟨ol1, el1, ql1⟩ := id hl1
  obtain ⟨ol2, el2, ql2⟩ := id hl2
  refine ⟨⟨_, hS, rfl⟩, PySem.F.args_list_init_2 _ _, ?_⟩
  show wpAny _ _ (do let old ← Builtin.List.listItems (.ref s.heap.objs.size); Builtin.List.listUpdate (.ref s.heap.objs.size) (fun _ => #[]); letGo old.toList.reverse; Builtin.List.listExtendWith (.ref s.heap.objs.size) (.ref z) .none) _ _ _
  refine wpAny_bind ?_
  unfold Builtin.List.listItems
  refine wpAny_bind (wpAny_seqItems hS rfl (wpAny_pure ?_))
  show wpAny _ _ (updateSeq s.heap.objs.size (fun _ => #[]) >>= fun _ => letGo (#[] : Array Value).toList.reverse >>= fun _ => Builtin.List.listExtendWith (.ref s.heap.objs.size) (.ref z) .none) _ _ _
  refine wpAny_bind (wpAny_updateSeq hS rfl ?_)
  have hS₂ := Heap.get?_update_self (Obj.mapSeq (fun _ => (#[] : Array Value))) hS rfl
  have oth : ∀ b o, s.heap.get? b = some o → ((s.heap.push { cls := .type "list", data := .seq #[] }).update s.heap.objs.size (Obj.mapSeq (fun _ => (#[] : Array Value)))).get? b = some o :=
    fun b o e => (Heap.get?_update_other _ _ (Nat.ne_of_gt (lt e))).trans (Heap.get?_push_of_some _ e)
  have hsz : s.heap.objs.size < ((s.heap.push { cls := .type "list", data := .seq #[] }).update s.heap.objs.size (Obj.mapSeq (fun _ => (#[] : Array Value)))).objs.size := Heap.lt_size hS₂
  refine wpAny_bind (wpAny_letGo ?_)
  refine zip_extend (A := A.in1) (R := wants (fun r s₂ => r = Value.none ∧ Q (Value.ref s.heap.objs.size) s₂) E) (s := { s with heap := (s.heap.push { cls := .type "list", data := .seq #[] }).update s.heap.objs.size (Obj.mapSeq (fun _ => (#[] : Array Value))) }) (TI := TI) (TO := TO) (i1 := i1) (i2 := i2) (l1 := l1) (l2 := l2) (xs := xs) (ys := ys) hh D ⟨Nat.ne_of_gt (lt hz), Nat.ne_of_gt (lt hTI), Nat.ne_of_gt (lt hTO), Nat.ne_of_gt (lt e1), Nat.ne_of_gt (lt e2)⟩ (Nat.ne_of_lt (lt el1)) (Nat.ne_of_lt (lt el2))
    ⟨Nat.lt_trans (lt hz) hsz, Nat.lt_trans (lt hTO) hsz, Nat.lt_trans (lt e1) hsz, Nat.lt_trans (lt e2) hsz⟩ ⟨oth _ _ hTI, ⟨o1, oth _ _ e1, q1⟩, ⟨o2, oth _ _ e2, q2⟩, .inl ⟨rfl, oth _ _ hz, a0, b0, oth _ _ hTO⟩⟩ (oth _ _ hz) ⟨ol1, oth _ _ el1, ql1⟩ ⟨ol2, oth _ _ el2, ql2⟩ hn hxy .none _ hS₂ (fun h' tk acc c as hk hS' hl hG hacc => ?_)
  exact ⟨rfl, hQ h' tk acc c as (fun b o b1 b2 b3 b4 e => hk b o (Nat.ne_of_lt (lt e)) b1 b2 b3 b4 (oth b o e)) hS' hl hG hacc⟩
end
end ZiL


set_option Elab.async false
set_option linter.all false
set_option maxRecDepth 100000
set_option maxHeartbeats 4000000
/-! list(zip(t, u)) over the layer. -/
namespace L2
open PySem PySem.Spec PyProof.Rows
/-- tuples at as, tracked -/
def putP : Hp → List Addr → List (V × V) → Hp
  | H, a :: as, p :: ps => putP (upd H a (.tup [p.1, p.2])) as ps
  | H, _, _ => H
theorem putP_off {b : Addr} : ∀ (as : List Addr) (ps : List (V × V)) (H : Hp), b ∉ as → putP H as ps b = H b
  | [], _, _, _ => rfl
  | _ :: _, [], _, _ => rfl
  | a :: as, p :: ps, H, h => by
    show putP (upd H a (.tup [p.1, p.2])) as ps b = H b
    rw [putP_off as ps _ (fun z => h (List.mem_cons_of_mem _ z)), upd_ne (fun z => h (by rw [z]; exact List.mem_cons_self))]
theorem putP_at : ∀ (as : List Addr) (ps : List (V × V)) (H : Hp), as.length = ps.length → as.Nodup → ∀ (i : Nat) (a : Addr) (p : V × V), as[i]? = some a → ps[i]? = some p → putP H as ps a = some (.tup [p.1, p.2])
  | [], _, _, _, _, i, a, p, h, _ => by simp at h
  | _ :: _, [], _, h, _, _, _, _, _, _ => by simp at h
  | a :: as, p :: ps, H, hl, hn, 0, b, q, h1, h2 => by
    cases h1
    cases h2
    have hn' := List.nodup_cons.mp hn
    show putP (upd H a (.tup [p.1, p.2])) as ps a = some (.tup [p.1, p.2])
    rw [putP_off as ps _ hn'.1, upd_same]
  | a :: as, p :: ps, H, hl, hn, i + 1, b, q, h1, h2 => putP_at as ps _ (Nat.succ.inj hl) (List.nodup_cons.mp hn).2 i b q h1 h2
theorem vals_refs2 : ∀ as : List Addr, Vals (as.map V.ref) (as.map Value.ref)
  | [] => .nil
  | _ :: as => .cons rfl (vals_refs2 as)
/-- list(zip(e, e2)), both tuples of one length -/
def tLstZip (K : PySem.W.Frag) (ta : TA) : TE := fun σ H Q => ta σ H fun vs H1 => ∃ (a b : Addr) (xs ys : List V), vs = [.ref a, .ref b] ∧ SqT K H1 a xs ∧ SqT K H1 b ys ∧ xs.length = ys.length ∧
  ∀ (H' : Hp) (p : Addr) (ts : List Addr), (∀ b o, H1 b = some o → H' b = some o) → H1 p = none → ts.length = xs.length → H' p = some (.lst (ts.map V.ref)) →
    (∀ (i : Nat) (t : Addr) (x y : V), ts[i]? = some t → xs[i]? = some x → ys[i]? = some y → H' t = some (.tup [x, y])) → Q (.ref p) H'
section
variable {X : Cx} {e e2 : Expr} {ta : TA} {p p2 pos pos2 : Pos}
theorem zip_laid {pins : List (Addr × Obj)} {σ : L2.St} {H : Hp} {s : Shared} {h' : Heap} {tk S : Nat} {xs ys : List V} {us us2 : List Value} {acc : Array Value} {c : Nat} {as : List Addr} (I : Inv X pins σ H s) (hz : xs.length ≤ sizeLine) (hxy : xs.length = ys.length) (rx : Vals xs us) (ry : Vals ys us2)
    (hk : ∀ b o, s.heap.get? b = some o → h'.get? b = some o) (hSs : s.heap.objs.size ≤ S) (hS : h'.get? S = some { cls := .type "list", dict := none, data := .seq acc c, slots := #[] }) (hl : as.length = xs.length) (hG : ZiL.PG us.toArray us2.toArray S h' as) (hacc : acc.toList = as.map Value.ref) :
    ∃ H' : Hp, (∀ b o, H b = some o → H' b = some o) ∧ H S = none ∧ H' S = some (.lst (as.map V.ref)) ∧ (∀ (i : Nat) (t : Addr) (x y : V), as[i]? = some t → xs[i]? = some x → ys[i]? = some y → H' t = some (.tup [x, y])) ∧ Inv X pins σ H' { s with heap := h', toks := tk } := by
  have hSn : S ∉ as := fun z => Nat.lt_irrefl _ (hG.above _ z)
  have nd : as.Nodup := List.Pairwise.imp (fun {a b} (h : a < b) => Nat.ne_of_lt h) hG.rise
  have new : ∀ t ∈ as, H t = none := fun t ht => I.hok.fresh (Nat.le_of_lt (Nat.lt_of_le_of_lt hSs (hG.above t ht)))
  have newS : H S = none := I.hok.fresh hSs
  have lz : as.length = (xs.zip ys).length := by rw [List.length_zip]; omega
  have atP := putP_at as (xs.zip ys) (upd H S (.lst (as.map V.ref))) lz nd
  have off : ∀ b, b ∉ as → b ≠ S → putP (upd H S (.lst (as.map V.ref))) as (xs.zip ys) b = H b := fun b h1 h2 => by rw [putP_off as _ _ h1, upd_ne h2]
  have low : ∀ b o, s.heap.get? b = some o → b ∉ as ∧ b ≠ S := fun b o e => ⟨fun z => absurd (Heap.lt_size e) (Nat.not_lt.mpr (Nat.le_of_lt (Nat.lt_of_le_of_lt hSs (hG.above b z)))), Nat.ne_of_lt (Nat.lt_of_lt_of_le (Heap.lt_size e) hSs)⟩
  have kp : ∀ b u, H b = some u → (putP (upd H S (.lst (as.map V.ref))) as (xs.zip ys)) b = some u := fun b u e => by
    rw [off b (fun z => by rw [new b z] at e; cases e) (fun z => by rw [z, newS] at e; cases e)]
    exact e
  have eS : putP (upd H S (.lst (as.map V.ref))) as (xs.zip ys) S = some (.lst (as.map V.ref)) := by rw [putP_off as _ _ hSn, upd_same]
  have pz : ∀ (i : Nat) (x y : V), xs[i]? = some x → ys[i]? = some y → (xs.zip ys)[i]? = some (x, y) := fun i x y h1 h2 => by rw [List.getElem?_zip_eq_some]; exact ⟨h1, h2⟩
  refine ⟨putP (upd H S (.lst (as.map V.ref))) as (xs.zip ys), kp, newS, eS, fun i t x y h1 h2 h3 => atP i t (x, y) h1 (pz i x y h2 h3), ?_⟩
  refine I.call' (ch := []) rfl ⟨fun b o q _ _ _ => hk b o q, fun b o q _ _ _ => ⟨o.slots, hk b o q⟩, fun b o q n _ => ?_, fun b o q _ => ⟨o, hk b o q⟩, fun b xs q => kp b _ q, fun b o u q => kp b _ q, fun b ps q => ⟨#[], by rw [kp b _ q]; simp⟩⟩ (fun b u q => ?_) I.bare fun b z => by simp at z
  · obtain ⟨z1, z2⟩ := low b o q
    rw [off b z1 z2]
    exact n
  · by_cases hb : b ∈ as
    · obtain ⟨j, e1⟩ := List.mem_iff_getElem?.mp hb
      obtain ⟨x', y', f1, f2, f3⟩ := hG.pairs j b e1
      have hj : j < xs.length := by rw [← hl]; exact (List.getElem?_eq_some_iff.mp e1).1
      have hx : xs[j]? = some xs[j] := List.getElem?_eq_getElem hj
      have hy : ys[j]? = some (ys[j]'(by omega)) := List.getElem?_eq_getElem (by omega)
      have e3 := atP j b _ e1 (pz j _ _ hx hy)
      rw [e3] at q
      cases q
      obtain ⟨u1, g1, r1⟩ := rx.get hx
      obtain ⟨u2, g2, r2⟩ := ry.get hy
      have ex : u1 = x' := by
        have : us.toArray[j]? = some u1 := by simpa using g1
        rw [f1] at this
        exact (Option.some.inj this).symm
      have ey : u2 = y' := by
        have : us2.toArray[j]? = some u2 := by simpa using g2
        rw [f2] at this
        exact (Option.some.inj this).symm
      subst ex ey
      exact ⟨by show 2 ≤ sizeLine; decide, [u1, u2], .cons r1 (.cons r2 .nil), ⟨_, f3, rfl, _, rfl⟩⟩
    · by_cases hb2 : b = S
      · rw [hb2] at q ⊢
        rw [eS] at q
        cases q
        refine ⟨by rw [List.length_map]; omega, acc.toList, c, by rw [hacc]; exact vals_refs2 as, ?_⟩
        rw [Array.toArray_toList]
        exact hS
      · rw [off b hb hb2] at q
        exact (I.hok b u q).stay (fun d v _ y => hk d v y) (fun d y => kp d _ y) fun d xs y => kp d _ y
theorem pe_lstZip (hc : X.calm = true) (hgl : Gl X "list") (hml : X.mg "list" = none) (hvl : bootBuiltins "list" = some (.type "list")) (hg : Gl X "zip") (hm : X.mg "zip" = none) (ha : PA X [e, e2] ta)
    (hs : starEach [e, e2] X.env = (false, eval e X.env) :: starEach [e2] X.env := by rfl) (hpl : (backTo pos (starEach [e2] X.env)).any (·.1) = false := by rfl)
    (hs2 : starEach [.Call (.Name "zip" p) [e, e2] [] pos] X.env = (false, eval (.Call (.Name "zip" p) [e, e2] [] pos) X.env) :: starEach [] X.env := by rfl) :
    PE X (.Call (.Name "list" p2) [.Call (.Name "zip" p) [e, e2] [] pos] [] pos2) (tLstZip X.K ta) := by
  refine ⟨fun pins s σ H Q I h => ?_⟩
  refine wpAny_Call_Name_kw (ld_blt I hgl hml hvl ?_)
  refine PyProof.Rows.callWith_type1 ?_ hs2 rfl
  rw [hs2]
  show wpAny _ _ (spliced ((false, eval (.Call (.Name "zip" p) [e, e2] [] pos) X.env) :: backTo pos2 (starEach [] X.env))) _ _ s
  refine PySem.Calls.spliced_cons ?_
  refine wpAny_Call_Name_kw (ld_blt I hg hm PyProof.Rows.boot_zip (PyProof.Rows.callWith_type1 (thn (ha.run pos pins s σ H _ I h) fun us s1 ⟨vs, H1, I1, r1, q1⟩ => ?_) hs hpl))
  obtain ⟨a, b, xs, ys, ex, hqx, hqy, hxy, q⟩ := q1
  subst ex
  cases r1 with
  | cons r rr =>
    cases rr with
    | cons r' rr =>
      cases rr
      cases r
      cases r'
      obtain ⟨its, rv, p1, hz1⟩ := I1.tuple hqx
      obtain ⟨its2, rv2, p2, hz2⟩ := I1.tuple hqy
      obtain ⟨o1, ho1, _⟩ := id p1
      obtain ⟨o2, ho2, _⟩ := id p2
      have l1 := rv.length
      have l2 := rv2.length
      refine RZ.call_zipT (show s1.heap.IsTuple a its.toArray from p1) (show s1.heap.IsTuple b its2.toArray from p2) fun h' hz hTI hTO h1 h2 hsz hk => ?_
      refine PySem.Calls.spliced_nil ?_
      have I2 : Inv X pins σ H1 { s1 with heap := h' } := I1.kept (t' := s1.toks) hk
      have D := PySem.W.ktu_apart s1.heap.objs.size a b (Heap.lt_size ho1) (Heap.lt_size ho2)
      refine ZiL.call_list_zip (s := { s1 with heap := h' }) (xs := its.toArray) (ys := its2.toArray) (I1.ok.hd hc) D hz hTI ⟨_, _, hTO⟩ h1 h2 ⟨o1, hk _ _ ho1, by assumption⟩ ⟨o2, hk _ _ ho2, by assumption⟩ (by rw [List.size_toArray]; omega) (by rw [List.size_toArray, List.size_toArray]; omega) fun h'' tk acc c as hk2 hS hl hG hacc => ?_
      have hsz2 : h'.objs.size = s1.heap.objs.size + 5 := hsz
      have hkk : ∀ b' o, s1.heap.get? b' = some o → h''.get? b' = some o := fun b' o e => by
        have hb : b' < s1.heap.objs.size := Heap.lt_size e
        exact hk2 b' o (Nat.ne_of_lt (Nat.lt_of_lt_of_le hb (Nat.le_add_right _ _))) (Nat.ne_of_lt (Nat.lt_of_lt_of_le hb (Nat.le_add_right _ _))) (Nat.ne_of_lt hb) (Nat.ne_of_lt (Nat.lt_of_lt_of_le hb (Nat.le_add_right _ _))) (hk b' o e)
      obtain ⟨H', k1, k2, k3, k4, J⟩ := zip_laid (tk := tk) (S := h'.objs.size) I1 (by omega) hxy rv rv2 hkk (by omega) hS (by rw [hl, List.size_toArray]; omega) hG hacc
      exact ⟨.ref _, H', J, rfl, q H' _ as k1 k2 (by rw [hl, List.size_toArray]; omega) k3 k4⟩
end
end L2


set_option Elab.async false
set_option linter.all false
set_option maxRecDepth 100000
set_option maxHeartbeats 4000000
namespace K00
open PySem PySem.Spec PyProof.Rows L2
open Evl (Ex)
/-- one reading or the other -/
def tOr (t u : TS) : TS := fun D σ H => t D σ H ∨ u D σ H
theorem ps_or {X : Cx} {st : Stmt} {t u : TS} (a : PS X st t) (b : PS X st u) : PS X st (tOr t u) := ⟨fun pins s σ H D I h => h.elim (a.run pins s σ H D I) (b.run pins s σ H D I)⟩
section
variable {w : World} {K : PySem.W.Frag} {mg : Str → Option Value} {base : Heap}
/-- a whole number, None, a list or a tuple -/
inductive Kd (H : Hp) : V → Prop where
  | int (n : Int) : Kd H (.int n)
  | non : Kd H .non
  | bl (b : Bool) : Kd H (.bl b)
  | str (z : Str) : Kd H (.str z)
  | lst {a : Addr} {xs : List V} (h : H a = some (.lst xs)) : Kd H (.ref a)
  | tup {a : Addr} {xs : List V} (h : H a = some (.tup xs)) : Kd H (.ref a)
def isI : V → Bool
  | .int _ => true
  | _ => false
def isR : V → Bool
  | .ref _ => true
  | _ => false
theorem Kd.ty {K : PySem.W.Frag} {H : Hp} {v : V} (k : Kd H v) : ∃ (t : String) (b : Bool), TyX K H v (.type t) ∧ kitB t "int" = some b ∧ (b = true → kitB t "bool" = some (!isI v)) ∧ (b = false → isI v = false) ∧ ∃ r : Bool × Bool, kitB t "tuple" = some r.1 ∧ kitB t "list" = some r.2 ∧ (r.1 || r.2) = isR v := by
  cases k with
  | int n => exact ⟨"int", true, .base (.int n), by decide +kernel, (fun _ => by show _ = some false; decide +kernel), (fun z => nomatch z), (false, false), by decide +kernel, by decide +kernel, rfl⟩
  | non => exact ⟨"NoneType", false, .base .non, by decide +kernel, (fun z => nomatch z), (fun _ => rfl), (false, false), by decide +kernel, by decide +kernel, rfl⟩
  | bl b => exact ⟨"bool", true, .base (.bl b), by decide +kernel, (fun _ => by show _ = some true; decide +kernel), (fun z => nomatch z), (false, false), by decide +kernel, by decide +kernel, rfl⟩
  | str z => exact ⟨"str", false, .base (.str z), by decide +kernel, (fun z => nomatch z), (fun _ => rfl), (false, false), by decide +kernel, by decide +kernel, rfl⟩
  | lst h => exact ⟨"list", false, .base (.lst h), by decide +kernel, (fun z => nomatch z), (fun _ => rfl), (false, true), by decide +kernel, by decide +kernel, rfl⟩
  | tup h => exact ⟨"tuple", false, .base (.tup h), by decide +kernel, (fun z => nomatch z), (fun _ => rfl), (true, false), by decide +kernel, by decide +kernel, rfl⟩
theorem Kd.ex {H H' : Hp} {v : V} (k : Kd H v) (e : Ex H H') : Kd H' v := by
  cases k with
  | int n => exact .int n
  | non => exact .non
  | bl b => exact .bl b
  | str z => exact .str z
  | lst h => exact .lst (e _ _ h)
  | tup h => exact .tup (e _ _ h)
def spWholeG : Sp := fun vs H Q _ => ∃ v : V, vs = [v] ∧ Kd H v ∧ Q (.bl (isI v)) H
theorem has_is_wholeG (T : Ctx K mg) : Has w K mg base CX0 "is_whole" 1 ["value"] spWholeG := by
  refine has_of (st := s_is_whole) (f := He.ga K "is_whole") T.d_is_whole T.g_is_whole (fun _ _ _ _ _ _ us hl => match us, hl with | [_], _ => rfl) fun fd F => ?_
  refine ok0 F sc_is_whole (fun vs H Q E h => ?_) (fun cdv A outer s H vs Q E hr h => ?_)
  · obtain ⟨v, rfl, _⟩ := h
    rfl
  · obtain ⟨v, rfl, hk, k⟩ := h
    obtain ⟨t, b, ht, h1, h2, h3, _⟩ := hk.ty (K := K)
    refine ⟨_, pss_one (ps_ret (pe_and (pe_callB call_isi (by rfl) T.b_isinstance (by decide +kernel) (pa_cons (pv 0) (pa_cons (pe_bltn (by rfl) T.b_int (by decide +kernel) (v := .ty "int") rfl) pa_nil)))
      (pe_one (pe_not (pe_callB call_isi (by rfl) T.b_isinstance (by decide +kernel) (pa_cons (pv 0) (pa_cons (pe_bltn (by rfl) T.b_bool (by decide +kernel) (v := .ty "bool") rfl) pa_nil))))))), ?_⟩
    refine ⟨_, rfl, _, _, _, _, b, rfl, .ty "int", ht, kit_ty h1, b, rfl, ?_⟩
    cases b with
    | true =>
      refine iteT ⟨_, rfl, _, _, _, _, !isI v, rfl, .ty "bool", ht, kit_ty (h2 rfl), !isI v, rfl, ?_⟩
      rw [Bool.not_not]
      exact k
    | false =>
      rw [h3 rfl] at k
      exact iteF k
def inB (v : V) (lo hi : Int) : Bool := match v with
  | .int n => decide (lo ≤ n ∧ n ≤ hi)
  | _ => false
def spWithinG : Sp := fun vs H Q _ => ∃ (v : V) (lo hi : Int), vs = [v, .int lo, .int hi] ∧ Kd H v ∧ Q (.bl (inB v lo hi)) H
theorem has_is_withinG (T : Ctx K mg) : Has w K mg base CX0 "is_within" 2 ["value", "low", "high"] spWithinG := by
  obtain ⟨f1, fd1, m1, kp1, F1, b1⟩ := has_is_wholeG (w := w) (base := base) T
  refine has_of (st := s_is_within) (f := He.ga K "is_within") T.d_is_within T.g_is_within (fun _ _ _ _ _ _ us hl => match us, hl with | [_, _, _], _ => rfl) fun fd F => ?_
  refine ok0 F sc_is_within (fun vs H Q E h => ?_) (fun cdv A outer s H vs Q E hr h => ?_)
  · obtain ⟨n, lo, hi, rfl, _⟩ := h
    rfl
  · obtain ⟨v, lo, hi, rfl, hk, k⟩ := h
    refine ⟨_, pss_one (ps_ret (pe_and (pe_call F1 hr (by rfl) m1 kp1 b1 .nil pass0 (pa_cons (pv 0) pa_nil)) (pe_one (pe_chain op_le op_le (pv 1) (pv 0) (pv 2))))), ?_⟩
    refine ⟨_, rfl, v, rfl, hk, isI v, rfl, ?_⟩
    cases v with
    | int n =>
      refine iteT ?_
      have k' : Q (.bl (decide (lo ≤ n ∧ n ≤ hi))) H := k
      refine ⟨_, rfl, _, rfl, _, _, rfl, rfl, _, rfl, ?_⟩
      by_cases c : lo ≤ n
      · rw [decide_eq_true c]
        refine iteT ⟨_, rfl, _, _, rfl, rfl, ?_⟩
        have e : decide (lo ≤ n ∧ n ≤ hi) = decide (n ≤ hi) := by simp [c]
        rw [e] at k'
        exact k'
      · rw [decide_eq_false c]
        refine iteF ?_
        have e : decide (lo ≤ n ∧ n ≤ hi) = false := by simp [c]
        rw [e] at k'
        exact k'
    | _ => exact iteF k
def spRowG : Sp := fun vs H Q _ => ∃ v, vs = [v] ∧ Kd H v ∧ ∀ H', Ex H H' → Q (.bl (isR v)) H'
theorem has_is_rowG (T : Ctx K mg) : Has w K mg base CX0 "is_row" 1 ["value"] spRowG := by
  refine has_of (st := s_is_row) (f := He.ga K "is_row") T.d_is_row T.g_is_row (fun _ _ _ _ _ _ us hl => match us, hl with | [_], _ => rfl) fun fd F => ?_
  refine ok0 F sc_is_row (fun vs H Q E h => ?_) (fun cdv A outer s H vs Q E hr h => ?_)
  · obtain ⟨a, rfl, _⟩ := h
    rfl
  · obtain ⟨v, rfl, hk, k⟩ := h
    refine ⟨_, pss_one (ps_ret (pe_callB call_isiT (by rfl) T.b_isinstance (by decide +kernel) (pa_cons (pv 0) (pa_cons (pe_tup (pa_cons (pe_bltn (by rfl) T.b_tuple (by decide +kernel) (v := .ty "tuple") rfl) (pa_cons (pe_bltn (by rfl) T.b_list (by decide +kernel) (v := .ty "list") rfl) pa_nil))) pa_nil)))), ?_⟩
    refine ⟨_, rfl, (by show 2 ≤ sizeLine; decide), fun p hp => ?_⟩
    have e1 := Ex.new (o := .tup [V.ty "tuple", .ty "list"]) hp
    obtain ⟨t, _, ht, _, _, _, r, h1, h2, h3⟩ := (hk.ex e1).ty (K := K)
    refine ⟨_, p, _, _, _, isR v, rfl, upd_same, .cons (.ty "tuple") (.cons (.ty "list") .nil), ht, ?_, k _ e1⟩
    have hv : (r.1 || r.2) = isR v := h3
    rw [← hv]
    refine kitAny_cons (kit_ty h1) (fun z => ?_) (fun z => by rw [z]; rfl)
    refine kitAny_cons (kit_ty h2) (fun z2 => ?_) (fun z2 => by rw [z2]; simp)
    rw [z, z2]
    rfl
end
end K00


set_option Elab.async false
set_option linter.all false
set_option maxRecDepth 100000
set_option maxHeartbeats 4000000
namespace K00
open PySem PySem.Spec PyProof.Rows L2
open Evl (Ex)
section
variable {w : World} {K : PySem.W.Frag} {mg : Str → Option Value} {base : Heap}
theorem Ctx.bs (T : Ctx K mg) : PySem.BadSetX.BadSetTxt K mg (He.ga K "BadSet") (He.ma K (He.ga K "BadSet") "__init__") := by
  obtain ⟨fd, F⟩ := T.d_BadSet___init__
  obtain ⟨oc, od, dV, kV, doc, pm, an, cdv, ct, osl, rfl, lk, hcd, hD, hK⟩ := F.ex
  rcases hD with ⟨_, rfl⟩ | ⟨e, _⟩
  · exact ⟨T.g_BadSet, T.xc_BadSet, T.xsa_BadSet, T.xga_BadSet, T.xgg_BadSet, T.xnn_BadSet, T.xii_BadSet, T.xt_BadSet, T.xk_BadSet, T.xs_BadSet, T.xy_BadSet, T.xd_BadSet, T.te_BadSet, ⟨oc, od, kV, doc, pm, an, cdv, ct, osl, _, _, _, _, _, _, lk, hcd⟩⟩
  · exact absurd rfl e
/-- BadSet with its place leaves the def -/
def Bad (K : PySem.W.Frag) (H : Hp) (E : XK) (n : Int) : Prop := ∀ H' d, Ex H H' → H d = none → H' d = some (.xd [(("place" : Str), .int n)]) → E (.ref (He.ga K "BadSet")) (some d) H'
theorem Bad.go {H H1 : Hp} {E : XK} {n : Int} {d : Addr} (h : Bad K H E n) (e : Ex H H1) (hd : H1 d = none) : E (.ref (He.ga K "BadSet")) (some d) (upd H1 d (.xd [(("place" : Str), .int n)])) := h _ _ (e.trans (Ex.new hd)) (Evl.fresh_back e hd) upd_same
theorem Bad.ex {H H1 : Hp} {E : XK} {n : Int} (h : Bad K H E n) (e : Ex H H1) : Bad K H1 E n := fun H' d e' hd hx => h H' d (e.trans e') (Evl.fresh_back e hd) hx
theorem okX {x : Str} {st : Stmt} {f : Addr} {fd : FuncData} {N ps : List Str} {k : Nat} {sp : Sp} {dvs : List V} {kws : List (Str × V)} {qual : Str} (F : FunD K x qual (defArgs st) (defBody st) (defScope st) dvs kws f fd) (S : FnScope N ps (defScope st)) (len : ∀ vs H Q E, sp vs H Q E → vs.length = ps.length)
    (hbody : ∀ (cdv : Value) (A : Around) (outer : List Env) (s : Shared) (H : Hp) (vs : List V) (Q : VK) (E : XK), Room k (A.deeper (envOfC qual (defScope st) s.heap.objs.size f cdv)) → sp vs H Q E →
      ∃ t, PSs (cxOf (L2.CX PP w) PP w K mg base N qual (defScope st) f cdv A outer s H E) (defBody st) t ∧ t { nx := fun _ H' => Q .non H', rt := Q } (start N vs) H) : FnOk PP w K mg base (L2.CX PP w) (k + 1) f fd ps sp := F.ok S len hbody
theorem pass_none {X : Cx} (hX : X.prog = PP) (hw : X.w = w) : Passes (L2.CX PP w) X E0 := by
  rw [← hX, ← hw]
  exact passes_call (W := fun _ _ _ _ => False) takes0 (fun _ _ _ _ h => h)
/-- a row of whole numbers, list or tuple -/
def RowI (H : Hp) (v : V) (ns : List Int) : Prop := ∃ a, v = .ref a ∧ (H a = some (.lst (ns.map V.int)) ∨ H a = some (.tup (ns.map V.int)))
theorem RowI.ex {H H' : Hp} {v : V} {ns : List Int} (h : RowI H v ns) (e : Ex H H') : RowI H' v ns := by
  obtain ⟨a, rfl, q⟩ := h
  exact ⟨a, rfl, q.imp (e _ _) (e _ _)⟩
/-- parts of m, each once -/
structure Parts (m : Int) (ns : List Int) : Prop where
  nd : ns.Nodup
  inn : ∀ n ∈ ns, 0 ≤ n ∧ n < m
  few : ns.length < 60
/-- ms is ns in order -/
structure Ord (ns ms : List Int) : Prop where
  asc : ms.Pairwise (· < ·)
  mem : ∀ k, k ∈ ms ↔ k ∈ ns
def spSet (K : PySem.W.Frag) : Sp := fun vs H Q E => ∃ (m : Int) (v : V), vs = [.int m, v] ∧ 0 ≤ m ∧
  ((∃ ns, RowI H v ns ∧ Parts m ns ∧ ∀ ms H' p, Ord ns ms → Ex H H' → H p = none → H' p = some (.tup (ms.map V.int)) → Q (.ref p) H') ∨
   (∃ a ns y ys, v = .ref a ∧ H a = some (.lst (ns.map V.int ++ y :: ys)) ∧ Parts m ns ∧ (∀ z ∈ ys, Kd H z) ∧ Kd H y ∧ (inB y 0 (m - 1) = false ∨ ∃ n ∈ ns, y = .int n) ∧ Bad K H E ns.length) ∨
   (Kd H v ∧ isR v = false ∧ Bad K H E (-1)))
theorem nodup_new {ns : List Int} {i : Nat} {z : Int} (hp : ns.Nodup) (h : ns[i]? = some z) : z ∉ ns.take i := by
  intro q
  obtain ⟨j, hj, e⟩ := List.mem_iff_getElem.mp q
  obtain ⟨hil, hie⟩ := List.getElem?_eq_some_iff.mp h
  rw [List.length_take] at hj
  have hji : j < i := by omega
  rw [List.getElem_take] at e
  exact (List.pairwise_iff_getElem.mp hp j i (by omega) hil hji) (e.trans hie.symm)
theorem has_set (T : Ctx K mg) : Has w K mg base (L2.CX PP w) "set_of" 3 ["many", "parts"] (spSet K) := by
  obtain ⟨f1, fd1, m1, kp1, F1, b1⟩ := has_is_count (w := w) (base := base) T
  obtain ⟨f2, fd2, m2, kp2, F2, b2⟩ := has_is_rowG (w := w) (base := base) T
  obtain ⟨f3, fd3, m3, kp3, F3, b3⟩ := has_is_withinG (w := w) (base := base) T
  refine has_of (st := s_set_of) (f := He.ga K "set_of") T.d_set_of T.g_set_of (fun _ _ _ _ _ _ us hl => match us, hl with | [_, _], _ => rfl) fun fd F => ?_
  refine okX F sc_set_of (fun vs H Q E h => ?_) (fun cdv A outer s H vs Q E hr h => ?_)
  · obtain ⟨m, a, rfl, _⟩ := h
    rfl
  · obtain ⟨m, v, rfl, hm, hcase⟩ := h
    have nd := sc_set_of.nd
    have hr1 := hr.mono (show 1 ≤ 2 by decide)
    refine ⟨_, pss_cons (ps_if (pt_not (pt_val (pe_call F1 hr (by rfl) m1 kp1 b1 .nil pass0 (pa_cons (pv 0) pa_nil)))) (pss_one ps_never) pss_nil)
      (pss_cons (ps_if (pt_not (pt_val (pe_call F2 hr1 (by rfl) m2 kp2 b2 .nil pass0 (pa_cons (pv 1) pa_nil)))) (pss_one (ps_raiseBadSet (W := fun cls d _ H => E cls d H) rfl T.bs hr (takes_of rfl rfl rfl rfl) (pa_cons (pe_un un_neg pe_int) pa_nil))) pss_nil)
      (pss_cons (ps_set (i := 2) nd rfl (.inl rfl) (pe_callTy0 cr_set0 (by rfl) T.b_set (by decide +kernel)))
      (pss_cons (ps_or (ps_for (passes_of rfl) rfl (pi_enum (by rfl) T.b_enumerate (pa_cons (pv 1) pa_nil)) (pg_tup (by rfl) (pgs_cons (pg_name (i := 3) nd rfl (.inl rfl)) (pgs_cons (pg_name (i := 4) nd rfl (.inl rfl)) pgs_nil)))
        (pss_cons (ps_if (PW.pt (pw_or (pt_not (pt_val (pe_call F3 hr (by rfl) m3 kp3 b3 .nil pass0 (pa_cons (pv 4) (pa_cons pe_int (pa_cons (pe_op op_sub (pv 0) pe_int) pa_nil)))))) (pw_or1 (pt_cmpR or_sin (pv 4) (pv 2) (by rfl))))) (pss_one (ps_raiseBadSet (W := fun cls d _ H => E cls d H) rfl T.bs hr (takes_of rfl rfl rfl rfl) (pa_cons (pv 3) pa_nil))) pss_nil)
        (pss_one (ps_expr (pe_sadd (pv 2) (pa_cons (pv 4) pa_nil))))))
        (ps_for (passes_of rfl) rfl (pi_enumT (by rfl) T.b_enumerate (pa_cons (pv 1) pa_nil)) (pg_tup (by rfl) (pgs_cons (pg_name (i := 3) nd rfl (.inl rfl)) (pgs_cons (pg_name (i := 4) nd rfl (.inl rfl)) pgs_nil)))
        (pss_cons (ps_if (PW.pt (pw_or (pt_not (pt_val (pe_call F3 hr (by rfl) m3 kp3 b3 .nil pass0 (pa_cons (pv 4) (pa_cons pe_int (pa_cons (pe_op op_sub (pv 0) pe_int) pa_nil)))))) (pw_or1 (pt_cmpR or_sin (pv 4) (pv 2) (by rfl))))) (pss_one (ps_raiseBadSet (W := fun cls d _ H => E cls d H) rfl T.bs hr (takes_of rfl rfl rfl rfl) (pa_cons (pv 3) pa_nil))) pss_nil)
        (pss_one (ps_expr (pe_sadd (pv 2) (pa_cons (pv 4) pa_nil)))))))
      (pss_one (ps_ret (pe_callTy call_tuple_of (by rfl) T.b_tuple (by decide +kernel) (pa_cons (pe_callB (cr_sortedSet rfl) (by rfl) T.b_sorted (by decide +kernel) (pa_cons (pv 2) pa_nil)) pa_nil))))))), ?_⟩
    refine ⟨_, rfl, m, rfl, decide (0 ≤ m), rfl, ?_⟩
    rw [decide_eq_true hm]
    refine iteF ?_
    rcases hcase with ⟨ns, hR, hP, k⟩ | ⟨a, ns, y0, ys, rfl, ha, hP, hys, hy0, hbad, hB⟩ | ⟨hKv, hRv, hB⟩
    · obtain ⟨a, rfl, ha⟩ := hR
      have hKd : Kd H (.ref a) := ha.elim Kd.lst Kd.tup
      refine ⟨_, rfl, _, rfl, hKd, fun H1 e1 => ⟨true, rfl, iteF ?_⟩⟩
      refine ⟨rfl, fun q hq => ?_⟩
      have e2 : Ex H (upd H1 q (SetO w q (fun _ => false) 0)) := e1.trans (Ex.new hq)
      have hq0 : H q = none := Evl.fresh_back e1 hq
      rcases ha with ha | ha
      · refine .inl ⟨_, rfl, a, _, rfl, Ex.lst e2 ha, for_it walk_enum (fun i σ H' => ∃ (p f : Option V) (S : Int → Bool), σ = [some (.int m), some (.ref a), some (.ref q), p, f] ∧ Ex H H' ∧ H' q = some (SetO w q S i) ∧ ∀ j, S j = true ↔ j ∈ ns.take i)
          ⟨none, none, _, rfl, e2, upd_same, fun j => by simp⟩ (fun i σ H' _ ⟨_, _, _, _, e, _⟩ => Ex.lst e ha) ?_ ?_⟩
        · rintro i v σ H2 H3 hi ⟨p, f, S, rfl, e3, hS, hSm⟩ ⟨t, x, y, rfl, ht, rfl, hx1, hy⟩
          cases hx1
          obtain ⟨z, hz, rfl⟩ := map_int_get hy
          have hzb := hP.inn z (List.mem_of_getElem? hz)
          have hqt : q ≠ t := ne_of_none hS ht
          have hSf : S z = false := by
            cases c : S z with
            | false => rfl
            | true => exact absurd ((hSm z).mp c) (nodup_new hP.nd hz)
          have hil : i < ns.length := (List.getElem?_eq_some_iff.mp hz).1
          have few := hP.few
          refine ⟨t, _, rfl, SqT.of upd_same, rfl, _, _, rfl, _, _, rfl, rfl, ?_⟩
          refine ⟨_, rfl, _, rfl, _, _, rfl, rfl, .int z, 0, m - 1, rfl, .int z, inB (.int z) 0 (m - 1), rfl, ?_⟩
          show (if (!decide (0 ≤ z ∧ z ≤ m - 1)) = true then _ else _)
          rw [decide_eq_true (show 0 ≤ z ∧ z ≤ m - 1 by omega)]
          refine iteF ?_
          refine ⟨_, rfl, _, rfl, z, q, S, i, rfl, rfl, by rw [upd_ne hqt]; exact hS, S z, rfl, ?_⟩
          rw [hSf]
          refine iteF ?_
          refine ⟨_, rfl, ⟨q, S, i, rfl, by rw [upd_ne hqt]; exact hS⟩, _, rfl, q, z, S, i, rfl, rfl, by rw [upd_ne hqt]; exact hS, ?_, ?_⟩
          · show i + 1 < 4096
            omega
          · rw [hSf, if_neg Bool.false_ne_true]
            refine ⟨_, _, _, rfl, Evl.Ex.mut (e3.trans (Ex.new ht)) hq0, upd_same, fun j => ?_⟩
            rw [take_succ_mem hz, Bool.or_eq_true, decide_eq_true_iff, hSm]
        · rintro σ H2 ⟨p, f, S, rfl, e3, hS, hSm⟩
          rw [List.length_map] at hS hSm
          rw [List.take_length] at hSm
          have few := hP.few
          refine ⟨_, rfl, q, S, _, rfl, hS, by omega, fun ns' p' hp' hmem hlen hnew => ?_⟩
          refine ⟨p', _, rfl, .inl ⟨SqL.of upd_same, fun l hl2 => ?_⟩⟩
          exact k ns' _ _ ⟨hp', fun j => (hmem j).trans (hSm j)⟩ ((e3.trans (Ex.new hnew)).trans (Ex.new hl2)) (Evl.fresh_back (e3.trans (Ex.new hnew)) hl2) upd_same
      · refine .inr ⟨_, rfl, a, _, rfl, Ex.tup e2 ha, for_it walk_enumT (fun i σ H' => ∃ (p f : Option V) (S : Int → Bool), σ = [some (.int m), some (.ref a), some (.ref q), p, f] ∧ Ex H H' ∧ H' q = some (SetO w q S i) ∧ ∀ j, S j = true ↔ j ∈ ns.take i)
          ⟨none, none, _, rfl, e2, upd_same, fun j => by simp⟩ (fun i σ H' _ ⟨_, _, _, _, e, _⟩ => Ex.tup e ha) ?_ ?_⟩
        · rintro i v σ H2 H3 hi ⟨p, f, S, rfl, e3, hS, hSm⟩ ⟨t, x, y, rfl, ht, rfl, hx1, hy⟩
          cases hx1
          obtain ⟨z, hz, rfl⟩ := map_int_get hy
          have hzb := hP.inn z (List.mem_of_getElem? hz)
          have hqt : q ≠ t := ne_of_none hS ht
          have hSf : S z = false := by
            cases c : S z with
            | false => rfl
            | true => exact absurd ((hSm z).mp c) (nodup_new hP.nd hz)
          have hil : i < ns.length := (List.getElem?_eq_some_iff.mp hz).1
          have few := hP.few
          refine ⟨t, _, rfl, SqT.of upd_same, rfl, _, _, rfl, _, _, rfl, rfl, ?_⟩
          refine ⟨_, rfl, _, rfl, _, _, rfl, rfl, .int z, 0, m - 1, rfl, .int z, inB (.int z) 0 (m - 1), rfl, ?_⟩
          show (if (!decide (0 ≤ z ∧ z ≤ m - 1)) = true then _ else _)
          rw [decide_eq_true (show 0 ≤ z ∧ z ≤ m - 1 by omega)]
          refine iteF ?_
          refine ⟨_, rfl, _, rfl, z, q, S, i, rfl, rfl, by rw [upd_ne hqt]; exact hS, S z, rfl, ?_⟩
          rw [hSf]
          refine iteF ?_
          refine ⟨_, rfl, ⟨q, S, i, rfl, by rw [upd_ne hqt]; exact hS⟩, _, rfl, q, z, S, i, rfl, rfl, by rw [upd_ne hqt]; exact hS, ?_, ?_⟩
          · show i + 1 < 4096
            omega
          · rw [hSf, if_neg Bool.false_ne_true]
            refine ⟨_, _, _, rfl, Evl.Ex.mut (e3.trans (Ex.new ht)) hq0, upd_same, fun j => ?_⟩
            rw [take_succ_mem hz, Bool.or_eq_true, decide_eq_true_iff, hSm]
        · rintro σ H2 ⟨p, f, S, rfl, e3, hS, hSm⟩
          rw [List.length_map] at hS hSm
          rw [List.take_length] at hSm
          have few := hP.few
          refine ⟨_, rfl, q, S, _, rfl, hS, by omega, fun ns' p' hp' hmem hlen hnew => ?_⟩
          refine ⟨p', _, rfl, .inl ⟨SqL.of upd_same, fun l hl2 => ?_⟩⟩
          exact k ns' _ _ ⟨hp', fun j => (hmem j).trans (hSm j)⟩ ((e3.trans (Ex.new hnew)).trans (Ex.new hl2)) (Evl.fresh_back (e3.trans (Ex.new hnew)) hl2) upd_same
    · refine ⟨_, rfl, _, rfl, .lst ha, fun H1 e1 => ⟨true, rfl, iteF ?_⟩⟩
      refine ⟨rfl, fun q hq => ?_⟩
      have e2 : Ex H (upd H1 q (SetO w q (fun _ => false) 0)) := e1.trans (Ex.new hq)
      have hq0 : H q = none := Evl.fresh_back e1 hq
      have few := hP.few
      refine .inl ⟨_, rfl, a, _, rfl, Ex.lst e2 ha, for_it walk_enum (fun i σ H' => i ≤ ns.length ∧ ∃ (p f : Option V) (S : Int → Bool), σ = [some (.int m), some (.ref a), some (.ref q), p, f] ∧ Ex H H' ∧ H' q = some (SetO w q S i) ∧ ∀ j, S j = true ↔ j ∈ ns.take i)
          ⟨Nat.zero_le _, none, none, _, rfl, e2, upd_same, fun j => by simp⟩ (fun i σ H' _ ⟨_, _, _, _, _, e, _⟩ => Ex.lst e ha) ?_ ?_⟩
      · rintro i v σ H2 H3 hi ⟨hin, p, f, S, rfl, e3, hS, hSm⟩ ⟨t, x, y, rfl, ht, rfl, hx1, hy⟩
        cases hx1
        have hqt : q ≠ t := ne_of_none hS ht
        by_cases ci : i < ns.length
        · have hy' : (ns.map V.int)[i]? = some y := by
            have hy2 : (ns.map V.int ++ y0 :: ys)[i]? = some y := hy
            rw [List.getElem?_append_left (by rw [List.length_map]; exact ci)] at hy2
            exact hy2
          obtain ⟨z, hz, rfl⟩ := map_int_get hy'
          have hzb := hP.inn z (List.mem_of_getElem? hz)
          have hSf : S z = false := by
            cases c : S z with
            | false => rfl
            | true => exact absurd ((hSm z).mp c) (nodup_new hP.nd hz)
          refine ⟨t, _, rfl, SqT.of upd_same, rfl, _, _, rfl, _, _, rfl, rfl, ?_⟩
          refine ⟨_, rfl, _, rfl, _, _, rfl, rfl, .int z, 0, m - 1, rfl, .int z, inB (.int z) 0 (m - 1), rfl, ?_⟩
          show (if (!decide (0 ≤ z ∧ z ≤ m - 1)) = true then _ else _)
          rw [decide_eq_true (show 0 ≤ z ∧ z ≤ m - 1 by omega)]
          refine iteF ?_
          refine ⟨_, rfl, _, rfl, z, q, S, i, rfl, rfl, by rw [upd_ne hqt]; exact hS, S z, rfl, ?_⟩
          rw [hSf]
          refine iteF ?_
          refine ⟨_, rfl, ⟨q, S, i, rfl, by rw [upd_ne hqt]; exact hS⟩, _, rfl, q, z, S, i, rfl, rfl, by rw [upd_ne hqt]; exact hS, ?_, ?_⟩
          · show i + 1 < 4096
            omega
          · rw [hSf, if_neg Bool.false_ne_true]
            refine ⟨ci, _, _, _, rfl, Evl.Ex.mut (e3.trans (Ex.new ht)) hq0, upd_same, fun j => ?_⟩
            rw [take_succ_mem hz, Bool.or_eq_true, decide_eq_true_iff, hSm]
        · have hie : i = ns.length := by omega
          subst hie
          have hyy : y = y0 := by
            have hy2 : (ns.map V.int ++ y0 :: ys)[ns.length]? = some y := hy
            rw [List.getElem?_append_right (by rw [List.length_map]; exact Nat.le_refl _), List.length_map, Nat.sub_self] at hy2
            exact (Option.some.inj hy2).symm
          subst hyy
          rw [List.take_length] at hSm
          have e4 := e3.trans (Ex.new (o := .tup [.int (ns.length : Nat), y]) ht)
          refine ⟨t, _, rfl, SqT.of upd_same, rfl, _, _, rfl, _, _, rfl, rfl, ?_⟩
          refine ⟨_, rfl, _, rfl, _, _, rfl, rfl, y, 0, m - 1, rfl, hy0.ex e4, inB y 0 (m - 1), rfl, ?_⟩
          cases cb : inB y 0 (m - 1) with
          | false => exact iteT ⟨_, rfl, _, rfl, fun d hd => hB.go e4 hd⟩
          | true =>
            refine iteF ?_
            rcases hbad with z | ⟨n, hn, rfl⟩
            · rw [cb] at z; cases z
            · refine ⟨_, rfl, _, rfl, n, q, S, _, rfl, rfl, by rw [upd_ne hqt]; exact hS, S n, rfl, ?_⟩
              rw [(hSm n).mpr hn]
              exact iteT ⟨_, rfl, _, rfl, fun d hd => hB.go e4 hd⟩
      · rintro σ H2 ⟨hin, _⟩
        rw [List.length_append, List.length_map, List.length_cons] at hin
        omega
    · refine ⟨_, rfl, _, rfl, hKv, fun H1 e1 => ⟨isR v, rfl, ?_⟩⟩
      rw [hRv]
      exact iteT ⟨_, rfl, _, rfl, fun d hd => hB.go e1 hd⟩
end
end K00


set_option Elab.async false
set_option linter.all false
set_option maxRecDepth 100000
set_option maxHeartbeats 4000000
namespace K00
open PySem PySem.Spec PyProof.Rows L2
open Evl (Ex)
section
variable {w : World} {K : PySem.W.Frag} {mg : Str → Option Value} {base : Heap}
/-! ### both, common, minus -/
structure Low (ns : List Int) : Prop where
  inn : ∀ n ∈ ns, 0 ≤ n ∧ n < 64
def Filt (f : Bool → Bool → Bool) (ns ms rs : List Int) : Prop := rs.Pairwise (· < ·) ∧ ∀ k, k ∈ rs ↔ f (decide (k ∈ ns)) (decide (k ∈ ms)) = true
def spSet2 (f : Bool → Bool → Bool) : Sp := fun vs H Q _ => ∃ (a b : Addr) (ns ms : List Int), vs = [.ref a, .ref b] ∧ H a = some (.tup (ns.map V.int)) ∧ H b = some (.tup (ms.map V.int)) ∧ Low ns ∧ Low ms ∧ ns.length + ms.length < 64 ∧
  ∀ rs H' p, Filt f ns ms rs → Ex H H' → H p = none → H' p = some (.tup (rs.map V.int)) → Q (.ref p) H'
theorem lowS {ns : List Int} (l : Low ns) : SetT.LowS (fun j => decide (j ∈ ns)) := fun k h => l.inn k (of_decide_eq_true h)
theorem body2 {op : Operator} {f : Bool → Bool → Bool} {X : Cx} (hX : X.K = K) (hw : X.w = w) (hu : OpR X (binaryOp op) (rSet2 X.w f)) : OpR X (binaryOp op) (rSet2 w f) := by
  subst hw
  exact hu
theorem sc_both : FnScope ["one", "other"] ["one", "other"] (defScope s_both) := ⟨rfl, rfl, rfl, by decide +kernel, rfl, by decide +kernel, by decide +kernel⟩
theorem has_both (T : Ctx K mg) : Has w K mg base CX0 "both" 1 ["one", "other"] (spSet2 fun a b => a || b) := by
  refine has_of (st := s_both) (f := He.ga K "both") T.d_both T.g_both (fun _ _ _ _ _ _ us hl => match us, hl with | [_, _], _ => rfl) fun fd F => ?_
  refine ok0 F sc_both (fun vs H Q E h => ?_) (fun cdv A outer s H vs Q E hr h => ?_)
  · obtain ⟨a, b, ns, ms, rfl, _⟩ := h
    rfl
  · obtain ⟨a, b, ns, ms, rfl, ha, hb, ln, lm, hl, k⟩ := h
    refine ⟨_, pss_one (ps_ret (pe_callTy call_tuple_of (by rfl) T.b_tuple (by decide +kernel) (pa_cons (pe_callB (cr_sortedSet rfl) (by rfl) T.b_sorted (by decide +kernel) (pa_cons
      (pe_op op_setOr (pe_callTy (cr_setT rfl) (by rfl) T.b_set (by decide +kernel) (pa_cons (pv 0) pa_nil)) (pe_callTy (cr_setT rfl) (by rfl) T.b_set (by decide +kernel) (pa_cons (pv 1) pa_nil))) pa_nil)) pa_nil))), ?_⟩
    refine ⟨_, rfl, a, ns, rfl, SqT.of ha, by omega, fun q c hq hc => ?_⟩
    have e1 := Ex.new (o := SetO w q (fun j => decide (j ∈ ns)) c) hq
    refine ⟨_, rfl, b, ms, rfl, SqT.of (e1 _ _ hb), by omega, fun q2 c2 hq2 hc2 => ?_⟩
    have e2 := e1.trans (Ex.new (o := SetO w q2 (fun j => decide (j ∈ ms)) c2) hq2)
    have hqq : q ≠ q2 := ne_of_none (upd_same (H := H) (a := q)) hq2
    refine ⟨q, q2, _, _, c, c2, rfl, rfl, hqq, by rw [upd_ne hqq]; exact upd_same, upd_same, lowS ln, lowS lm, by omega, fun q3 c3 hq3 hc3 => ?_⟩
    have e3 := e2.trans (Ex.new (o := SetO w q3 (fun k => decide (k ∈ ns) || decide (k ∈ ms)) c3) hq3)
    refine ⟨q3, _, c3, rfl, upd_same, hc3, fun rs p' hp' hmem hlen hnew => ?_⟩
    have e4 := e3.trans (Ex.new (o := .lst (rs.map V.int)) hnew)
    refine ⟨p', _, rfl, .inl ⟨SqL.of upd_same, fun l hl2 => ?_⟩⟩
    exact k rs _ l ⟨hp', hmem⟩ (e4.trans (Ex.new hl2)) (Evl.fresh_back e4 hl2) upd_same
theorem sc_common : FnScope ["one", "other"] ["one", "other"] (defScope s_common) := ⟨rfl, rfl, rfl, by decide +kernel, rfl, by decide +kernel, by decide +kernel⟩
theorem has_common (T : Ctx K mg) : Has w K mg base CX0 "common" 1 ["one", "other"] (spSet2 fun a b => a && b) := by
  refine has_of (st := s_common) (f := He.ga K "common") T.d_common T.g_common (fun _ _ _ _ _ _ us hl => match us, hl with | [_, _], _ => rfl) fun fd F => ?_
  refine ok0 F sc_common (fun vs H Q E h => ?_) (fun cdv A outer s H vs Q E hr h => ?_)
  · obtain ⟨a, b, ns, ms, rfl, _⟩ := h
    rfl
  · obtain ⟨a, b, ns, ms, rfl, ha, hb, ln, lm, hl, k⟩ := h
    refine ⟨_, pss_one (ps_ret (pe_callTy call_tuple_of (by rfl) T.b_tuple (by decide +kernel) (pa_cons (pe_callB (cr_sortedSet rfl) (by rfl) T.b_sorted (by decide +kernel) (pa_cons
      (pe_op op_setAnd (pe_callTy (cr_setT rfl) (by rfl) T.b_set (by decide +kernel) (pa_cons (pv 0) pa_nil)) (pe_callTy (cr_setT rfl) (by rfl) T.b_set (by decide +kernel) (pa_cons (pv 1) pa_nil))) pa_nil)) pa_nil))), ?_⟩
    refine ⟨_, rfl, a, ns, rfl, SqT.of ha, by omega, fun q c hq hc => ?_⟩
    have e1 := Ex.new (o := SetO w q (fun j => decide (j ∈ ns)) c) hq
    refine ⟨_, rfl, b, ms, rfl, SqT.of (e1 _ _ hb), by omega, fun q2 c2 hq2 hc2 => ?_⟩
    have e2 := e1.trans (Ex.new (o := SetO w q2 (fun j => decide (j ∈ ms)) c2) hq2)
    have hqq : q ≠ q2 := ne_of_none (upd_same (H := H) (a := q)) hq2
    refine ⟨q, q2, _, _, c, c2, rfl, rfl, hqq, by rw [upd_ne hqq]; exact upd_same, upd_same, lowS ln, lowS lm, by omega, fun q3 c3 hq3 hc3 => ?_⟩
    have e3 := e2.trans (Ex.new (o := SetO w q3 (fun k => decide (k ∈ ns) && decide (k ∈ ms)) c3) hq3)
    refine ⟨q3, _, c3, rfl, upd_same, hc3, fun rs p' hp' hmem hlen hnew => ?_⟩
    have e4 := e3.trans (Ex.new (o := .lst (rs.map V.int)) hnew)
    refine ⟨p', _, rfl, .inl ⟨SqL.of upd_same, fun l hl2 => ?_⟩⟩
    exact k rs _ l ⟨hp', hmem⟩ (e4.trans (Ex.new hl2)) (Evl.fresh_back e4 hl2) upd_same
theorem sc_minus : FnScope ["one", "other"] ["one", "other"] (defScope s_minus) := ⟨rfl, rfl, rfl, by decide +kernel, rfl, by decide +kernel, by decide +kernel⟩
theorem has_minus (T : Ctx K mg) : Has w K mg base CX0 "minus" 1 ["one", "other"] (spSet2 fun a b => a && !b) := by
  refine has_of (st := s_minus) (f := He.ga K "minus") T.d_minus T.g_minus (fun _ _ _ _ _ _ us hl => match us, hl with | [_, _], _ => rfl) fun fd F => ?_
  refine ok0 F sc_minus (fun vs H Q E h => ?_) (fun cdv A outer s H vs Q E hr h => ?_)
  · obtain ⟨a, b, ns, ms, rfl, _⟩ := h
    rfl
  · obtain ⟨a, b, ns, ms, rfl, ha, hb, ln, lm, hl, k⟩ := h
    refine ⟨_, pss_one (ps_ret (pe_callTy call_tuple_of (by rfl) T.b_tuple (by decide +kernel) (pa_cons (pe_callB (cr_sortedSet rfl) (by rfl) T.b_sorted (by decide +kernel) (pa_cons
      (pe_op op_setSub (pe_callTy (cr_setT rfl) (by rfl) T.b_set (by decide +kernel) (pa_cons (pv 0) pa_nil)) (pe_callTy (cr_setT rfl) (by rfl) T.b_set (by decide +kernel) (pa_cons (pv 1) pa_nil))) pa_nil)) pa_nil))), ?_⟩
    refine ⟨_, rfl, a, ns, rfl, SqT.of ha, by omega, fun q c hq hc => ?_⟩
    have e1 := Ex.new (o := SetO w q (fun j => decide (j ∈ ns)) c) hq
    refine ⟨_, rfl, b, ms, rfl, SqT.of (e1 _ _ hb), by omega, fun q2 c2 hq2 hc2 => ?_⟩
    have e2 := e1.trans (Ex.new (o := SetO w q2 (fun j => decide (j ∈ ms)) c2) hq2)
    have hqq : q ≠ q2 := ne_of_none (upd_same (H := H) (a := q)) hq2
    refine ⟨q, q2, _, _, c, c2, rfl, rfl, hqq, by rw [upd_ne hqq]; exact upd_same, upd_same, lowS ln, lowS lm, by omega, fun q3 c3 hq3 hc3 => ?_⟩
    have e3 := e2.trans (Ex.new (o := SetO w q3 (fun k => decide (k ∈ ns) && !decide (k ∈ ms)) c3) hq3)
    refine ⟨q3, _, c3, rfl, upd_same, hc3, fun rs p' hp' hmem hlen hnew => ?_⟩
    have e4 := e3.trans (Ex.new (o := .lst (rs.map V.int)) hnew)
    refine ⟨p', _, rfl, .inl ⟨SqL.of upd_same, fun l hl2 => ?_⟩⟩
    exact k rs _ l ⟨hp', hmem⟩ (e4.trans (Ex.new hl2)) (Evl.fresh_back e4 hl2) upd_same
end
end K00


set_option Elab.async false
set_option linter.all false
set_option maxRecDepth 100000
set_option maxHeartbeats 4000000
namespace K00
open PySem PySem.Spec PyProof.Rows L2
open Evl (Ex)
section
variable {w : World} {K : PySem.W.Frag} {mg : Str → Option Value} {base : Heap}
theorem IsM.pr {C : Addr} {kind : Str} (h : IsM K C kind) (T : Ctx K mg) : ∃ p, PropOf K C "many" p (HkQ.gAd K ("Market", some "many")) := by
  rcases h with ⟨rfl, _⟩ | ⟨rfl, _⟩
  · exact ⟨_, T.pr_many_Join⟩
  · exact ⟨_, T.pr_many_Lap⟩
def spMany (K : PySem.W.Frag) : Sp := fun vs H Q _ => ∃ (x : Addr) (kd : Str) (s : Int) (us : List V) (rs : List (Int × Int)) (ns : List Int), vs = [.ref x] ∧ Mkt K H x kd s us rs ns ∧ Q (.int (us.length : Nat)) H
theorem sc_many : FnScope ["self"] ["self"] (defScope s_Market_many) := ⟨rfl, rfl, rfl, by decide +kernel, rfl, by decide +kernel, by decide +kernel⟩
theorem ok_many (T : Ctx K mg) : ∃ fd, FnOk PP w K mg base CX0 1 (HkQ.gAd K ("Market", some "many")) fd ["self"] (spMany K) ∧ Binds K fd ["self"] [] := by
  obtain ⟨fd, F⟩ := T.d_Market_many
  refine ⟨fd, ?_, FunD.bindsN F fun _ _ _ _ _ _ us hl => match us, hl with | [_], _ => rfl⟩
  refine ok0 F sc_many (fun vs H Q E h => ?_) (fun cdv A outer s H vs Q E hr h => ?_)
  · obtain ⟨x, kd, s, us, rs, ns, rfl, _⟩ := h
    rfl
  · obtain ⟨x, kd, s, us, rs, ns, rfl, M, k⟩ := h
    obtain ⟨C, dx, pr, pg, hM, h1, h2, h3⟩ := M.ob
    refine ⟨_, pss_one (ps_ret (pe_callB call_len_seq (by rfl) T.b_len PySem.boot_len (pa_cons (pe_fld (pv 0) rfl) pa_nil))), ?_⟩
    exact ⟨_, rfl, x, C, dx, _, _, rfl, h1, hM.cl T, hM.nR T, mf_runs _ _ _, pr, us, rfl, .inr (SqT.of h2), k⟩
/-- e.many, e a market of either kind -/
def tMany (K : PySem.W.Frag) (ta : TE) : TE := fun σ H Q => ta σ H fun x H1 => ∃ (a : Addr) (kd : Str) (s : Int) (us : List V) (rs : List (Int × Int)) (ns : List Int), x = .ref a ∧ Mkt K H1 a kd s us rs ns ∧ Q (.int (us.length : Nat)) H1
theorem pe_many (T : Ctx K mg) {X : Cx} (hP : X.prog = PP) (hw : X.w = w) (hK : X.K = K) (hmg : X.mg = mg) {e : Expr} {pos : Pos} {ta : TE} (he : PE X e ta) {n : Nat} (hr : Room n X.A) (hn : 2 ≤ n) (hab : attributeBase e "many" X.env (eval e X.env) = eval e X.env) : PE X (.Attribute e "many" pos) (tMany K ta) := by
  subst hw hK hmg
  obtain ⟨fd, F, b⟩ := ok_many (w := X.w) (base := X.base) T
  obtain ⟨p1, hp1⟩ := (IsM.pr (kind := "join") (.inl ⟨rfl, rfl⟩) T : _)
  obtain ⟨p2, hp2⟩ := (IsM.pr (kind := "lap") (.inr ⟨rfl, rfl⟩) T : _)
  have F' : FnOk X.prog X.w X.K X.mg X.base CX0 1 (HkQ.gAd X.K ("Market", some "many")) fd ["self"] (spMany X.K) := by rw [hP]; exact F
  have r1 := pe_prop (pos := pos) he T.cl_Join hp1 F' (hr.mono hn) b .nil (E := E0) pass0 hab
  have r2 := pe_prop (pos := pos) he T.cl_Lap hp2 F' (hr.mono hn) b .nil (E := E0) pass0 hab
  refine ⟨fun pins s σ H Q I h => ?_⟩
  refine attr_of hab (thn (he.run pins s σ H _ I h) fun u s1 ⟨x, H1, I1, rx, a, kd, sz, us, rs, ns, ex, M, q⟩ => ?_)
  subst ex
  obtain rfl : u = Value.ref a := rx
  obtain ⟨C, dx, pr, pg, hM, h1, h2, h3⟩ := M.ob
  rcases hM with ⟨rfl, hk⟩ | ⟨rfl, hk⟩
  · exact getprop_ok I1 h1 T.cl_Join hp1 F' (hr.mono hn) b .nil (E := E0) pass0 ⟨a, kd, sz, us, rs, ns, rfl, M, q⟩
  · exact getprop_ok I1 h1 T.cl_Lap hp2 F' (hr.mono hn) b .nil (E := E0) pass0 ⟨a, kd, sz, us, rs, ns, rfl, M, q⟩
/-! ### first_wrong, in general -/
def fw (bs : List Bool) : V := match bs.findIdx? (fun b => !b) with
  | none => .non
  | some i => .int (i : Nat)
def spFirstG : Sp := fun vs H Q _ => ∃ (a : Addr) (bs : List Bool), vs = [.ref a] ∧ H a = some (.lst (bs.map V.bl)) ∧ ∀ H', Ex H H' → Q (fw bs) H'
theorem has_first_wrongG (T : Ctx K mg) : Has w K mg base CX0 "first_wrong" 1 ["flags"] spFirstG := by
  refine has_of (st := s_first_wrong) (f := He.ga K "first_wrong") T.d_first_wrong T.g_first_wrong (fun _ _ _ _ _ _ us hl => match us, hl with | [_], _ => rfl) fun fd F => ?_
  refine ok0 F sc_first_wrong (fun vs H Q E h => ?_) (fun cdv A outer s H vs Q E hr h => ?_)
  · obtain ⟨a, xs, rfl, _⟩ := h
    rfl
  · obtain ⟨a, bs, rfl, ha, k⟩ := h
    have nd := sc_first_wrong.nd
    refine ⟨_, pss_cons (ps_for PassesOwn.never rfl (pi_enum (by rfl) T.b_enumerate (pa_cons (pv 0) pa_nil)) (pg_tup (by rfl) (pgs_cons (pg_name (i := 1) nd rfl (.inl rfl)) (pgs_cons (pg_name (i := 2) nd rfl (.inl rfl)) pgs_nil)))
        (pss_one (ps_if (pt_not (pt_val (pv 2))) (pss_one (ps_ret (pv 1))) pss_nil)))
      (pss_one (ps_ret pe_non)), ?_⟩
    refine ⟨_, rfl, a, bs.map V.bl, rfl, SqL.of ha, for_it walk_enum (fun i σ H' => ∃ p f : Option V, σ = [some (.ref a), p, f] ∧ Ex H H' ∧ ∀ j, j < i → bs[j]? = some true) ⟨none, none, rfl, Ex.refl H, fun j z => absurd z (Nat.not_lt_zero j)⟩ (fun i σ H' _ ⟨_, _, _, e, _⟩ => Ex.lst e ha) ?_ ?_⟩
    · rintro i v σ H1 H2 hi ⟨p, f, rfl, e, hb⟩ ⟨t, x, y, rfl, ht, rfl, hx1, hy⟩
      cases hx1
      have hi' : i < bs.length := by rw [List.length_map] at hi; exact hi
      have hbi : bs[i]? = some bs[i] := List.getElem?_eq_getElem hi'
      have hy2 : (bs.map V.bl)[i]? = some y := hy
      rw [List.getElem?_map, hbi] at hy2
      obtain rfl : V.bl bs[i] = y := Option.some.inj hy2
      generalize hbb : bs[i] = b at *
      refine ⟨t, _, rfl, SqT.of upd_same, rfl, _, _, rfl, _, _, rfl, rfl, ?_⟩
      refine ⟨_, rfl, b, rfl, ?_⟩
      cases b with
      | true =>
        refine iteF ⟨_, _, rfl, e.trans (Ex.new ht), fun j hj => ?_⟩
        by_cases c : j = i
        · rw [c]; exact hbi
        · exact hb j (by omega)
      | false =>
        refine iteT ⟨_, rfl, ?_⟩
        have hf : bs.findIdx? (fun b => !b) = some i := by
          rw [List.findIdx?_eq_some_iff_getElem]
          refine ⟨hi', by rw [hbb]; rfl, fun j hj => ?_⟩
          have := hb j hj
          rw [List.getElem?_eq_getElem (by omega)] at this
          rw [Option.some.inj this]
          simp
        have k' := k _ (e.trans (Ex.new (o := .tup [.int (i : Nat), .bl false]) ht))
        unfold fw at k'
        rw [hf] at k'
        exact k'
    · rintro σ H1 ⟨p, f, rfl, e, hb⟩
      rw [List.length_map] at hb
      have hf : bs.findIdx? (fun b => !b) = none := by
        rw [List.findIdx?_eq_none_iff]
        intro b hbm
        obtain ⟨j, hj⟩ := List.mem_iff_getElem?.mp hbm
        have := hb j (List.getElem?_eq_some_iff.mp hj).1
        rw [this] at hj
        rw [← Option.some.inj hj]
        rfl
      have k' := k H1 e
      unfold fw at k'
      rw [hf] at k'
      exact k'
theorem fw_all {bs : List Bool} (h : ∀ b ∈ bs, b = true) : fw bs = .non := by
  have hf : bs.findIdx? (fun b => !b) = none := by
    rw [List.findIdx?_eq_none_iff]
    intro b hb
    rw [h b hb]
    rfl
  unfold fw
  rw [hf]
theorem fw_iff (bs : List Bool) : decide (fw bs = .non) = bs.all id := by
  unfold fw
  cases h : bs.findIdx? (fun b => !b) with
  | none =>
    rw [List.findIdx?_eq_none_iff] at h
    have : bs.all id = true := List.all_eq_true.mpr fun b hb => by
      have := h b hb
      simpa using this
    rw [this]
    simp
  | some i =>
    obtain ⟨hi, hb, _⟩ := List.findIdx?_eq_some_iff_getElem.mp h
    have : bs.all id = false := by
      rw [← Bool.not_eq_true]
      intro z
      have := List.all_eq_true.mp z _ (List.getElem_mem hi)
      simp at hb
      rw [hb] at this
      cases this
    rw [this]
    simp
/-! ### is_lap -/
def spIsLap (K : PySem.W.Frag) : Sp := fun vs H Q _ => ∃ (x : Addr) (kd : Str) (s : Int) (us : List V) (rs : List (Int × Int)) (ns : List Int), vs = [.ref x] ∧ Mkt K H x kd s us rs ns ∧ Q (.bl (decide (kd = "lap"))) H
theorem sc_is_lap : FnScope ["market"] ["market"] (defScope s_is_lap) := ⟨rfl, rfl, rfl, by decide +kernel, rfl, by decide +kernel, by decide +kernel⟩
theorem k_KIND1 : ¬ (("KIND" : Str) = "size") := by decide +kernel
theorem k_KIND2 : ¬ (("KIND" : Str) = "runs") := by decide +kernel
theorem k_KIND3 : ¬ (("KIND" : Str) = "gone") := by decide +kernel
theorem has_is_lap (T : Ctx K mg) : Has w K mg base CX0 "is_lap" 1 ["market"] (spIsLap K) := by
  refine has_of (st := s_is_lap) (f := He.ga K "is_lap") T.d_is_lap T.g_is_lap (fun _ _ _ _ _ _ us hl => match us, hl with | [_], _ => rfl) fun fd F => ?_
  refine ok0 F sc_is_lap (fun vs H Q E h => ?_) (fun cdv A outer s H vs Q E hr h => ?_)
  · obtain ⟨x, kd, s, us, rs, ns, rfl, _⟩ := h
    rfl
  · obtain ⟨x, kd, s, us, rs, ns, rfl, M, k⟩ := h
    obtain ⟨C, dx, pr, pg, hM, h1, h2, h3⟩ := M.ob
    obtain ⟨u, hC⟩ := hM.con T
    refine ⟨_, pss_one (ps_ret (pe_cmpR op_eq (pe_con (pv 0) rfl) pe_str (nomark _))), ?_⟩
    refine ⟨_, rfl, x, C, dx, _, _, _, rfl, h1, hM.cl T, hC, mf_no _ _ _ k_KIND1 k_KIND2 k_KIND3, ?_⟩
    refine ⟨rfl, ?_⟩
    have e : decide (V.str kd = V.str "lap") = decide (kd = "lap") := decide_eq_decide.mpr ⟨fun z => by injection z, fun z => by rw [z]⟩
    show Q (V.bl (decide (V.str kd = V.str "lap"))) H
    rw [e]
    exact k
end
end K00


set_option Elab.async false
set_option linter.all false
set_option maxRecDepth 100000
set_option maxHeartbeats 4000000
namespace K00
open PySem PySem.Spec PyProof.Rows L2
open Evl (Ex)
/-- one walk or the other -/
theorem pi_or {X : Cx} {tg it : Expr} {a b : TI} (ha : PI X tg it a) (hb : PI X tg it b) : PI X tg it (fun σ H R => a σ H R ∨ b σ H R) := ⟨fun pins s σ H R I h => h.elim (ha.run pins s σ H R I) (hb.run pins s σ H R I)⟩
theorem fw_at {bs : List Bool} {n : Nat} (h : bs[n]? = some false) (h2 : ∀ j, j < n → bs[j]? = some true) : fw bs = .int (n : Nat) := by
  have e : bs.findIdx? (fun b => !b) = some n := by
    rw [List.findIdx?_eq_some_iff_getElem]
    have hl : n < bs.length := (List.getElem?_eq_some_iff.mp h).1
    refine ⟨hl, ?_, fun j hj => ?_⟩
    · rw [List.getElem?_eq_getElem hl] at h
      rw [Option.some.inj h]; rfl
    · have hjl : j < bs.length := by omega
      have := h2 j hj
      rw [List.getElem?_eq_getElem hjl] at this
      rw [Option.some.inj this]; decide
  unfold fw
  rw [e]
section
variable {w : World} {K : PySem.W.Frag} {mg : Str → Option Value} {base : Heap}
theorem gTupK {X : Cx} (hK : X.K = K) {tg : Expr} {t : TGs} {n : Nat} (h : PG X tg (gTup X.K n t)) : PG X tg (gTup K n t) := by
  subst hK
  exact h
/-- an own error with its field leaves the def -/
def Err (K : PySem.W.Frag) (c f : Str) (H : Hp) (E : XK) (v : V) : Prop := ∀ H' d, Ex H H' → H d = none → H' d = some (.xd [(f, v)]) → E (.ref (He.ga K c)) (some d) H'
theorem Err.go {c f : Str} {H H1 : Hp} {E : XK} {v : V} {d : Addr} (h : Err K c f H E v) (e : Ex H H1) (hd : H1 d = none) : E (.ref (He.ga K c)) (some d) (upd H1 d (.xd [(f, v)])) := h _ _ (e.trans (Ex.new hd)) (Evl.fresh_back e hd) upd_same
theorem Err.ex {c f : Str} {H H1 : Hp} {E : XK} {v : V} (h : Err K c f H E v) (e : Ex H H1) : Err K c f H1 E v := fun H' d e' hd hx => h H' d (e.trans e') (Evl.fresh_back e hd) hx
theorem Bad.err {H : Hp} {E : XK} {n : Int} (h : Err K "BadSet" "place" H E (.int n)) : Bad K H E n := h
theorem Ctx.bd (T : Ctx K mg) : PySem.BadDemandX.BadDemandTxt K mg (He.ga K "BadDemand") (He.ma K (He.ga K "BadDemand") "__init__") := by
  obtain ⟨fd, F⟩ := T.d_BadDemand___init__
  obtain ⟨oc, od, dV, kV, doc, pm, an, cdv, ct, osl, rfl, lk, hcd, hD, hK⟩ := F.ex
  rcases hD with ⟨_, rfl⟩ | ⟨e, _⟩
  · exact ⟨T.g_BadDemand, T.xc_BadDemand, T.xsa_BadDemand, T.xga_BadDemand, T.xgg_BadDemand, T.xnn_BadDemand, T.xii_BadDemand, T.xt_BadDemand, T.xk_BadDemand, T.xs_BadDemand, T.xy_BadDemand, T.xd_BadDemand, T.te_BadDemand, ⟨oc, od, kV, doc, pm, an, cdv, ct, osl, _, _, _, _, _, _, lk, hcd⟩⟩
  · exact absurd rfl e
theorem Ctx.bp (T : Ctx K mg) : PySem.BadPartX.BadPartTxt K mg (He.ga K "BadPart") (He.ma K (He.ga K "BadPart") "__init__") := by
  obtain ⟨fd, F⟩ := T.d_BadPart___init__
  obtain ⟨oc, od, dV, kV, doc, pm, an, cdv, ct, osl, rfl, lk, hcd, hD, hK⟩ := F.ex
  rcases hD with ⟨_, rfl⟩ | ⟨e, _⟩
  · exact ⟨T.g_BadPart, T.xc_BadPart, T.xsa_BadPart, T.xga_BadPart, T.xgg_BadPart, T.xnn_BadPart, T.xii_BadPart, T.xt_BadPart, T.xk_BadPart, T.xs_BadPart, T.xy_BadPart, T.xd_BadPart, T.te_BadPart, ⟨oc, od, kV, doc, pm, an, cdv, ct, osl, _, _, _, _, _, _, lk, hcd⟩⟩
  · exact absurd rfl e
theorem Ctx.ig (T : Ctx K mg) : PySem.IsGoneX.IsGoneTxt K mg (He.ga K "IsGone") (He.ma K (He.ga K "IsGone") "__init__") := by
  obtain ⟨fd, F⟩ := T.d_IsGone___init__
  obtain ⟨oc, od, dV, kV, doc, pm, an, cdv, ct, osl, rfl, lk, hcd, hD, hK⟩ := F.ex
  rcases hD with ⟨_, rfl⟩ | ⟨e, _⟩
  · exact ⟨T.g_IsGone, T.xc_IsGone, T.xsa_IsGone, T.xga_IsGone, T.xgg_IsGone, T.xnn_IsGone, T.xii_IsGone, T.xt_IsGone, T.xk_IsGone, T.xs_IsGone, T.xy_IsGone, T.xd_IsGone, T.te_IsGone, ⟨oc, od, kV, doc, pm, an, cdv, ct, osl, _, _, _, _, _, _, lk, hcd⟩⟩
  · exact absurd rfl e
theorem Ctx.na (T : Ctx K mg) : PySem.NotAStockX.NotAStockTxt K mg (He.ga K "NotAStock") (He.ma K (He.ga K "NotAStock") "__init__") := by
  obtain ⟨fd, F⟩ := T.d_NotAStock___init__
  obtain ⟨oc, od, dV, kV, doc, pm, an, cdv, ct, osl, rfl, lk, hcd, hD, hK⟩ := F.ex
  rcases hD with ⟨_, rfl⟩ | ⟨e, _⟩
  · exact ⟨T.g_NotAStock, T.xc_NotAStock, T.xsa_NotAStock, T.xga_NotAStock, T.xgg_NotAStock, T.xnn_NotAStock, T.xii_NotAStock, T.xt_NotAStock, T.xk_NotAStock, T.xs_NotAStock, T.xy_NotAStock, T.xd_NotAStock, T.te_NotAStock, ⟨oc, od, kV, doc, pm, an, cdv, ct, osl, _, _, _, _, _, _, lk, hcd⟩⟩
  · exact absurd rfl e
theorem Ctx.br (T : Ctx K mg) : PySem.BadRunX.BadRunTxt K mg (He.ga K "BadRun") (He.ma K (He.ga K "BadRun") "__init__") := by
  obtain ⟨fd, F⟩ := T.d_BadRun___init__
  obtain ⟨oc, od, dV, kV, doc, pm, an, cdv, ct, osl, rfl, lk, hcd, hD, hK⟩ := F.ex
  rcases hD with ⟨_, rfl⟩ | ⟨e, _⟩
  · exact ⟨T.g_BadRun, T.xc_BadRun, T.xsa_BadRun, T.xga_BadRun, T.xgg_BadRun, T.xnn_BadRun, T.xii_BadRun, T.xt_BadRun, T.xk_BadRun, T.xs_BadRun, T.xy_BadRun, T.xd_BadRun, T.te_BadRun, ⟨oc, od, kV, doc, pm, an, cdv, ct, osl, _, _, _, _, _, _, lk, hcd⟩⟩
  · exact absurd rfl e
theorem Ctx.bn (T : Ctx K mg) : PySem.BadNumberX.BadNumberTxt K mg (He.ga K "BadNumber") (He.ma K (He.ga K "BadNumber") "__init__") := by
  obtain ⟨fd, F⟩ := T.d_BadNumber___init__
  obtain ⟨oc, od, dV, kV, doc, pm, an, cdv, ct, osl, rfl, lk, hcd, hD, hK⟩ := F.ex
  rcases hD with ⟨_, rfl⟩ | ⟨e, _⟩
  · exact ⟨T.g_BadNumber, T.xc_BadNumber, T.xsa_BadNumber, T.xga_BadNumber, T.xgg_BadNumber, T.xnn_BadNumber, T.xii_BadNumber, T.xt_BadNumber, T.xk_BadNumber, T.xs_BadNumber, T.xy_BadNumber, T.xd_BadNumber, T.te_BadNumber, ⟨oc, od, kV, doc, pm, an, cdv, ct, osl, _, _, _, _, _, _, lk, hcd⟩⟩
  · exact absurd rfl e
/-! ### demand_of -/
def Dem (H : Hp) (s : Nat) (v : V) (D : List Int) : Prop := (∃ n, v = .int n ∧ D = List.replicate s n) ∨ (RowI H v D ∧ D.length = s)
theorem Dem.len {H : Hp} {s : Nat} {v : V} {D : List Int} (h : Dem H s v D) : D.length = s := by
  rcases h with ⟨n, _, rfl⟩ | ⟨_, h⟩
  · exact List.length_replicate
  · exact h
theorem Dem.ex {H H' : Hp} {s : Nat} {v : V} {D : List Int} (h : Dem H s v D) (e : Ex H H') : Dem H' s v D := h.imp id fun z => ⟨z.1.ex e, z.2⟩
/-- no demand; the first wrong place, -1 for the form -/
def DemBad (H : Hp) (s : Nat) (v : V) (n : Int) : Prop :=
  (Kd H v ∧ isI v = false ∧ isR v = false ∧ n = -1) ∨ (∃ a xs, v = .ref a ∧ H a = some (.lst xs) ∧ xs.length ≠ s ∧ n = -1) ∨
  (∃ (a : Addr) (D : List Int) (y : V) (ys : List V), v = .ref a ∧ H a = some (.lst (D.map V.int ++ y :: ys)) ∧ D.length + 1 + ys.length = s ∧ Kd H y ∧ isI y = false ∧ (∀ z ∈ ys, Kd H z) ∧ n = (D.length : Nat))
theorem DemBad.ex {H H' : Hp} {s : Nat} {v : V} {n : Int} (h : DemBad H s v n) (e : Ex H H') : DemBad H' s v n := by
  rcases h with ⟨a, b⟩ | ⟨a, xs, rfl, h, b⟩ | ⟨a, D, y, ys, rfl, h, b, hy, c, d, f⟩
  · exact .inl ⟨a.ex e, b⟩
  · exact .inr (.inl ⟨a, xs, rfl, e _ _ h, b⟩)
  · exact .inr (.inr ⟨a, D, y, ys, rfl, e _ _ h, b, hy.ex e, c, fun z hz => (d z hz).ex e, f⟩)
abbrev BadD (K : PySem.W.Frag) (H : Hp) (E : XK) (n : Int) : Prop := Err K "BadDemand" "place" H E (.int n)
def spDemand (K : PySem.W.Frag) : Sp := fun vs H Q E => ∃ (x : Addr) (kd : Str) (s : Nat) (us : List V) (rs : List (Int × Int)) (ns : List Int) (v : V), vs = [.ref x, v] ∧ Mkt K H x kd (s : Int) us rs ns ∧ s ≤ 50 ∧
  ((∃ D, Dem H s v D ∧ ∀ H' p, Ex H H' → H' p = some (.tup (D.map V.int)) → Q (.ref p) H') ∨ (∃ n, DemBad H s v n ∧ BadD K H E n))
theorem sc_demand_of : FnScope ["market", "demand", "place", "item"] ["market", "demand"] (defScope s_demand_of) := ⟨rfl, rfl, rfl, by decide +kernel, rfl, by decide +kernel, by decide +kernel⟩
theorem rep_flat (n : Int) : ∀ s : Nat, (List.replicate s [V.int n]).flatten = (List.replicate s n).map V.int
  | 0 => rfl
  | s + 1 => by
    rw [List.replicate_succ, List.replicate_succ, List.map_cons, List.flatten_cons, rep_flat n s]
    rfl
theorem has_demand_of (T : Ctx K mg) : Has w K mg base (L2.CX PP w) "demand_of" 2 ["market", "demand"] (spDemand K) := by
  obtain ⟨f1, fd1, m1, kp1, F1, b1⟩ := has_is_wholeG (w := w) (base := base) T
  obtain ⟨f2, fd2, m2, kp2, F2, b2⟩ := has_is_rowG (w := w) (base := base) T
  obtain ⟨f3, fd3, m3, kp3, F3, b3⟩ := has_first_wrongG (w := w) (base := base) T
  refine has_of (st := s_demand_of) (f := He.ga K "demand_of") T.d_demand_of T.g_demand_of (fun _ _ _ _ _ _ us hl => match us, hl with | [_, _], _ => rfl) fun fd F => ?_
  refine okX F sc_demand_of (fun vs H Q E h => ?_) (fun cdv A outer s0 H vs Q E hr h => ?_)
  · obtain ⟨x, kd, s, us, rs, ns, v, rfl, _⟩ := h
    rfl
  · obtain ⟨x, kd, s, us, rs, ns, v, rfl, M, hs50, hD⟩ := h
    obtain ⟨C, dx, pr, pg, hM, h1, h2, h3⟩ := M.ob
    have nd := sc_demand_of.nd
    refine ⟨_, pss_cons (ps_if (pt_val (pe_call F1 hr (by rfl) m1 kp1 b1 .nil pass0 (pa_cons (pv 1) pa_nil))) (pss_one (ps_ret (pe_callTy call_tuple_of (by rfl) T.b_tuple (by decide +kernel) (pa_cons (pe_op op_rep (pe_lst (pa_cons (pv 1) pa_nil)) (pe_fld (pv 0) rfl)) pa_nil)))) pss_nil)
      (pss_cons (ps_if (PW.pt (pw_or (pt_not (pt_val (pe_call F2 hr (by rfl) m2 kp2 b2 .nil pass0 (pa_cons (pv 1) pa_nil)))) (pw_or1 (pt_cmpR op_ne (pe_callB call_len_seq (by rfl) T.b_len PySem.boot_len (pa_cons (pv 1) pa_nil)) (pe_fld (pv 0) rfl) (nomark _))))) (pss_one (ps_raiseBadDemand (W := fun cls d _ H => E cls d H) rfl T.bd hr (takes_of rfl rfl rfl rfl) (pa_cons (pe_un un_neg pe_int) pa_nil))) pss_nil)
      (pss_cons (ps_set (i := 2) nd rfl (.inl rfl) (pe_call F3 hr (by rfl) m3 kp3 b3 .nil pass0 (pa_cons
        (pe_lc (own := [("item", 3)]) (g := gName 3) (tt := tYes) rfl nd (pi_or (pi_list (pv 1)) (pi_tup (pv 1))) (blkOk_by (own := [("item", 3)]) (N := ["market", "demand", "place", "item"]) (sc := defScope s_demand_of) (by decide +kernel)) (fun _ _ _ _ _ => pg_name (i := 3) nd rfl (Or.inl rfl)) (fun _ _ _ _ _ => pts_nil)
          (fun _ _ _ _ _ => pe_call F1 hr (by rfl) m1 kp1 b1 .nil pass0 (pa_cons (pv 3) pa_nil))) pa_nil)))
      (pss_cons (ps_if (pt_cmpR op_notN (pv 2) pe_non (nomark _)) (pss_one (ps_raiseBadDemand (W := fun cls d _ H => E cls d H) rfl T.bd hr (takes_of rfl rfl rfl rfl) (pa_cons (pv 2) pa_nil))) pss_nil)
      (pss_one (ps_ret (pe_callTy call_tuple_of (by rfl) T.b_tuple (by decide +kernel) (pa_cons (pv 1) pa_nil))))))), ?_⟩
    have hc : (∃ n, v = .int n ∧ ∀ H' p, Ex H H' → H' p = some (.tup ((List.replicate s n).map V.int)) → Q (.ref p) H') ∨ (Kd H v ∧ isI v = false ∧ isR v = false ∧ BadD K H E (-1)) ∨
        (∃ a xs, v = .ref a ∧ (H a = some (.lst xs) ∨ H a = some (.tup xs)) ∧ ((xs.length = s ∧ (∀ z ∈ xs, Kd H z) ∧ ((fw (xs.map isI) = .non ∧ ∀ H' p, Ex H H' → H' p = some (.tup xs) → Q (.ref p) H') ∨ (∃ n : Int, fw (xs.map isI) = .int n ∧ BadD K H E n))) ∨ (xs.length ≠ s ∧ BadD K H E (-1)))) := by
      rcases hD with ⟨D, ⟨n, rfl, rfl⟩ | ⟨⟨a, rfl, ha⟩, hl⟩, k⟩ | ⟨n, ⟨q1, q2, q3, rfl⟩ | ⟨a, xs, rfl, ha, hl, rfl⟩ | ⟨a, D, y, ys, rfl, ha, hl, hy, hyi, hys, rfl⟩, hB⟩
      · exact .inl ⟨n, rfl, k⟩
      · refine .inr (.inr ⟨a, _, rfl, ha, .inl ⟨by rw [List.length_map]; exact hl, fun z hz => ?_, .inl ⟨fw_all fun b hb => ?_, k⟩⟩⟩)
        · obtain ⟨i, _, rfl⟩ := List.mem_map.mp hz
          exact .int i
        · rw [List.map_map] at hb
          obtain ⟨i, _, rfl⟩ := List.mem_map.mp hb
          rfl
      · exact .inr (.inl ⟨q1, q2, q3, hB⟩)
      · exact .inr (.inr ⟨a, xs, rfl, .inl ha, .inr ⟨hl, hB⟩⟩)
      · refine .inr (.inr ⟨a, _, rfl, .inl ha, .inl ⟨by rw [List.length_append, List.length_map, List.length_cons]; omega, fun z hz => ?_, .inr ⟨_, fw_at (n := D.length) ?_ fun j hj => ?_, hB⟩⟩⟩)
        · rcases List.mem_append.mp hz with hz | hz
          · obtain ⟨i, _, rfl⟩ := List.mem_map.mp hz
            exact .int i
          · rcases List.mem_cons.mp hz with rfl | hz
            · exact hy
            · exact hys z hz
        · rw [List.getElem?_map, List.getElem?_append_right (by rw [List.length_map]; exact Nat.le_refl _), List.length_map, Nat.sub_self, List.getElem?_cons_zero]
          exact congrArg some hyi
        · rw [List.getElem?_map, List.getElem?_append_left (by rw [List.length_map]; exact hj), List.getElem?_map, List.getElem?_eq_getElem hj]
          rfl
    clear hD
    rcases hc with ⟨n, rfl, k⟩ | ⟨q1, q2, q3, hB⟩ | ⟨a, xs, rfl, ha, hc⟩
    · refine ⟨_, rfl, _, rfl, .int n, true, rfl, iteT ?_⟩
      refine ⟨_, rfl, (by show 1 ≤ sizeLine; decide), fun p0 hp0 => ?_⟩
      have e0 := Ex.new (o := .lst [V.int n]) hp0
      refine ⟨_, rfl, x, C, dx, _, _, rfl, e0 _ _ h1, hM.cl T, hM.nS T, mf_size _ _ _, p0, _, _, rfl, rfl, upd_same, ?_, ?_, ?_, fun q hq => ?_⟩
      · omega
      · omega
      · refine Nat.le_trans (show 1 * (s : Int).toNat ≤ 1000 by omega) (by decide)
      have e1 := e0.trans (Ex.new (o := .lst (List.replicate ((s : Int).toNat) [V.int n]).flatten) hq)
      refine ⟨q, _, rfl, .inl ⟨SqL.of upd_same, fun l hl => k _ l (e1.trans (Ex.new hl)) ?_⟩⟩
      rw [upd_same, Int.toNat_natCast, rep_flat]
    · refine ⟨_, rfl, _, rfl, q1, isI v, rfl, ?_⟩
      rw [q2]
      refine iteF ⟨_, rfl, _, rfl, q1, fun H1 e1 => ⟨isR v, rfl, ?_⟩⟩
      rw [q3]
      exact iteT ⟨_, rfl, _, rfl, fun d hd => hB.go e1 hd⟩
    · have hKd : Kd H (.ref a) := ha.elim Kd.lst Kd.tup
      refine ⟨_, rfl, _, rfl, hKd, false, rfl, iteF ?_⟩
      refine ⟨_, rfl, _, rfl, hKd, fun H1 e1 => ⟨true, rfl, iteF ?_⟩⟩
      have hsq : SqL K H1 a xs ∨ SqT K H1 a xs := ha.imp (fun z => Ex.lst e1 z) (fun z => Ex.tup e1 z)
      refine ⟨_, rfl, a, _, rfl, hsq, _, rfl, x, C, dx, _, _, rfl, e1 _ _ h1, hM.cl T, hM.nS T, mf_size _ _ _, rfl, _, rfl, ?_⟩
      rcases hc with ⟨hlen, hkx, hc⟩ | ⟨hlen, hB⟩
      · refine iteF' (by rw [hlen]; simp) ?_
        have fin : ∀ (D' : Addr) (H2 : Hp), Ex H H2 → H2 D' = some (.lst ((xs.map isI).map V.bl)) → ∀ (v : Addr), v = D' → True := fun _ _ _ _ _ _ => trivial
        rcases ha with ha | ha
        · refine .inl ⟨_, rfl, a, rfl, ⟨_, Ex.lst e1 ha⟩, fun D' hD' => lc_it walk_list (fun i H' => Ex H H' ∧ H' D' = some (.lst (((xs.take i).map isI).map V.bl))) ⟨e1.trans (Ex.new hD'), upd_same⟩ (fun i H' _ q => Ex.lst q.1 ha) ?_ ?_⟩
          · rintro i y H2 H3 hi ⟨e2, hD2⟩ ⟨rfl, hy⟩
            refine ⟨rfl, tYesI ?_⟩
            refine ⟨_, rfl, _, rfl, (hkx y (List.mem_of_getElem? hy)).ex e2, _, hD2, by rw [List.length_map, List.length_map, List.length_take]; exact small1000 (by omega), Evl.Ex.mut e2 (Evl.fresh_back e1 hD'), ?_⟩
            rw [upd_same, List.take_add_one, (show xs[i]? = some y from hy), List.map_append, List.map_append]
            rfl
          · rintro H2 ⟨e2, hD2⟩
            rw [List.take_length] at hD2
            refine ⟨D', _, rfl, hD2, fun H3 e3 => ?_⟩
            have e4 := e2.trans e3
            rcases hc with ⟨hf, k⟩ | ⟨n, hf, hB⟩
            · rw [hf]
              refine ⟨_, rfl, rfl, _, rfl, iteF ?_⟩
              exact ⟨_, rfl, a, _, rfl, .inl ⟨Ex.lst e4 ha, fun l hl => k _ l (e4.trans (Ex.new hl)) upd_same⟩⟩
            · rw [hf]
              refine ⟨_, rfl, rfl, _, rfl, iteT ?_⟩
              exact ⟨_, rfl, _, rfl, fun d hd => hB.go e4 hd⟩
        · refine .inr ⟨_, rfl, a, rfl, ⟨_, Ex.tup e1 ha⟩, fun D' hD' => lc_it walk_tup (fun i H' => Ex H H' ∧ H' D' = some (.lst (((xs.take i).map isI).map V.bl))) ⟨e1.trans (Ex.new hD'), upd_same⟩ (fun i H' _ q => Ex.tup q.1 ha) ?_ ?_⟩
          · rintro i y H2 H3 hi ⟨e2, hD2⟩ ⟨rfl, hy⟩
            refine ⟨rfl, tYesI ?_⟩
            refine ⟨_, rfl, _, rfl, (hkx y (List.mem_of_getElem? hy)).ex e2, _, hD2, by rw [List.length_map, List.length_map, List.length_take]; exact small1000 (by omega), Evl.Ex.mut e2 (Evl.fresh_back e1 hD'), ?_⟩
            rw [upd_same, List.take_add_one, (show xs[i]? = some y from hy), List.map_append, List.map_append]
            rfl
          · rintro H2 ⟨e2, hD2⟩
            rw [List.take_length] at hD2
            refine ⟨D', _, rfl, hD2, fun H3 e3 => ?_⟩
            have e4 := e2.trans e3
            rcases hc with ⟨hf, k⟩ | ⟨n, hf, hB⟩
            · rw [hf]
              refine ⟨_, rfl, rfl, _, rfl, iteF ?_⟩
              exact ⟨_, rfl, a, _, rfl, .inr ⟨Ex.tup e4 ha, k _ a e4 (e4 _ _ ha)⟩⟩
            · rw [hf]
              refine ⟨_, rfl, rfl, _, rfl, iteT ?_⟩
              exact ⟨_, rfl, _, rfl, fun d hd => hB.go e4 hd⟩
      · refine iteT' (by rw [decide_eq_false (fun z => hlen (by injection z with z; omega))]; rfl) ?_
        exact ⟨_, rfl, _, rfl, fun d hd => hB.go e1 hd⟩
end
end K00


set_option Elab.async false
set_option linter.all false
set_option maxRecDepth 100000
set_option maxHeartbeats 4000000
namespace K00
open PySem PySem.Spec PyProof.Rows L2
open Evl (Ex)
/-- the cover is as the kind wants it -/
def okAt (kd : Str) (c d : Int) : Bool := if kd = "lap" then decide (d ≤ c) else decide (c = d)
def okRow (kd : Str) : List Int → List Int → List Bool
  | c :: C, d :: D => okAt kd c d :: okRow kd C D
  | _, _ => []
theorem okRow_get (kd : Str) : ∀ (C D : List Int) (i : Nat) (c d : Int), C[i]? = some c → D[i]? = some d → (okRow kd C D)[i]? = some (okAt kd c d)
  | [], _, i, c, d, h, _ => by simp at h
  | _ :: _, [], i, c, d, _, h => by simp at h
  | c :: C, d :: D, 0, _, _, h1, h2 => by cases h1; cases h2; rfl
  | c :: C, d :: D, i + 1, x, y, h1, h2 => okRow_get kd C D i x y h1 h2
theorem okRow_len (kd : Str) : ∀ (C D : List Int), C.length = D.length → (okRow kd C D).length = C.length
  | [], [], _ => rfl
  | [], _ :: _, h => by cases h
  | _ :: _, [], h => by cases h
  | c :: C, d :: D, h => by
    show (okRow kd C D).length + 1 = C.length + 1
    rw [okRow_len kd C D (Nat.succ.inj h)]
section
variable {w : World} {K : PySem.W.Frag} {mg : Str → Option Value} {base : Heap}
def spFits (K : PySem.W.Frag) : Sp := fun vs H Q _ => ∃ (x : Addr) (kd : Str) (s : Int) (us : List V) (rs : List (Int × Int)) (ns : List Int) (c d : Int), vs = [.ref x, .int c, .int d] ∧ Mkt K H x kd s us rs ns ∧ Q (.bl (okAt kd c d)) H
theorem sc_fits_place : FnScope ["market", "count", "wanted"] ["market", "count", "wanted"] (defScope s_fits_place) := ⟨rfl, rfl, rfl, by decide +kernel, rfl, by decide +kernel, by decide +kernel⟩
theorem has_fits_place (T : Ctx K mg) : Has w K mg base CX0 "fits_place" 2 ["market", "count", "wanted"] (spFits K) := by
  obtain ⟨f1, fd1, m1, kp1, F1, b1⟩ := has_is_lap (w := w) (base := base) T
  refine has_of (st := s_fits_place) (f := He.ga K "fits_place") T.d_fits_place T.g_fits_place (fun _ _ _ _ _ _ us hl => match us, hl with | [_, _, _], _ => rfl) fun fd F => ?_
  refine ok0 F sc_fits_place (fun vs H Q E h => ?_) (fun cdv A outer s0 H vs Q E hr h => ?_)
  · obtain ⟨x, kd, s, us, rs, ns, c, d, rfl, _⟩ := h
    rfl
  · obtain ⟨x, kd, s, us, rs, ns, c, d, rfl, M, k⟩ := h
    refine ⟨_, pss_cons (ps_if (pt_val (pe_call F1 hr (by rfl) m1 kp1 b1 .nil pass0 (pa_cons (pv 0) pa_nil))) (pss_one (ps_ret (pe_cmpR op_ge (pv 1) (pv 2) (nomark _)))) pss_nil)
      (pss_one (ps_ret (pe_cmpR op_eq (pv 1) (pv 2) (nomark _)))), ?_⟩
    refine ⟨_, rfl, x, kd, s, us, rs, ns, rfl, M, _, rfl, ?_⟩
    unfold okAt at k
    by_cases hk : kd = "lap"
    · rw [if_pos hk] at k
      exact iteT' (decide_eq_true hk) ⟨_, rfl, _, rfl, _, _, rfl, rfl, k⟩
    · rw [if_neg hk] at k
      refine iteF' (decide_eq_false hk) ⟨_, rfl, _, rfl, rfl, ?_⟩
      have e : decide (V.int c = V.int d) = decide (c = d) := decide_eq_decide.mpr ⟨fun z => by injection z, fun z => by rw [z]⟩
      show Q (V.bl (decide (V.int c = V.int d))) H
      rw [e]
      exact k
def spWrong (K : PySem.W.Frag) : Sp := fun vs H Q _ => ∃ (x a c : Addr) (kd : Str) (s : Nat) (us : List V) (rs : List (Int × Int)) (ns D ps : List Int), vs = [.ref x, .ref a, .ref c] ∧ Mkt K H x kd (s : Int) us rs ns ∧ s ≤ 50 ∧ (∀ r ∈ rs, Fits s r) ∧ H a = some (.tup (D.map V.int)) ∧ D.length = s ∧ H c = some (.tup (ps.map V.int)) ∧ (∀ n ∈ ps, 0 ≤ n ∧ n < rs.length) ∧
  ∀ H', Ex H H' → Q (fw (okRow kd (covL s rs ps) D)) H'
theorem sc_wrong_place : FnScope ["market", "wanted", "chosen", "pairs", "count", "number"] ["market", "wanted", "chosen"] (defScope s_wrong_place) := ⟨rfl, rfl, rfl, by decide +kernel, rfl, by decide +kernel, by decide +kernel⟩
theorem has_wrong_place (T : Ctx K mg) : Has w K mg base CX0 "wrong_place" 3 ["market", "wanted", "chosen"] (spWrong K) := by
  obtain ⟨f1, fd1, m1, kp1, F1, b1⟩ := has_covered (w := w) (base := base) T
  obtain ⟨f2, fd2, m2, kp2, F2, b2⟩ := has_first_wrongG (w := w) (base := base) T
  obtain ⟨f3, fd3, m3, kp3, F3, b3⟩ := has_fits_place (w := w) (base := base) T
  refine has_of (st := s_wrong_place) (f := He.ga K "wrong_place") T.d_wrong_place T.g_wrong_place (fun _ _ _ _ _ _ us hl => match us, hl with | [_, _, _], _ => rfl) fun fd F => ?_
  refine ok0 F sc_wrong_place (fun vs H Q E h => ?_) (fun cdv A outer s0 H vs Q E hr h => ?_)
  · obtain ⟨x, a, c, kd, s, us, rs, ns, D, ps, rfl, _⟩ := h
    rfl
  · obtain ⟨x, a, c, kd, s, us, rs, ns, D, ps, rfl, M, hs50, hF, ha, hDl, hc, inn, k⟩ := h
    have nd := sc_wrong_place.nd
    have hr1 := hr.mono (show 1 ≤ 2 by decide)
    refine ⟨_, pss_cons (ps_set (i := 3) nd rfl (.inl rfl) (pe_lstZip rfl (by rfl) T.b_list (by decide +kernel) (by rfl) T.b_zip (pa_cons (pe_call F1 hr1 (by rfl) m1 kp1 b1 .nil pass0 (pa_cons (pv 0) (pa_cons (pv 2) pa_nil))) (pa_cons (pv 1) pa_nil))))
      (pss_one (ps_ret (pe_call F2 hr1 (by rfl) m2 kp2 b2 .nil pass0 (pa_cons
        (pe_lc (own := [("count", 4), ("number", 5)]) (g := gTup K 2 (gCons (gName 4) (gCons (gName 5) gNil))) (tt := tYes) rfl nd (pi_list (pv 3)) (blkOk_by (own := [("count", 4), ("number", 5)]) (N := ["market", "wanted", "chosen", "pairs", "count", "number"]) (sc := defScope s_wrong_place) (by decide +kernel))
          (fun _ _ _ _ _ => gTupK rfl (pg_tup (by rfl) (pgs_cons (pg_name (i := 4) nd rfl (.inl rfl)) (pgs_cons (pg_name (i := 5) nd rfl (.inl rfl)) pgs_nil)))) (fun _ _ _ _ _ => pts_nil)
          (fun _ _ _ _ _ => pe_call F3 hr (by rfl) m3 kp3 b3 .nil pass0 (pa_cons (pv 0) (pa_cons (pv 4) (pa_cons (pv 5) pa_nil))))) pa_nil)))), ?_⟩
    refine ⟨_, rfl, _, rfl, x, c, kd, s, us, rs, ns, ps, rfl, M, hs50, hF, hc, inn, fun H1 q e1 hq hq1 => ?_⟩
    have hcl : (covL s rs ps).length = s := by unfold covL; exact row_len _ _
    refine ⟨_, rfl, q, a, _, _, rfl, SqT.of hq1, SqT.of (e1 _ _ ha), by rw [List.length_map, List.length_map, hcl, hDl], fun H2 p ts e2 hp hl hp2 hts => ?_⟩
    have e12 : Ex H H2 := e1.trans e2
    rw [List.length_map, hcl] at hl
    refine ⟨_, rfl, p, rfl, ⟨_, SqL.of hp2⟩, fun D' hD' => lc_it walk_list (fun i H' => Ex H2 H' ∧ H' D' = some (.lst (((okRow kd (covL s rs ps) D).take i).map V.bl))) ⟨Ex.new hD', upd_same⟩ (fun i H' _ z => Ex.lst z.1 hp2) ?_ ?_⟩
    · rintro i y H3 H4 hi ⟨e3, hD3⟩ ⟨rfl, hy⟩
      rw [List.length_map, hl] at hi
      obtain ⟨t, ht, rfl⟩ : ∃ t, ts[i]? = some t ∧ y = .ref t := by
        have hy2 : (ts.map V.ref)[i]? = some y := hy
        rw [List.getElem?_map] at hy2
        cases cc : ts[i]? with
        | none => rw [cc] at hy2; cases hy2
        | some t => rw [cc] at hy2; cases hy2; exact ⟨t, rfl, rfl⟩
      have hC : (covL s rs ps)[i]? = some ((covL s rs ps)[i]'(by omega)) := List.getElem?_eq_getElem (by omega)
      have hDi : D[i]? = some (D[i]'(by omega)) := List.getElem?_eq_getElem (by omega)
      generalize ((covL s rs ps)[i]'(by omega)) = cv at hC
      generalize (D[i]'(by omega)) = dv at hDi
      have htt := e3 _ _ (hts i t (.int cv) (.int dv) ht (by rw [List.getElem?_map, hC]; rfl) (by rw [List.getElem?_map, hDi]; rfl))
      refine ⟨t, _, rfl, SqT.of htt, rfl, _, _, rfl, _, _, rfl, rfl, ?_⟩
      refine ⟨rfl, tYesI ?_⟩
      refine ⟨_, rfl, _, rfl, _, rfl, x, kd, s, us, rs, ns, cv, dv, rfl, (M.ex e12).ex e3, ?_⟩
      refine ⟨_, hD3, ?_, Evl.Ex.mut e3 hD', ?_⟩
      · rw [List.length_map, List.length_take]
        exact small1000 (by omega)
      · rw [upd_same, List.take_add_one, okRow_get kd _ _ i cv dv hC hDi, List.map_append]
        rfl
    · rintro H3 ⟨e3, hD3⟩
      rw [List.length_map, hl, List.take_of_length_le (by rw [okRow_len kd _ _ (by rw [hcl, hDl]), hcl]; exact Nat.le_refl _)] at hD3
      exact ⟨D', _, rfl, hD3, fun H4 e4 => k H4 ((e12.trans e3).trans e4)⟩
/-! ### is_stock -/
def stockB (kd : Str) (s : Nat) (rs : List (Int × Int)) (ns D ps : List Int) : Bool := !(ps.any fun p => decide (p ∈ ns)) && (okRow kd (covL s rs ps) D).all id
theorem inV_ints (p : Int) : ∀ ns : List Int, inV (.int p) (ns.map V.int) = decide (p ∈ ns)
  | [] => by simp [inV]
  | n :: ns => by
    have ih := inV_ints p ns
    unfold inV at ih ⊢
    rw [List.map_cons, List.any_cons, ih]
    show ((n == p) || decide (p ∈ ns)) = _
    rw [Bool.eq_iff_iff]
    simp only [Bool.or_eq_true, beq_iff_eq, decide_eq_true_eq, List.mem_cons]
    exact ⟨fun z => z.imp Eq.symm id, fun z => z.imp Eq.symm id⟩
theorem flat_ints (ns : List Int) : (ns.map V.int).all flatV = true := List.all_eq_true.mpr fun v hv => by
  obtain ⟨n, _, rfl⟩ := List.mem_map.mp hv
  rfl
theorem op_inK {X : Cx} (h : X.K = K) : OpR X (compareOp .In) (rIn K false) := by
  subst h
  exact op_in_seq
theorem pe_fldK {X : Cx} (h : X.K = K) {e : Expr} {f : Str} {ta : TE} {pos : Pos} (he : PE X e ta) (hab : attributeBase e f X.env (eval e X.env) = eval e X.env) : PE X (.Attribute e f pos) (tFld K ta f) := by
  subst h
  exact pe_fld he hab
def spStockOf (K : PySem.W.Frag) : Sp := fun vs H Q _ => ∃ (x a c : Addr) (kd : Str) (s : Nat) (us : List V) (rs : List (Int × Int)) (ns D ps : List Int), vs = [.ref x, .ref a, .ref c] ∧ Mkt K H x kd (s : Int) us rs ns ∧ s ≤ 50 ∧ (∀ r ∈ rs, Fits s r) ∧ H a = some (.tup (D.map V.int)) ∧ D.length = s ∧ H c = some (.tup (ps.map V.int)) ∧ (∀ n ∈ ps, 0 ≤ n ∧ n < rs.length) ∧ ps.length ≤ 100 ∧
  ∀ H', Ex H H' → Q (.bl (stockB kd s rs ns D ps)) H'
theorem sc_is_stock_of : FnScope ["market", "wanted", "chosen", "part"] ["market", "wanted", "chosen"] (defScope s_is_stock_of) := ⟨rfl, rfl, rfl, by decide +kernel, rfl, by decide +kernel, by decide +kernel⟩
theorem has_is_stock_of (T : Ctx K mg) : Has w K mg base CX0 "is_stock_of" 4 ["market", "wanted", "chosen"] (spStockOf K) := by
  obtain ⟨f1, fd1, m1, kp1, F1, b1⟩ := has_wrong_place (w := w) (base := base) T
  refine has_of (st := s_is_stock_of) (f := He.ga K "is_stock_of") T.d_is_stock_of T.g_is_stock_of (fun _ _ _ _ _ _ us hl => match us, hl with | [_, _, _], _ => rfl) fun fd F => ?_
  refine ok0 F sc_is_stock_of (fun vs H Q E h => ?_) (fun cdv A outer s0 H vs Q E hr h => ?_)
  · obtain ⟨x, a, c, kd, s, us, rs, ns, D, ps, rfl, _⟩ := h
    rfl
  · obtain ⟨x, a, c, kd, s, us, rs, ns, D, ps, rfl, M, hs50, hF, ha, hDl, hc, inn, hpl, k⟩ := h
    obtain ⟨C, dx, pr, pg, hM, h1, h2, h3⟩ := M.ob
    have nd := sc_is_stock_of.nd
    refine ⟨_, pss_cons (ps_if (pt_val (pe_callB (cr_any rfl) (by rfl) T.b_any (by decide +kernel) (pa_cons
        (pe_lc (own := [("part", 3)]) (g := gName 3) (tt := tYes) rfl nd (pi_tup (pv 2)) (blkOk_by (own := [("part", 3)]) (N := ["market", "wanted", "chosen", "part"]) (sc := defScope s_is_stock_of) (by decide +kernel)) (fun _ _ _ _ _ => pg_name (i := 3) nd rfl (Or.inl rfl)) (fun _ _ _ _ _ => pts_nil)
          (fun _ _ _ _ _ => pe_cmpR (op_inK (K := K) rfl) (pv 3) (pe_fldK (K := K) rfl (pv 0) rfl) (by rfl))) pa_nil))) (pss_one (ps_ret pe_bl)) pss_nil)
      (pss_one (ps_ret (pe_cmpR op_isN (pe_call F1 hr (by rfl) m1 kp1 b1 .nil pass0 (pa_cons (pv 0) (pa_cons (pv 1) (pa_cons (pv 2) pa_nil)))) pe_non (nomark _)))), ?_⟩
    refine ⟨_, rfl, c, rfl, ⟨_, SqT.of hc⟩, fun D' hD' => lc_it walk_tup (fun i H' => Ex H H' ∧ H' D' = some (.lst (((ps.take i).map fun p => decide (p ∈ ns)).map V.bl))) ⟨Ex.new hD', upd_same⟩ (fun i H' _ z => Ex.tup z.1 hc) ?_ ?_⟩
    · rintro i y H3 H4 hi ⟨e3, hD3⟩ ⟨rfl, hy⟩
      obtain ⟨p, hp, rfl⟩ := map_int_get hy
      have hil : i < ps.length := (List.getElem?_eq_some_iff.mp hp).1
      refine ⟨rfl, tYesI ?_⟩
      refine ⟨_, rfl, _, rfl, x, C, dx, _, _, rfl, e3 _ _ h1, hM.cl T, hM.nG T, mf_gone _ _ _, ?_⟩
      refine ⟨pg, _, rfl, .inr (SqT.of (e3 _ _ h3)), rfl, flat_ints ns, ?_⟩
      rw [inV_ints]
      refine ⟨_, hD3, ?_, Evl.Ex.mut e3 hD', ?_⟩
      · rw [List.length_map, List.length_map, List.length_take]
        exact small1000 (by omega)
      · rw [upd_same, List.take_add_one, hp, List.map_append, List.map_append]
        rfl
    · rintro H3 ⟨e3, hD3⟩
      rw [List.length_map, List.take_length] at hD3
      refine ⟨D', _, rfl, SqL.of hD3, _, rfl, ?_⟩
      have ea : ((ps.map fun p => decide (p ∈ ns)).any id) = ps.any fun p => decide (p ∈ ns) := by
        rw [List.any_map]
        rfl
      rw [ea]
      unfold stockB at k
      cases hg : ps.any fun p => decide (p ∈ ns) with
      | true =>
        rw [hg] at k
        exact iteT (k _ e3)
      | false =>
        rw [hg] at k
        refine iteF ?_
        refine ⟨_, rfl, _, rfl, _, rfl, x, a, c, kd, s, us, rs, ns, D, ps, rfl, M.ex e3, hs50, hF, e3 _ _ ha, hDl, e3 _ _ hc, inn, fun H4 e4 => ?_⟩
        refine ⟨rfl, ?_⟩
        rw [fw_iff]
        exact k _ (e3.trans e4)
theorem Ord.inn {ns ms : List Int} {m : Int} (o : Ord ns ms) (P : Parts m ns) : ∀ n ∈ ms, 0 ≤ n ∧ n < m := fun n hn => P.inn n ((o.mem n).mp hn)
theorem asc_nodup {ms : List Int} (h : ms.Pairwise (· < ·)) : ms.Nodup := h.imp fun z => Int.ne_of_lt z
theorem Ord.perm {ns ms : List Int} {m : Int} (o : Ord ns ms) (P : Parts m ns) : ms.Perm ns := (List.perm_ext_iff_of_nodup (asc_nodup o.asc) P.nd).mpr o.mem
theorem pE {X : Cx} {E : XK} (hX : X.prog = PP) (hw : X.w = w) (tk : Takes X (fun cls d _ H => E cls d H)) : Passes (L2.CX PP w) X E := by
  rw [← hX, ← hw]
  exact passes_call tk (fun _ _ _ _ h => h)
/-- no set of m parts; the first wrong place, -1 for the form -/
def SetBad (H : Hp) (m : Int) (v : V) (n : Int) : Prop :=
  (∃ (a : Addr) (ns : List Int) (y : V) (ys : List V), v = .ref a ∧ H a = some (.lst (ns.map V.int ++ y :: ys)) ∧ Parts m ns ∧ (∀ z ∈ ys, Kd H z) ∧ Kd H y ∧ (inB y 0 (m - 1) = false ∨ ∃ n ∈ ns, y = .int n) ∧ n = (ns.length : Nat)) ∨ (Kd H v ∧ isR v = false ∧ n = -1)
theorem SetBad.ex {H H1 : Hp} {m : Int} {v : V} {n : Int} (h : SetBad H m v n) (e : Ex H H1) : SetBad H1 m v n := by
  rcases h with ⟨a, ns, y, ys, rfl, ha, P, hys, hy, hw, rfl⟩ | ⟨a, b, rfl⟩
  · exact .inl ⟨a, ns, y, ys, rfl, e _ _ ha, P, fun z hz => (hys z hz).ex e, hy.ex e, hw, rfl⟩
  · exact .inr ⟨a.ex e, b, rfl⟩
theorem SetBad.alt {H H1 : Hp} {m : Int} {v : V} {n : Int} {E : XK} (h : SetBad H m v n) (e : Ex H H1) (hb : Bad K H1 E n) :
    (∃ a ns y ys, v = .ref a ∧ H1 a = some (.lst (ns.map V.int ++ y :: ys)) ∧ Parts m ns ∧ (∀ z ∈ ys, Kd H1 z) ∧ Kd H1 y ∧ (inB y 0 (m - 1) = false ∨ ∃ n ∈ ns, y = .int n) ∧ Bad K H1 E ns.length) ∨ (Kd H1 v ∧ isR v = false ∧ Bad K H1 E (-1)) := by
  rcases h with ⟨a, ns, y, ys, rfl, ha, P, hys, hy, hw, rfl⟩ | ⟨a, b, rfl⟩
  · exact .inl ⟨a, ns, y, ys, rfl, e _ _ ha, P, fun z hz => (hys z hz).ex e, hy.ex e, hw, hb⟩
  · exact .inr ⟨a.ex e, b, hb⟩
/-- a def that takes a market, a demand and a set -/
def spDP (K : PySem.W.Frag) (ok : Str → Nat → List (Int × Int) → List Int → List Int → List Int → Hp → VK → XK → Prop) : Sp := fun vs H Q E => ∃ (x : Addr) (kd : Str) (s : Nat) (us : List V) (rs : List (Int × Int)) (gs : List Int) (v p : V), vs = [.ref x, v, p] ∧ Mkt K H x kd (s : Int) us rs gs ∧ s ≤ 50 ∧ (∀ r ∈ rs, Fits s r) ∧ us.length < 60 ∧
  ((∃ D ps, Dem H s v D ∧ RowI H p ps ∧ Parts us.length ps ∧ ∀ ms, Ord ps ms → ok kd s rs gs D ms H Q E) ∨ (∃ n, DemBad H s v n ∧ BadD K H E n) ∨ (∃ D n, Dem H s v D ∧ SetBad H us.length p n ∧ Bad K H E n))
/-! ### is_stock -/
def okStock : Str → Nat → List (Int × Int) → List Int → List Int → List Int → Hp → VK → XK → Prop := fun kd s rs gs D ms H Q E => ∀ H', Ex H H' → Q (.bl (stockB kd s rs gs D ms)) H'
theorem sc_is_stock : FnScope ["market", "demand", "parts", "wanted"] ["market", "demand", "parts"] (defScope s_is_stock) := ⟨rfl, rfl, rfl, by decide +kernel, rfl, by decide +kernel, by decide +kernel⟩
theorem has_is_stock (T : Ctx K mg) : Has w K mg base (L2.CX PP w) "is_stock" 5 ["market", "demand", "parts"] (spDP K okStock) := by
  obtain ⟨f1, fd1, m1, kp1, F1, b1⟩ := has_demand_of (w := w) (base := base) T
  obtain ⟨f2, fd2, m2, kp2, F2, b2⟩ := has_is_stock_of (w := w) (base := base) T
  obtain ⟨f3, fd3, m3, kp3, F3, b3⟩ := has_set (w := w) (base := base) T
  refine has_of (st := s_is_stock) (f := He.ga K "is_stock") T.d_is_stock T.g_is_stock (fun _ _ _ _ _ _ us hl => match us, hl with | [_, _, _], _ => rfl) fun fd F => ?_
  refine okX F sc_is_stock (fun vs H Q E h => ?_) (fun cdv A outer s0 H vs Q E hr h => ?_)
  · obtain ⟨x, kd, s, us, rs, gs, v, p, rfl, _⟩ := h
    rfl
  · obtain ⟨x, kd, s, us, rs, gs, v, p, rfl, M, hs50, hF, hu60, hcase⟩ := h
    have nd := sc_is_stock.nd
    refine ⟨_, pss_cons (ps_set (i := 3) nd rfl (.inl rfl) (pe_call F1 (hr.mono (show 2 ≤ 4 by decide)) (by rfl) m1 kp1 b1 .nil (E := E) (pE rfl rfl (takes_of rfl rfl rfl rfl)) (pa_cons (pv 0) (pa_cons (pv 1) pa_nil))))
      (pss_one (ps_ret (pe_call F2 hr (by rfl) m2 kp2 b2 .nil pass0 (pa_cons (pv 0) (pa_cons (pv 3) (pa_cons (pe_call F3 (hr.mono (show 3 ≤ 4 by decide)) (by rfl) m3 kp3 b3 .nil (E := E) (pE rfl rfl (takes_of rfl rfl rfl rfl)) (pa_cons (pe_many T rfl rfl rfl rfl (pv 0) hr (by decide) rfl) (pa_cons (pv 2) pa_nil))) pa_nil)))))), ?_⟩
    refine ⟨_, rfl, _, rfl, x, kd, s, us, rs, gs, v, rfl, M, hs50, ?_⟩
    rcases hcase with ⟨D, ps, hD, hp, hP, k⟩ | ⟨n, hn, hB⟩ | ⟨D, n, hD, hn, hB⟩
    · refine .inl ⟨D, hD, fun H1 q e1 hq1 => ?_⟩
      have hul := M.runs.len
      refine ⟨_, rfl, _, rfl, _, rfl, x, kd, s, us, rs, gs, rfl, M.ex e1, _, rfl, us.length, p, rfl, by omega, .inl ⟨ps, hp.ex e1, hP, fun ms H2 q2 ho e2 hq2 hq3 => ?_⟩⟩
      have hlm := (ho.perm hP).length_eq
      have few := hP.few
      have inn : ∀ n ∈ ms, 0 ≤ n ∧ n < (rs.length : Int) := fun n hn => by have := ho.inn hP n hn; omega
      have e12 := e1.trans e2
      exact ⟨x, q, q2, kd, s, us, rs, gs, D, ms, rfl, (M.ex e1).ex e2, hs50, hF, e2 _ _ hq1, hD.len, hq3, inn, by omega, fun H3 e3 => k ms ho H3 (e12.trans e3)⟩
    · exact .inr ⟨n, hn, hB⟩
    · refine .inl ⟨D, hD, fun H1 q e1 hq1 => ?_⟩
      refine ⟨_, rfl, _, rfl, _, rfl, x, kd, s, us, rs, gs, rfl, M.ex e1, _, rfl, us.length, p, rfl, by omega, .inr (hn.alt e1 (hB.ex e1))⟩
/-! ### misfit_place -/
def okMisfit : Str → Nat → List (Int × Int) → List Int → List Int → List Int → Hp → VK → XK → Prop := fun kd s rs gs D ms H Q E => ∀ H', Ex H H' → Q (fw (okRow kd (covL s rs ms) D)) H'
theorem sc_misfit_place : FnScope ["market", "demand", "parts", "wanted"] ["market", "demand", "parts"] (defScope s_misfit_place) := ⟨rfl, rfl, rfl, by decide +kernel, rfl, by decide +kernel, by decide +kernel⟩
theorem has_misfit_place (T : Ctx K mg) : Has w K mg base (L2.CX PP w) "misfit_place" 4 ["market", "demand", "parts"] (spDP K okMisfit) := by
  obtain ⟨f1, fd1, m1, kp1, F1, b1⟩ := has_demand_of (w := w) (base := base) T
  obtain ⟨f2, fd2, m2, kp2, F2, b2⟩ := has_wrong_place (w := w) (base := base) T
  obtain ⟨f3, fd3, m3, kp3, F3, b3⟩ := has_set (w := w) (base := base) T
  refine has_of (st := s_misfit_place) (f := He.ga K "misfit_place") T.d_misfit_place T.g_misfit_place (fun _ _ _ _ _ _ us hl => match us, hl with | [_, _, _], _ => rfl) fun fd F => ?_
  refine okX F sc_misfit_place (fun vs H Q E h => ?_) (fun cdv A outer s0 H vs Q E hr h => ?_)
  · obtain ⟨x, kd, s, us, rs, gs, v, p, rfl, _⟩ := h
    rfl
  · obtain ⟨x, kd, s, us, rs, gs, v, p, rfl, M, hs50, hF, hu60, hcase⟩ := h
    have nd := sc_misfit_place.nd
    refine ⟨_, pss_cons (ps_set (i := 3) nd rfl (.inl rfl) (pe_call F1 (hr.mono (show 2 ≤ 3 by decide)) (by rfl) m1 kp1 b1 .nil (E := E) (pE rfl rfl (takes_of rfl rfl rfl rfl)) (pa_cons (pv 0) (pa_cons (pv 1) pa_nil))))
      (pss_one (ps_ret (pe_call F2 hr (by rfl) m2 kp2 b2 .nil pass0 (pa_cons (pv 0) (pa_cons (pv 3) (pa_cons (pe_call F3 (hr.mono (show 3 ≤ 3 by decide)) (by rfl) m3 kp3 b3 .nil (E := E) (pE rfl rfl (takes_of rfl rfl rfl rfl)) (pa_cons (pe_many T rfl rfl rfl rfl (pv 0) hr (by decide) rfl) (pa_cons (pv 2) pa_nil))) pa_nil)))))), ?_⟩
    refine ⟨_, rfl, _, rfl, x, kd, s, us, rs, gs, v, rfl, M, hs50, ?_⟩
    rcases hcase with ⟨D, ps, hD, hp, hP, k⟩ | ⟨n, hn, hB⟩ | ⟨D, n, hD, hn, hB⟩
    · refine .inl ⟨D, hD, fun H1 q e1 hq1 => ?_⟩
      have hul := M.runs.len
      refine ⟨_, rfl, _, rfl, _, rfl, x, kd, s, us, rs, gs, rfl, M.ex e1, _, rfl, us.length, p, rfl, by omega, .inl ⟨ps, hp.ex e1, hP, fun ms H2 q2 ho e2 hq2 hq3 => ?_⟩⟩
      have hlm := (ho.perm hP).length_eq
      have few := hP.few
      have inn : ∀ n ∈ ms, 0 ≤ n ∧ n < (rs.length : Int) := fun n hn => by have := ho.inn hP n hn; omega
      have e12 := e1.trans e2
      exact ⟨x, q, q2, kd, s, us, rs, gs, D, ms, rfl, (M.ex e1).ex e2, hs50, hF, e2 _ _ hq1, hD.len, hq3, inn, fun H3 e3 => k ms ho H3 (e12.trans e3)⟩
    · exact .inr ⟨n, hn, hB⟩
    · refine .inl ⟨D, hD, fun H1 q e1 hq1 => ?_⟩
      refine ⟨_, rfl, _, rfl, _, rfl, x, kd, s, us, rs, gs, rfl, M.ex e1, _, rfl, us.length, p, rfl, by omega, .inr (hn.alt e1 (hB.ex e1))⟩
end
end K00


set_option Elab.async false
set_option linter.all false
set_option maxRecDepth 100000
set_option maxHeartbeats 4000000
namespace L2
open PySem PySem.Spec PyProof.Rows RZ
theorem walk_zipT {K : PySem.W.Frag} {a b : Addr} {t u : List V} (hl : t.length = u.length) : Walk (ItzT K a b) t.length (fun H => SqT K H a t ∧ SqT K H b u) (YPair (fun i => t[i]?) (fun i => u[i]?)) := by
  constructor
  · intro i H hi q
    exact ⟨t, u, t[i], u[i]'(by omega), q.1, q.2, List.getElem?_eq_getElem hi, List.getElem?_eq_getElem (by omega)⟩
  · intro H q
    exact ⟨t, u, q.1, q.2, .inl (Nat.le_refl _)⟩
  · rintro i H v H' hi q ⟨T, x, y, e1, e2, e3, f1, f2⟩
    exact ⟨T, x, y, e1, e2, e3, f1 t q.1, f2 u q.2⟩
end L2
namespace K00
open PySem PySem.Spec PyProof.Rows L2 RZ StX
open Evl (Ex)
theorem sz1000 {n : Nat} (h : n ≤ 1000) : n ≤ sizeLine := Nat.le_trans h (by decide)
theorem fw_cases (bs : List Bool) : fw bs = .non ∨ ∃ n : Nat, fw bs = .int n := by
  unfold fw
  cases bs.findIdx? (fun b => !b) with
  | none => exact .inl rfl
  | some n => exact .inr ⟨n, rfl⟩
section
variable {w : World} {K : PySem.W.Frag} {mg : Str → Option Value} {base : Heap}
theorem ix_tupK {X : Cx} (h : X.K = K) : IxR X (rIxT K) := by
  subst h
  exact ix_tup
/-! ### begins -/
def begL (D : List Int) : List Int := (List.range (D.length + 1)).map fun j => (D ++ [0]).getD j 0 - (0 :: D).getD j 0
def spBeginsOf : Sp := fun vs H Q _ => ∃ (a : Addr) (D : List Int), vs = [.ref a] ∧ H a = some (.tup (D.map V.int)) ∧ D.length ≤ 100 ∧ ∀ H' q, Ex H H' → H' q = some (.tup ((begL D).map V.int)) → Q (.ref q) H'
theorem sc_begins_of : FnScope ["wanted", "before", "after", "number", "earlier"] ["wanted"] (defScope s_begins_of) := ⟨rfl, rfl, rfl, by decide +kernel, rfl, by decide +kernel, by decide +kernel⟩
theorem has_begins_of (T : Ctx K mg) : Has w K mg base CX0 "begins_of" 1 ["wanted"] spBeginsOf := by
  refine has_of (st := s_begins_of) (f := He.ga K "begins_of") T.d_begins_of T.g_begins_of (fun _ _ _ _ _ _ us hl => match us, hl with | [_], _ => rfl) fun fd F => ?_
  refine ok0 F sc_begins_of (fun vs H Q E h => ?_) (fun cdv A outer s0 H vs Q E hr h => ?_)
  · obtain ⟨a, D, rfl, _⟩ := h
    rfl
  · obtain ⟨a, D, rfl, ha, hl, k⟩ := h
    have nd := sc_begins_of.nd
    refine ⟨_, pss_cons (ps_set (i := 1) nd rfl (.inl rfl) (pe_tup (pa_cons pe_int (pa_star (pv 0) pa_nil))))
      (pss_cons (ps_set (i := 2) nd rfl (.inl rfl) (pe_tup (pa_star (pv 0) (pa_cons pe_int pa_nil))))
      (pss_one (ps_ret (pe_callTy call_tuple_of (by rfl) T.b_tuple (by decide +kernel) (pa_cons (pe_lc (own := [("number", 3), ("earlier", 4)]) (g := gTup K 2 (gCons (gName 3) (gCons (gName 4) gNil))) (tt := tYes) rfl nd (pi_zipA (by rfl) T.b_zip (pa_cons (pv 2) (pa_cons (pv 1) pa_nil)))
        (blkOk_by (own := [("number", 3), ("earlier", 4)]) (N := ["wanted", "before", "after", "number", "earlier"]) (sc := defScope s_begins_of) (by decide +kernel))
          (fun _ _ _ _ _ => gTupK rfl (pg_tup (by rfl) (pgs_cons (pg_name (i := 3) nd rfl (.inl rfl)) (pgs_cons (pg_name (i := 4) nd rfl (.inl rfl)) pgs_nil)))) (fun _ _ _ _ _ => pts_nil)
          (fun _ _ _ _ _ => pe_op op_sub (pv 3) (pv 4))) pa_nil))))), ?_⟩
    refine ⟨_, rfl, a, _, rfl, .inl (SqT.of ha), sz1000 (by simp; omega), fun b hb => ?_⟩
    have e1 : Ex H (upd H b (.tup (V.int 0 :: (D.map V.int ++ [])))) := Ex.new hb
    have hb1 : upd H b (.tup (V.int 0 :: (D.map V.int ++ []))) b = some (.tup ((0 :: D).map V.int)) := by rw [upd_same, List.append_nil]; rfl
    refine ⟨_, rfl, a, _, rfl, .inl (SqT.of (e1 _ _ ha)), sz1000 (by simp; omega), fun c hc => ?_⟩
    have e2 := Ex.new (o := .tup (D.map V.int ++ [V.int 0])) hc
    have hc2 : upd (upd H b (.tup (V.int 0 :: (D.map V.int ++ [])))) c (.tup (D.map V.int ++ [V.int 0])) c = some (.tup ((D ++ [0]).map V.int)) := by rw [upd_same, List.map_append]; rfl
    have hb2 := e2 _ _ hb1
    have e12 := e1.trans e2
    generalize upd (upd H b (.tup (V.int 0 :: (D.map V.int ++ [])))) c (.tup (D.map V.int ++ [V.int 0])) = H2 at *
    refine ⟨_, rfl, _, rfl, c, b, _, _, rfl, .inr ⟨SqT.of hc2, SqT.of hb2, fun A hA => lc_it (walk_zipT (by simp)) (fun i H' => Ex H2 H' ∧ H' A = some (.lst (((begL D).take i).map V.int))) ⟨Ex.new hA, upd_same⟩ (fun i H' _ q => ⟨Ex.tup q.1 hc2, Ex.tup q.1 hb2⟩) ?_ ?_⟩⟩
    · rintro i v H3 H4 hi ⟨e3, hA3⟩ ⟨t, x, y, rfl, ht, rfl, hx, hy⟩
      obtain ⟨p, hp, rfl⟩ := map_int_get hx
      obtain ⟨q, hq, rfl⟩ := map_int_get hy
      have hil : i < D.length + 1 := by simpa using hi
      have e4 : Ex H2 (upd H3 t (.tup [.int p, .int q])) := e3.trans (Ex.new ht)
      have hA4 := (Ex.new (o := .tup [.int p, .int q]) ht) _ _ hA3
      refine ⟨t, _, rfl, SqT.of upd_same, rfl, _, _, rfl, _, _, rfl, rfl, rfl, tYesI ?_⟩
      refine ⟨_, rfl, _, rfl, _, _, rfl, rfl, _, hA4, by rw [List.length_map, List.length_take]; exact small1000 (by omega), Evl.Ex.mut e4 hA, ?_⟩
      have hg : (begL D)[i]? = some (p - q) := by
        unfold begL
        rw [List.getElem?_map, List.getElem?_range hil]
        show some ((D ++ [0]).getD i 0 - (0 :: D).getD i 0) = _
        rw [List.getD_eq_getElem?_getD, List.getD_eq_getElem?_getD, hp, hq]
        rfl
      rw [upd_same, List.take_add_one, hg, List.map_append]
      rfl
    · rintro H3 ⟨e3, hA3⟩
      have hlen : (begL D).length = D.length + 1 := by unfold begL; simp
      have hz : ((D ++ [0]).map V.int).length = (begL D).length := by rw [hlen]; simp
      rw [hz, List.take_length] at hA3
      exact ⟨A, _, rfl, .inl ⟨SqL.of hA3, fun l hl => k _ l ((e12.trans e3).trans (Ex.new hl)) upd_same⟩⟩
def spBegins (K : PySem.W.Frag) : Sp := fun vs H Q E => ∃ (x : Addr) (kd : Str) (s : Nat) (us : List V) (rs : List (Int × Int)) (gs : List Int) (v : V), vs = [.ref x, v] ∧ Mkt K H x kd (s : Int) us rs gs ∧ s ≤ 50 ∧
  ((∃ D, Dem H s v D ∧ ∀ H' q, Ex H H' → H' q = some (.tup ((begL D).map V.int)) → Q (.ref q) H') ∨ (∃ n, DemBad H s v n ∧ BadD K H E n))
theorem sc_begins : FnScope ["market", "demand"] ["market", "demand"] (defScope s_begins) := ⟨rfl, rfl, rfl, by decide +kernel, rfl, by decide +kernel, by decide +kernel⟩
theorem has_begins (T : Ctx K mg) : Has w K mg base (L2.CX PP w) "begins" 3 ["market", "demand"] (spBegins K) := by
  obtain ⟨f1, fd1, m1, kp1, F1, b1⟩ := has_demand_of (w := w) (base := base) T
  obtain ⟨f2, fd2, m2, kp2, F2, b2⟩ := has_begins_of (w := w) (base := base) T
  refine has_of (st := s_begins) (f := He.ga K "begins") T.d_begins T.g_begins (fun _ _ _ _ _ _ us hl => match us, hl with | [_, _], _ => rfl) fun fd F => ?_
  refine okX F sc_begins (fun vs H Q E h => ?_) (fun cdv A outer s0 H vs Q E hr h => ?_)
  · obtain ⟨x, kd, s, us, rs, gs, v, rfl, _⟩ := h
    rfl
  · obtain ⟨x, kd, s, us, rs, gs, v, rfl, M, hs50, hcase⟩ := h
    refine ⟨_, pss_one (ps_ret (pe_call F2 (hr.mono (show 1 ≤ 2 by decide)) (by rfl) m2 kp2 b2 .nil pass0 (pa_cons (pe_call F1 hr (by rfl) m1 kp1 b1 .nil (E := E) (pE rfl rfl (takes_of rfl rfl rfl rfl)) (pa_cons (pv 0) (pa_cons (pv 1) pa_nil))) pa_nil))), ?_⟩
    refine ⟨_, rfl, _, rfl, x, kd, s, us, rs, gs, v, rfl, M, hs50, ?_⟩
    rcases hcase with ⟨D, hD, k⟩ | ⟨n, hn, hB⟩
    · exact .inl ⟨D, hD, fun H1 q e1 hq => ⟨q, D, rfl, hq, by have := hD.len; omega, fun H2 q2 e2 hq2 => k H2 q2 (e1.trans e2) hq2⟩⟩
    · exact .inr ⟨n, hn, hB⟩
/-! ### over -/
def overF (C D : List Int) (j : Nat) : Bool := decide (D.getD j 0 < C.getD j 0)
def overL (s : Nat) (C D : List Int) : List Int := ((List.range s).filter (overF C D)).map fun j : Nat => (j : Int)
theorem overL_len (s : Nat) (C D : List Int) : (overL s C D).length ≤ s := by
  unfold overL
  rw [List.length_map]
  exact Nat.le_trans (List.length_filter_le _ _) (by simp)
def spPlacesOver (K : PySem.W.Frag) : Sp := fun vs H Q _ => ∃ (x a c : Addr) (kd : Str) (s : Nat) (us : List V) (rs : List (Int × Int)) (ns D ps : List Int), vs = [.ref x, .ref a, .ref c] ∧ Mkt K H x kd (s : Int) us rs ns ∧ s ≤ 50 ∧ (∀ r ∈ rs, Fits s r) ∧ H a = some (.tup (D.map V.int)) ∧ D.length = s ∧ H c = some (.tup (ps.map V.int)) ∧ (∀ n ∈ ps, 0 ≤ n ∧ n < rs.length) ∧
  ∀ H' q, Ex H H' → H' q = some (.tup ((overL s (covL s rs ps) D).map V.int)) → Q (.ref q) H'
theorem sc_places_over : FnScope ["market", "wanted", "chosen", "counts", "place"] ["market", "wanted", "chosen"] (defScope s_places_over) := ⟨rfl, rfl, rfl, by decide +kernel, rfl, by decide +kernel, by decide +kernel⟩
theorem has_places_over (T : Ctx K mg) : Has w K mg base CX0 "places_over" 2 ["market", "wanted", "chosen"] (spPlacesOver K) := by
  obtain ⟨f1, fd1, m1, kp1, F1, b1⟩ := has_covered (w := w) (base := base) T
  refine has_of (st := s_places_over) (f := He.ga K "places_over") T.d_places_over T.g_places_over (fun _ _ _ _ _ _ us hl => match us, hl with | [_, _, _], _ => rfl) fun fd F => ?_
  refine ok0 F sc_places_over (fun vs H Q E h => ?_) (fun cdv A outer s0 H vs Q E hr h => ?_)
  · obtain ⟨x, a, c, kd, s, us, rs, ns, D, ps, rfl, _⟩ := h
    rfl
  · obtain ⟨x, a, c, kd, s, us, rs, ns, D, ps, rfl, M, hs50, hF, ha, hDl, hc, inn, k⟩ := h
    have nd := sc_places_over.nd
    refine ⟨_, pss_cons (ps_set (i := 3) nd rfl (.inr rfl) (pe_call F1 hr (by rfl) m1 kp1 b1 .nil pass0 (pa_cons (pv 0) (pa_cons (pv 2) pa_nil))))
      (pss_one (ps_ret (pe_callTy call_tuple_of (by rfl) T.b_tuple (by decide +kernel) (pa_cons (pe_lc (own := [("place", 4)]) (g := gName 4) rfl nd (pi_range1 (by rfl) T.b_range (pa_cons (pe_fldK (K := K) rfl (pv 0) rfl) pa_nil))
        (blkOk_by (own := [("place", 4)]) (N := ["market", "wanted", "chosen", "counts", "place"]) (sc := defScope s_places_over) (by decide +kernel)) (fun _ _ _ _ _ => pg_name (i := 4) nd rfl (Or.inl rfl))
        (fun _ _ _ _ _ => pts_one (pt_cmpR op_gt (pe_ix (ix_tupK (K := K) rfl) (pv 3) (pv 4) (fun _ _ => rfl)) (pe_ix (ix_tupK (K := K) rfl) (pv 1) (pv 4) (fun _ _ => rfl)) (nomark _))) (fun _ _ _ _ _ => pv 4)) pa_nil)))), ?_⟩
    refine ⟨_, rfl, _, rfl, x, c, kd, s, us, rs, ns, ps, rfl, M, hs50, hF, hc, inn, fun H1 q e1 hq0 hq1 => ?_⟩
    have M1 := M.ex e1
    obtain ⟨C, dx, pr, pg, hM, h1, h2, h3⟩ := M1.ob
    have ha1 := e1 _ _ ha
    have hcl : (covL s rs ps).length = s := by unfold covL rowOf; simp
    generalize covL s rs ps = cv at *
    refine ⟨_, rfl, x, C, dx, _, _, rfl, h1, hM.cl T, hM.nS T, mf_size _ _ _, _, rfl, by omega, by omega, fun A hA => lc_it walk_range (fun i H' => Ex H1 H' ∧ H' A = some (.lst ((overL i cv D).map V.int))) ⟨Ex.new hA, upd_same⟩ (fun _ _ _ _ => trivial) ?_ ?_⟩
    · rintro i v H3 H2 hi ⟨e2, hA2⟩ ⟨rfl, rfl⟩
      have his : i < s := by omega
      have g1 : cv[i]? = some (cv.getD i 0) := by rw [List.getD_eq_getElem?_getD, List.getElem?_eq_getElem (by omega)]; rfl
      have g2 : D[i]? = some (D.getD i 0) := by rw [List.getD_eq_getElem?_getD, List.getElem?_eq_getElem (by omega)]; rfl
      have at1 : ∀ (xs : List Int) (z : Int), xs[i]? = some z → atI (xs.map V.int) (0 + (i : Int)) = some (.int z) := fun xs z hz => by
        rw [Int.zero_add]
        exact atI_nat (by rw [List.getElem?_map, hz]; rfl)
      refine ⟨rfl, ?_⟩
      refine ⟨_, rfl, _, rfl, q, _, _, _, rfl, rfl, SqT.of (e2 _ _ hq1), at1 _ _ g1, _, rfl, _, rfl, a, _, _, _, rfl, rfl, SqT.of (e2 _ _ ha1), at1 _ _ g2, _, _, rfl, rfl, _, rfl, ?_⟩
      have hr1 : overL (i + 1) cv D = overL i cv D ++ if overF cv D i = true then [(i : Int)] else [] := by
        unfold overL
        rw [List.range_succ, List.filter_append, List.map_append]
        congr 1
        cases h : overF cv D i with
        | false =>
          rw [List.filter_cons_of_neg (by rw [h]; decide)]
          rfl
        | true =>
          rw [List.filter_cons_of_pos h]
          rfl
      rw [hr1]
      have hlen := overL_len i cv D
      unfold overF
      by_cases cc : D.getD i 0 < cv.getD i 0
      · rw [decide_eq_true cc]
        refine iteT ⟨_, rfl, _, hA2, by rw [List.length_map]; exact small1000 (by omega), Evl.Ex.mut e2 hA, ?_⟩
        rw [upd_same, if_pos rfl, List.map_append]
        show some (HO.lst ((overL i cv D).map V.int ++ [V.int (0 + (i : Int))])) = _
        rw [Int.zero_add]
        rfl
      · rw [decide_eq_false cc]
        refine iteF ⟨e2, ?_⟩
        rw [if_neg Bool.false_ne_true, List.append_nil]
        exact hA2
    · rintro H2 ⟨e2, hA2⟩
      rw [Int.toNat_natCast] at hA2
      exact ⟨A, _, rfl, .inl ⟨SqL.of hA2, fun l hl => k _ l ((e1.trans e2).trans (Ex.new hl)) upd_same⟩⟩
/-! ### over -/
def okOver : Str → Nat → List (Int × Int) → List Int → List Int → List Int → Hp → VK → XK → Prop := fun kd s rs gs D ms H Q E => ∀ H' q, Ex H H' → H' q = some (.tup ((overL s (covL s rs ms) D).map V.int)) → Q (.ref q) H'
theorem sc_over : FnScope ["market", "demand", "parts", "wanted"] ["market", "demand", "parts"] (defScope s_over) := ⟨rfl, rfl, rfl, by decide +kernel, rfl, by decide +kernel, by decide +kernel⟩
theorem has_over (T : Ctx K mg) : Has w K mg base (L2.CX PP w) "over" 4 ["market", "demand", "parts"] (spDP K okOver) := by
  obtain ⟨f1, fd1, m1, kp1, F1, b1⟩ := has_demand_of (w := w) (base := base) T
  obtain ⟨f2, fd2, m2, kp2, F2, b2⟩ := has_places_over (w := w) (base := base) T
  obtain ⟨f3, fd3, m3, kp3, F3, b3⟩ := has_set (w := w) (base := base) T
  refine has_of (st := s_over) (f := He.ga K "over") T.d_over T.g_over (fun _ _ _ _ _ _ us hl => match us, hl with | [_, _, _], _ => rfl) fun fd F => ?_
  refine okX F sc_over (fun vs H Q E h => ?_) (fun cdv A outer s0 H vs Q E hr h => ?_)
  · obtain ⟨x, kd, s, us, rs, gs, v, p, rfl, _⟩ := h
    rfl
  · obtain ⟨x, kd, s, us, rs, gs, v, p, rfl, M, hs50, hF, hu60, hcase⟩ := h
    have nd := sc_over.nd
    refine ⟨_, pss_cons (ps_set (i := 3) nd rfl (.inl rfl) (pe_call F1 (hr.mono (show 2 ≤ 3 by decide)) (by rfl) m1 kp1 b1 .nil (E := E) (pE rfl rfl (takes_of rfl rfl rfl rfl)) (pa_cons (pv 0) (pa_cons (pv 1) pa_nil))))
      (pss_one (ps_ret (pe_call F2 (hr.mono (show 2 ≤ 3 by decide)) (by rfl) m2 kp2 b2 .nil pass0 (pa_cons (pv 0) (pa_cons (pv 3) (pa_cons (pe_call F3 (hr.mono (show 3 ≤ 3 by decide)) (by rfl) m3 kp3 b3 .nil (E := E) (pE rfl rfl (takes_of rfl rfl rfl rfl)) (pa_cons (pe_many T rfl rfl rfl rfl (pv 0) hr (by decide) rfl) (pa_cons (pv 2) pa_nil))) pa_nil)))))), ?_⟩
    refine ⟨_, rfl, _, rfl, x, kd, s, us, rs, gs, v, rfl, M, hs50, ?_⟩
    rcases hcase with ⟨D, ps, hD, hp, hP, k⟩ | ⟨n, hn, hB⟩ | ⟨D, n, hD, hn, hB⟩
    · refine .inl ⟨D, hD, fun H1 q e1 hq1 => ?_⟩
      have hul := M.runs.len
      refine ⟨_, rfl, _, rfl, _, rfl, x, kd, s, us, rs, gs, rfl, M.ex e1, _, rfl, us.length, p, rfl, by omega, .inl ⟨ps, hp.ex e1, hP, fun ms H2 q2 ho e2 hq2 hq3 => ?_⟩⟩
      have hlm := (ho.perm hP).length_eq
      have few := hP.few
      have inn : ∀ n ∈ ms, 0 ≤ n ∧ n < (rs.length : Int) := fun n hn => by have := ho.inn hP n hn; omega
      have e12 := e1.trans e2
      exact ⟨x, q, q2, kd, s, us, rs, gs, D, ms, rfl, (M.ex e1).ex e2, hs50, hF, e2 _ _ hq1, hD.len, hq3, inn, fun H3 q3 e3 => k ms ho H3 q3 (e12.trans e3)⟩
    · exact .inr ⟨n, hn, hB⟩
    · refine .inl ⟨D, hD, fun H1 q e1 hq1 => ?_⟩
      refine ⟨_, rfl, _, rfl, _, rfl, x, kd, s, us, rs, gs, rfl, M.ex e1, _, rfl, us.length, p, rfl, by omega, .inr (hn.alt e1 (hB.ex e1))⟩
/-! ### check_stock -/
abbrev BadN (K : PySem.W.Frag) (H : Hp) (E : XK) (n : Int) : Prop := Err K "NotAStock" "place" H E (.int n)
def okCheck (K : PySem.W.Frag) : Str → Nat → List (Int × Int) → List Int → List Int → List Int → Hp → VK → XK → Prop := fun kd s rs gs D ms H Q E =>
  ((ms.any fun p => decide (p ∈ gs)) = true → BadN K H E (-1)) ∧ ((ms.any fun p => decide (p ∈ gs)) = false → (∀ n : Nat, fw (okRow kd (covL s rs ms) D) = .int n → BadN K H E n) ∧ (fw (okRow kd (covL s rs ms) D) = .non → ∀ H' q, Ex H H' → H' q = some (.tup (ms.map V.int)) → Q (.ref q) H'))
theorem sc_check_stock : FnScope ["market", "demand", "parts", "wanted", "chosen", "part", "place"] ["market", "demand", "parts"] (defScope s_check_stock) := ⟨rfl, rfl, rfl, by decide +kernel, rfl, by decide +kernel, by decide +kernel⟩
theorem has_check_stock (T : Ctx K mg) : Has w K mg base (L2.CX PP w) "check_stock" 5 ["market", "demand", "parts"] (spDP K (okCheck K)) := by
  obtain ⟨f1, fd1, m1, kp1, F1, b1⟩ := has_demand_of (w := w) (base := base) T
  obtain ⟨f2, fd2, m2, kp2, F2, b2⟩ := has_wrong_place (w := w) (base := base) T
  obtain ⟨f3, fd3, m3, kp3, F3, b3⟩ := has_set (w := w) (base := base) T
  refine has_of (st := s_check_stock) (f := He.ga K "check_stock") T.d_check_stock T.g_check_stock (fun _ _ _ _ _ _ us hl => match us, hl with | [_, _, _], _ => rfl) fun fd F => ?_
  refine okX F sc_check_stock (fun vs H Q E h => ?_) (fun cdv A outer s0 H vs Q E hr h => ?_)
  · obtain ⟨x, kd, s, us, rs, gs, v, p, rfl, _⟩ := h
    rfl
  · obtain ⟨x, kd, s, us, rs, gs, v, p, rfl, M, hs50, hF, hu60, hcase⟩ := h
    have nd := sc_check_stock.nd
    refine ⟨_, pss_cons (ps_set (i := 3) nd rfl (.inl rfl) (pe_call F1 (hr.mono (show 2 ≤ 4 by decide)) (by rfl) m1 kp1 b1 .nil (E := E) (pE rfl rfl (takes_of rfl rfl rfl rfl)) (pa_cons (pv 0) (pa_cons (pv 1) pa_nil))))
      (pss_cons (ps_set (i := 4) nd rfl (.inl rfl) (pe_call F3 (hr.mono (show 3 ≤ 4 by decide)) (by rfl) m3 kp3 b3 .nil (E := E) (pE rfl rfl (takes_of rfl rfl rfl rfl)) (pa_cons (pe_many T rfl rfl rfl rfl (pv 0) hr (by decide) rfl) (pa_cons (pv 2) pa_nil))))
      (pss_cons (ps_if (pt_val (pe_callB (cr_any rfl) (by rfl) T.b_any (by decide +kernel) (pa_cons
        (pe_lc (own := [("part", 5)]) (g := gName 5) (tt := tYes) rfl nd (pi_tup (pv 4)) (blkOk_by (own := [("part", 5)]) (N := ["market", "demand", "parts", "wanted", "chosen", "part", "place"]) (sc := defScope s_check_stock) (by decide +kernel)) (fun _ _ _ _ _ => pg_name (i := 5) nd rfl (Or.inl rfl)) (fun _ _ _ _ _ => pts_nil)
          (fun _ _ _ _ _ => pe_cmpR (op_inK (K := K) rfl) (pv 5) (pe_fldK (K := K) rfl (pv 0) rfl) (by rfl))) pa_nil))) (pss_one (ps_raiseNotAStock (W := fun cls d _ H => E cls d H) rfl T.na hr (takes_of rfl rfl rfl rfl) (pa_cons (pe_un un_neg pe_int) pa_nil))) pss_nil)
      (pss_cons (ps_set (i := 6) nd rfl (.inl rfl) (pe_call F2 (hr.mono (show 3 ≤ 4 by decide)) (by rfl) m2 kp2 b2 .nil pass0 (pa_cons (pv 0) (pa_cons (pv 3) (pa_cons (pv 4) pa_nil)))))
      (pss_cons (ps_if (pt_cmpR op_notN (pv 6) pe_non (nomark _)) (pss_one (ps_raiseNotAStock (W := fun cls d _ H => E cls d H) rfl T.na hr (takes_of rfl rfl rfl rfl) (pa_cons (pv 6) pa_nil))) pss_nil)
      (pss_one (ps_ret (pv 4))))))), ?_⟩
    refine ⟨_, rfl, _, rfl, x, kd, s, us, rs, gs, v, rfl, M, hs50, ?_⟩
    rcases hcase with ⟨D, ps0, hD, hp, hP, k⟩ | ⟨n, hn, hB⟩ | ⟨D, n, hD, hn, hB⟩
    rotate_left
    · exact .inr ⟨n, hn, hB⟩
    · refine .inl ⟨D, hD, fun H1 q e1 hq1 => ?_⟩
      refine ⟨_, rfl, x, kd, s, us, rs, gs, rfl, M.ex e1, _, rfl, us.length, p, rfl, by omega, .inr (hn.alt e1 (hB.ex e1))⟩
    refine .inl ⟨D, hD, fun H1 q e1 hq1 => ?_⟩
    have hul := M.runs.len
    refine ⟨_, rfl, x, kd, s, us, rs, gs, rfl, M.ex e1, _, rfl, us.length, p, rfl, by omega, .inl ⟨ps0, hp.ex e1, hP, fun ps H2 c ho e2 hq2 hc => ?_⟩⟩
    have hlm := (ho.perm hP).length_eq
    have few := hP.few
    have inn : ∀ n ∈ ps, 0 ≤ n ∧ n < (rs.length : Int) := fun n hn => by have := ho.inn hP n hn; omega
    have e12 := e1.trans e2
    have M2 := M.ex e12
    have k2 := k ps ho
    obtain ⟨C, dx, pr, pg, hM, h1, h2, h3⟩ := M2.ob
    refine ⟨_, rfl, c, rfl, ⟨_, SqT.of hc⟩, fun D' hD' => lc_it walk_tup (fun i H' => Ex H2 H' ∧ H' D' = some (.lst (((ps.take i).map fun p => decide (p ∈ gs)).map V.bl))) ⟨Ex.new hD', upd_same⟩ (fun i H' _ z => Ex.tup z.1 hc) ?_ ?_⟩
    · rintro i y H3 H4 hi ⟨e3, hD3⟩ ⟨rfl, hy⟩
      obtain ⟨p, hp, rfl⟩ := map_int_get hy
      have hil : i < ps.length := (List.getElem?_eq_some_iff.mp hp).1
      refine ⟨rfl, tYesI ?_⟩
      refine ⟨_, rfl, _, rfl, x, C, dx, _, _, rfl, e3 _ _ h1, hM.cl T, hM.nG T, mf_gone _ _ _, ?_⟩
      refine ⟨pg, _, rfl, .inr (SqT.of (e3 _ _ h3)), rfl, flat_ints gs, ?_⟩
      rw [inV_ints]
      refine ⟨_, hD3, ?_, Evl.Ex.mut e3 hD', ?_⟩
      · rw [List.length_map, List.length_map, List.length_take]
        exact small1000 (by omega)
      · rw [upd_same, List.take_add_one, hp, List.map_append, List.map_append]
        rfl
    · rintro H3 ⟨e3, hD3⟩
      rw [List.length_map, List.take_length] at hD3
      refine ⟨D', _, rfl, SqL.of hD3, _, rfl, ?_⟩
      have ea : ((ps.map fun p => decide (p ∈ gs)).any id) = ps.any fun p => decide (p ∈ gs) := by
        rw [List.any_map]
        rfl
      rw [ea]
      have e13 := e12.trans e3
      cases hg : ps.any fun p => decide (p ∈ gs) with
      | true => exact iteT ⟨_, rfl, _, rfl, fun d hd => (k2.1 hg).go e13 hd⟩
      | false =>
        refine iteF ?_
        obtain ⟨k3, k4⟩ := k2.2 hg
        refine ⟨_, rfl, _, rfl, _, rfl, x, q, c, kd, s, us, rs, gs, D, ps, rfl, M2.ex e3, hs50, hF, (e2.trans e3) _ _ hq1, hD.len, e3 _ _ hc, inn, fun H4 e4 => ?_⟩
        have e14 := e13.trans e4
        rcases fw_cases (okRow kd (covL s rs ps) D) with hf | ⟨n, hf⟩
        · rw [hf]
          refine ⟨_, rfl, rfl, _, rfl, iteF ?_⟩
          exact ⟨_, rfl, k4 hf H4 c e14 ((e3.trans e4) _ _ hc)⟩
        · rw [hf]
          refine ⟨_, rfl, rfl, _, rfl, iteT ?_⟩
          exact ⟨_, rfl, _, rfl, fun d hd => (k3 n hf).go e14 hd⟩
end
end K00


set_option Elab.async false
set_option linter.all false
set_option maxRecDepth 100000
set_option maxHeartbeats 4000000
/-! The program's own errors: each one keeps its field. -/
namespace PySem
namespace NotJoinX
open PySem.W PySem.Calls PyProof.Rows PySem.HandSPX
/-! ### an own error with an __init__ that passes -/
def iA (p1 : Pos) : Arguments := { posonlyargs := [], args := [{ arg := "self", annotation := none, pos := p1 }], vararg := none, kwonlyargs := [], kw_defaults := [], kwarg := none, defaults := [] }
def iB (q1 : Pos) : List Stmt := [.Pass q1]
def iS : Scope := { kind := .function, names := [(PySem.Str.ofString "self", .local)], isGenerator := false, isCoroutine := false, more := [] }
structure NotJoinTxt (K : Frag) (mg : Str → Option Value) (C fI : Addr) : Prop where
  gC : mg "NotJoin" = some (.ref C)
  cls : ∃ nm q N bs bm sn sub ab col dd k0 k1 k2 k3 k5, K.lookup C = some (excClassObj nm q C N bs bm true sn sub ab col dd k0 k1 k2 k3 k5 "ValueError.__new__") ∧ refsVE bm = true
  iC : findIn K (.ref C) "__init__" = some (some (.ref fI))
  tC : typeIn K (.ref fI) = some (.type "function")
  kC : keepIn K (.ref C) = true
  exC : subIn K (.ref C) (.type "BaseException") = some true
  tyC : typeIn K (.ref C) = some (.type "type")
  fn : ∃ (oc : Value) (od : Option Addr) (kV doc pm : Value) (an : Option Addr) (cdv ct : Value) (osl : Array (Option Value)) (p1 q1 : Pos),
    K.lookup fI = some ⟨oc, od, .func (fnOf "__init__" "NotJoin.__init__" (iA p1) (iB q1) iS .none kV doc pm an cdv ct), osl⟩ ∧ codeIn K cdv "NotJoin.__init__" = true
theorem no_size : ([] : List Value).length ≤ sizeLine := Nat.zero_le _
section
variable {prog : Program} {w : World} {A : Around} {E : Value → Shared → Prop} {R : Result → Shared → Prop} {s : Shared} {K : Frag} {mg : Str → Option Value} {C fI : Addr}
theorem init_NotJoin (T : NotJoinTxt K mg C fI) {x : Addr} (X : K.In s.heap) (hlim : s.heap.NoLimit) (hroom : A.depth < recursionLimit)
    (hq : ∀ h' tk, (∀ b o, s.heap.get? b = some o → h'.get? b = some o) → R (.ok (.ret .none)) { s with heap := h', toks := tk }) :
    codeAny (model prog w) A (.call (.ref fI) ⟨[.ref x], []⟩) R s := by
  obtain ⟨oc, od, kV, doc, pm, an, cdv, ct, osl, p1, q1, ho, hcd⟩ := T.fn
  refine Att.call_fn (binds := [("self", .ref x)]) X hlim ho hcd hroom (BindsTo.of_eq (by first | rfl | with_unfolding_all rfl)) (by first | rfl | decide | with_unfolding_all rfl) (fun s₁ IC => ?_) rfl rfl rfl
  obtain ⟨h₁, tk₁, rfl⟩ := IC.toInCall.same
  show wpAny _ _ (execs _ _) _ _ _
  refine wpAny_execs_cons (wpAny_Pass ?_)
  show wpAny _ _ (execs _ _) _ _ _
  exact wpAny_execs_nil (hq h₁ tk₁ IC.toInCall.keep)
theorem made_NotJoin (T : NotJoinTxt K mg C fI) (X : K.In s.heap) (hlim : s.heap.NoLimit) (hroom : A.depth + 1 < recursionLimit)
    (hq : ∀ h' tk e t0, (∀ b o, s.heap.get? b = some o → h'.get? b = some o) → s.heap.objs.size ≤ e → h'.get? e = some (excO C t0) → R (.ok (.ret (.ref e))) { s with heap := h', toks := tk }) :
    codeAny (model prog w) A (.call (.ref C) ⟨[], []⟩) R s := by
  obtain ⟨nm, q, N, bs, bm, sn, sub, ab, col, dd, k0, k1, k2, k3, k5, hC, hbm⟩ := T.cls
  obtain ⟨hp, g, dr, tk, os⟩ := s
  have k : ∀ b o, hp.get? b = some o → ((hp.push (kdv_tup [])).push (excO C hp.objs.size)).get? b = some o := fun b o e => Heap.get?_push_of_some _ (Heap.get?_push_of_some _ e)
  have hget : ((hp.push (kdv_tup [])).push (excO C hp.objs.size)).get? (hp.objs.size + 1) = some (excO C hp.objs.size) := by heap_get
  refine call_own F.excBase_ValueError (fun X => refsVE_contains X bm hbm) (X _ _ hC) (looks_findIn X T.iC) (fun self => bind_fn X self T.tC) no_size ?_
  refine init_NotJoin (s := ⟨(hp.push (kdv_tup [])).push (excO C hp.objs.size), g, dr, tk, os⟩) T (X.keeps k) (hlim.keeps k) ?_ fun h' tk' k' => ?_
  · show A.depth + 1 < recursionLimit
    exact hroom
  · exact ⟨rfl, hq h' tk' (hp.objs.size + 1) hp.objs.size (fun b o e => k' b o (k b o e)) (Nat.le_succ _) (k' _ _ hget)⟩
end
end NotJoinX
end PySem
namespace L2
open PySem PySem.Spec PyProof.Rows
section
variable {X : Cx} {C fI : Addr}
theorem pmk_NotJoin {p pos : Pos} {k : Nat} (T : PySem.NotJoinX.NotJoinTxt X.K X.mg C fI) (hr : Room k X.A) (hg : Gl X "NotJoin" := by rfl) :
    PMk X (.Call (.Name "NotJoin" p) [] [] pos) (fun _ H Q => Q (.ref C) none H) := by
  intro pins s σ H Q I h
  refine wpAny_Call_Name_kw (ld_glob I hg T.gC ?_)
  refine PySem.W.callWith_K0 I.kIn T.kC ?_
  show wpAny _ _ (call (.ref C) []) _ _ _
  have hlim := I.nolimit
  obtain ⟨hp, g, dr, tk, os⟩ := s
  refine wpAny_call (PySem.NotJoinX.made_NotJoin T I.kIn hlim (by have := hr.dp; omega) fun h' tk' e t0 hk hne hoe => ?_)
  show MkP X pins σ Q (.ref e) ⟨h', g, dr, tk', os⟩
  refine ⟨e, _, _, ⟨hp, g, dr, tk', os⟩, H, .ref C, none, rfl, I.tok _, hk, ?_, hoe, ⟨rfl, rfl⟩, rfl, rfl, I.hok.fresh hne, rfl, I.bare, raises_own T.exC T.tyC, h⟩
  cases q : hp.get? e with
  | none => rfl
  | some o => exact absurd (Heap.lt_size q) (Nat.not_lt.mpr hne)
theorem ps_raiseNotJoin {W : WX} {p pos pos2 : Pos} {k : Nat} (hc : X.calm = true) (T : PySem.NotJoinX.NotJoinTxt X.K X.mg C fI) (hr : Room k X.A) (tk : Takes X W) (hg : Gl X "NotJoin" := by rfl) :
    PS X (.Raise (some (.Call (.Name "NotJoin" p) [] [] pos)) none pos2) (fun _ σ H => W (.ref C) none σ H) := ps_raise hc tk (pmk_NotJoin T hr hg)
end
end L2


set_option Elab.async false
set_option linter.all false
set_option maxRecDepth 100000
set_option maxHeartbeats 4000000
namespace K00
open PySem PySem.Spec PyProof.Rows L2 RZ StX
open Evl (Ex)
/-- an expression read in one way or the other -/
theorem pe_or2 {X : Cx} {e : Expr} {t u : TE} (a : PE X e t) (b : PE X e u) : PE X e (fun σ H Q => t σ H Q ∨ u σ H Q) := ⟨fun pins s σ H Q I h => h.elim (a.run pins s σ H Q I) (b.run pins s σ H Q I)⟩
def SeqAt2 (H : Hp) (t : Addr) (us : List V) : Prop := H t = some (.lst us) ∨ H t = some (.tup us)
theorem SeqAt2.ex {H H' : Hp} {t : Addr} {us : List V} (h : SeqAt2 H t us) (e : Ex H H') : SeqAt2 H' t us := h.imp (e _ _) (e _ _)
section
variable {w : World} {K : PySem.W.Frag} {mg : Str → Option Value} {base : Heap}
theorem Ctx.nj (T : Ctx K mg) : PySem.NotJoinX.NotJoinTxt K mg (He.ga K "NotJoin") (He.ma K (He.ga K "NotJoin") "__init__") := by
  obtain ⟨fd, F⟩ := T.d_NotJoin___init__
  obtain ⟨oc, od, dV, kV, doc, pm, an, cdv, ct, osl, rfl, lk, hcd, hD, hK⟩ := F.ex
  rcases hD with ⟨_, rfl⟩ | ⟨e, _⟩
  · exact ⟨T.g_NotJoin, T.xc_NotJoin, T.xii_NotJoin, T.xt_NotJoin, T.xk_NotJoin, T.xs_NotJoin, T.xy_NotJoin, ⟨oc, od, kV, doc, pm, an, cdv, ct, osl, _, _, lk, hcd⟩⟩
  · exact absurd rfl e
def spPairL : Sp := fun vs H Q _ => ∃ a x y, vs = [.ref a] ∧ H a = some (.lst [x, y]) ∧ ∀ H', Ex H H' → Q (.bl true) H'
theorem has_is_pairL (T : Ctx K mg) : Has w K mg base CX0 "is_pair" 2 ["value"] spPairL := by
  obtain ⟨f1, fd1, m1, kp1, F1, b1⟩ := has_is_row (w := w) (base := base) T
  refine has_of (st := s_is_pair) (f := He.ga K "is_pair") T.d_is_pair T.g_is_pair (fun _ _ _ _ _ _ us hl => match us, hl with | [_], _ => rfl) fun fd F => ?_
  refine ok0 F sc_is_pair (fun vs H Q E h => ?_) (fun cdv A outer s H vs Q E hr h => ?_)
  · obtain ⟨a, x, y, rfl, _⟩ := h
    rfl
  · obtain ⟨a, x, y, rfl, ha, k⟩ := h
    refine ⟨_, pss_one (ps_ret (pe_and (pe_call F1 hr (by rfl) m1 kp1 b1 .nil pass0 (pa_cons (pv 0) pa_nil)) (pe_one (pe_cmpR op_eq (pe_callB call_len_seq (by rfl) T.b_len PySem.boot_len (pa_cons (pv 0) pa_nil)) pe_int (nomark _))))), ?_⟩
    refine ⟨_, rfl, a, rfl, .inl ⟨_, ha⟩, fun H1 e1 => ⟨true, rfl, iteT ?_⟩⟩
    refine ⟨_, rfl, a, [x, y], rfl, .inl (SqL.of (e1 _ _ ha)), rfl, ?_⟩
    show Q (V.bl (decide (V.int 2 = V.int 2))) H1
    rw [decide_eq_true rfl]
    exact k H1 e1
def spRunL : Sp := fun vs H Q _ => ∃ (s : Int) (a : Addr) (x y : Int), vs = [.int s, .ref a] ∧ H a = some (.lst [.int x, .int y]) ∧ ∀ H', Ex H H' → Q (.bl (decide (0 ≤ x ∧ x < y ∧ y ≤ s))) H'
theorem has_is_runL (T : Ctx K mg) : Has w K mg base CX0 "is_run" 3 ["size", "run"] spRunL := by
  obtain ⟨f1, fd1, m1, kp1, F1, b1⟩ := has_is_pairL (w := w) (base := base) T
  obtain ⟨f2, fd2, m2, kp2, F2, b2⟩ := has_is_within (w := w) (base := base) T
  refine has_of (st := s_is_run) (f := He.ga K "is_run") T.d_is_run T.g_is_run (fun _ _ _ _ _ _ us hl => match us, hl with | [_, _], _ => rfl) fun fd F => ?_
  refine ok0 F sc_is_run (fun vs H Q E h => ?_) (fun cdv A outer s H vs Q E hr h => ?_)
  · obtain ⟨s, a, x, y, rfl, _⟩ := h
    rfl
  · obtain ⟨s, a, x, y, rfl, ha, k⟩ := h
    refine ⟨_, pss_cons (ps_if (pt_not (pt_val (pe_call F1 hr (by rfl) m1 kp1 b1 .nil pass0 (pa_cons (pv 1) pa_nil)))) (pss_one (ps_ret pe_bl)) pss_nil)
      (pss_one (ps_ret (pe_and (pe_call F2 hr (by rfl) m2 kp2 b2 .nil pass0 (pa_cons (pe_ix ix_list (pv 1) pe_int (fun _ _ => rfl)) (pa_cons pe_int (pa_cons (pv 0) pa_nil))))
        (pe_and (pe_call F2 hr (by rfl) m2 kp2 b2 .nil pass0 (pa_cons (pe_ix ix_list (pv 1) pe_int (fun _ _ => rfl)) (pa_cons pe_int (pa_cons (pv 0) pa_nil))))
          (pe_one (pe_cmpR op_lt (pe_ix ix_list (pv 1) pe_int (fun _ _ => rfl)) (pe_ix ix_list (pv 1) pe_int (fun _ _ => rfl)) (nomark _))))))), ?_⟩
    refine ⟨_, rfl, a, _, _, rfl, ha, fun H1 e1 => ⟨true, rfl, iteF ?_⟩⟩
    have h1 := e1 _ _ ha
    have t1 : SqL K H1 a [V.int x, V.int y] := SqL.of h1
    refine ⟨_, rfl, a, _, _, _, rfl, rfl, t1, rfl, _, rfl, x, 0, s, rfl, _, rfl, ?_⟩
    have k1 := k H1 e1
    by_cases c1 : 0 ≤ x ∧ x ≤ s
    · rw [decide_eq_true c1]
      refine iteT ?_
      refine ⟨_, rfl, a, _, _, _, rfl, rfl, t1, rfl, _, rfl, y, 0, s, rfl, _, rfl, ?_⟩
      by_cases c2 : 0 ≤ y ∧ y ≤ s
      · rw [decide_eq_true c2]
        refine iteT ?_
        refine ⟨_, rfl, a, _, _, _, rfl, rfl, t1, rfl, _, rfl, a, _, _, _, rfl, rfl, t1, rfl, _, _, rfl, rfl, ?_⟩
        have e : decide (0 ≤ x ∧ x < y ∧ y ≤ s) = decide (x < y) := by
          apply decide_eq_decide.mpr
          omega
        rw [e] at k1
        exact k1
      · rw [decide_eq_false c2]
        refine iteF ?_
        have e : decide (0 ≤ x ∧ x < y ∧ y ≤ s) = false := decide_eq_false (by omega)
        rw [e] at k1
        exact k1
    · rw [decide_eq_false c1]
      refine iteF ?_
      have e : decide (0 ≤ x ∧ x < y ∧ y ≤ s) = false := decide_eq_false (by omega)
      rw [e] at k1
      exact k1

/-! ### check_run -/
abbrev BadR (K : PySem.W.Frag) (H : Hp) (E : XK) : Prop := Err K "BadRun" "place" H E (.int (-1))
def spCheckRun (K : PySem.W.Frag) : Sp := fun vs H Q E => ∃ (x t : Addr) (kd : Str) (s : Int) (us : List V) (rs : List (Int × Int)) (gs : List Int) (r : Int × Int), vs = [.ref x, .ref t] ∧ Mkt K H x kd s us rs gs ∧ SeqAt2 H t [.int r.1, .int r.2] ∧
  ((Fits s r ∧ ∀ H' q, Ex H H' → H' q = some (.tup [.int r.1, .int r.2]) → Q (.ref q) H') ∨ (¬ Fits s r ∧ BadR K H E))
theorem sc_check_run : FnScope ["market", "run"] ["market", "run"] (defScope s_check_run) := ⟨rfl, rfl, rfl, by decide +kernel, rfl, by decide +kernel, by decide +kernel⟩
theorem has_check_run (T : Ctx K mg) : Has w K mg base (L2.CX PP w) "check_run" 4 ["market", "run"] (spCheckRun K) := by
  obtain ⟨f1, fd1, m1, kp1, F1, b1⟩ := has_is_run (w := w) (base := base) T
  obtain ⟨f2, fd2, m2, kp2, F2, b2⟩ := has_is_runL (w := w) (base := base) T
  refine has_of (st := s_check_run) (f := He.ga K "check_run") T.d_check_run T.g_check_run (fun _ _ _ _ _ _ us hl => match us, hl with | [_, _], _ => rfl) fun fd F => ?_
  refine okX F sc_check_run (fun vs H Q E h => ?_) (fun cdv A outer s0 H vs Q E hr h => ?_)
  · obtain ⟨x, t, kd, s, us, rs, gs, r, rfl, _⟩ := h
    rfl
  · obtain ⟨x, t, kd, s, us, rs, gs, r, rfl, M, ht, hc⟩ := h
    obtain ⟨C, dx, pr, pg, hM, h1, h2, h3⟩ := M.ob
    refine ⟨_, pss_cons (ps_if (pt_not (pt_val (pe_or2 (pe_call F1 hr (by rfl) m1 kp1 b1 .nil pass0 (pa_cons (pe_fld (pv 0) rfl) (pa_cons (pv 1) pa_nil))) (pe_call F2 hr (by rfl) m2 kp2 b2 .nil pass0 (pa_cons (pe_fld (pv 0) rfl) (pa_cons (pv 1) pa_nil)))))) (pss_one (ps_raiseBadRun (W := fun cls d _ H => E cls d H) rfl T.br hr (takes_of rfl rfl rfl rfl) (pa_cons (pe_un un_neg pe_int) pa_nil))) pss_nil)
      (pss_one (ps_ret (pe_callTy call_tuple_of (by rfl) T.b_tuple (by decide +kernel) (pa_cons (pv 1) pa_nil)))), ?_⟩
    rcases ht with ht | ht
    · refine .inr ⟨_, rfl, x, C, dx, _, _, rfl, h1, hM.cl T, hM.nS T, mf_size _ _ _, _, rfl, s, t, r.1, r.2, rfl, ht, fun H1 e1 => ⟨_, rfl, ?_⟩⟩
      rcases hc with ⟨hf, k⟩ | ⟨hf, hB⟩
      · rw [decide_eq_true (show 0 ≤ r.1 ∧ r.1 < r.2 ∧ r.2 ≤ s from hf)]
        exact iteF ⟨_, rfl, t, _, rfl, .inl ⟨Ex.lst e1 ht, fun l hl => k _ l (e1.trans (Ex.new hl)) upd_same⟩⟩
      · rw [decide_eq_false (show ¬ (0 ≤ r.1 ∧ r.1 < r.2 ∧ r.2 ≤ s) from hf)]
        exact iteT ⟨_, rfl, _, rfl, fun d hd => hB.go e1 hd⟩
    · refine .inl ⟨_, rfl, x, C, dx, _, _, rfl, h1, hM.cl T, hM.nS T, mf_size _ _ _, _, rfl, s, t, r.1, r.2, rfl, ht, fun H1 e1 => ⟨_, rfl, ?_⟩⟩
      rcases hc with ⟨hf, k⟩ | ⟨hf, hB⟩
      · rw [decide_eq_true (show 0 ≤ r.1 ∧ r.1 < r.2 ∧ r.2 ≤ s from hf)]
        exact iteF ⟨_, rfl, t, _, rfl, .inr ⟨Ex.tup e1 ht, k H1 t e1 (e1 _ _ ht)⟩⟩
      · rw [decide_eq_false (show ¬ (0 ≤ r.1 ∧ r.1 < r.2 ∧ r.2 ≤ s) from hf)]
        exact iteT ⟨_, rfl, _, rfl, fun d hd => hB.go e1 hd⟩
/-! ### check_join -/
def spCheckJoin (K : PySem.W.Frag) : Sp := fun vs H Q E => ∃ (x : Addr) (kd : Str) (s : Int) (us : List V) (rs : List (Int × Int)) (gs : List Int), vs = [.ref x] ∧ Mkt K H x kd s us rs gs ∧ ((kd = "join" ∧ Q .non H) ∨ (kd ≠ "join" ∧ E (.ref (He.ga K "NotJoin")) none H))
theorem sc_check_join : FnScope ["market"] ["market"] (defScope s_check_join) := ⟨rfl, rfl, rfl, by decide +kernel, rfl, by decide +kernel, by decide +kernel⟩
theorem has_check_join (T : Ctx K mg) : Has w K mg base (L2.CX PP w) "check_join" 2 ["market"] (spCheckJoin K) := by
  refine has_of (st := s_check_join) (f := He.ga K "check_join") T.d_check_join T.g_check_join (fun _ _ _ _ _ _ us hl => match us, hl with | [_], _ => rfl) fun fd F => ?_
  refine okX F sc_check_join (fun vs H Q E h => ?_) (fun cdv A outer s H vs Q E hr h => ?_)
  · obtain ⟨x, kd, s, us, rs, gs, rfl, _⟩ := h
    rfl
  · obtain ⟨x, kd, s, us, rs, gs, rfl, M, hc⟩ := h
    obtain ⟨C, dx, pr, pg, hM, h1, h2, h3⟩ := M.ob
    obtain ⟨u, hC⟩ := hM.con T
    refine ⟨_, pss_one (ps_if (pt_cmpR op_ne (pe_con (pv 0) rfl) pe_str (nomark _)) (pss_one (ps_raiseNotJoin (W := fun cls d _ H => E cls d H) rfl T.nj hr (takes_of rfl rfl rfl rfl))) pss_nil), ?_⟩
    refine ⟨_, rfl, x, C, dx, _, _, _, rfl, h1, hM.cl T, hC, mf_no _ _ _ k_KIND1 k_KIND2 k_KIND3, ?_⟩
    refine ⟨rfl, _, rfl, ?_⟩
    rcases hc with ⟨rfl, k⟩ | ⟨hn, k⟩
    · exact iteF' (by rw [decide_eq_true rfl]; rfl) k
    · exact iteT' (by rw [decide_eq_false (fun z => hn (by injection z))]; rfl) k
/-! ### check_part, check_there, part_there -/
abbrev BadP (K : PySem.W.Frag) (H : Hp) (E : XK) (n : Int) : Prop := Err K "BadPart" "part" H E (.int n)
abbrev Gon (K : PySem.W.Frag) (H : Hp) (E : XK) (n : Int) : Prop := Err K "IsGone" "part" H E (.int n)
def spCheckPart (K : PySem.W.Frag) : Sp := fun vs H Q E => ∃ (x : Addr) (kd : Str) (s : Int) (us : List V) (rs : List (Int × Int)) (gs : List Int) (p : Int), vs = [.ref x, .int p] ∧ Mkt K H x kd s us rs gs ∧ (((0 ≤ p ∧ p < us.length) ∧ Q .non H) ∨ (¬ (0 ≤ p ∧ p < us.length) ∧ BadP K H E p))
theorem sc_check_part : FnScope ["market", "part"] ["market", "part"] (defScope s_check_part) := ⟨rfl, rfl, rfl, by decide +kernel, rfl, by decide +kernel, by decide +kernel⟩
theorem has_check_part (T : Ctx K mg) : Has w K mg base (L2.CX PP w) "check_part" 3 ["market", "part"] (spCheckPart K) := by
  obtain ⟨f1, fd1, m1, kp1, F1, b1⟩ := has_is_withinG (w := w) (base := base) T
  refine has_of (st := s_check_part) (f := He.ga K "check_part") T.d_check_part T.g_check_part (fun _ _ _ _ _ _ us hl => match us, hl with | [_, _], _ => rfl) fun fd F => ?_
  refine okX F sc_check_part (fun vs H Q E h => ?_) (fun cdv A outer s H vs Q E hr h => ?_)
  · obtain ⟨x, kd, s, us, rs, gs, p, rfl, _⟩ := h
    rfl
  · obtain ⟨x, kd, s, us, rs, gs, p, rfl, M, hc⟩ := h
    obtain ⟨C, dx, pr, pg, hM, h1, h2, h3⟩ := M.ob
    refine ⟨_, pss_one (ps_if (pt_not (pt_val (pe_call F1 hr (by rfl) m1 kp1 b1 .nil pass0 (pa_cons (pv 1) (pa_cons pe_int (pa_cons (pe_op op_sub (pe_callB call_len_seq (by rfl) T.b_len PySem.boot_len (pa_cons (pe_fld (pv 0) rfl) pa_nil)) pe_int) pa_nil)))))) (pss_one (ps_raiseBadPart (W := fun cls d _ H => E cls d H) rfl T.bp hr (takes_of rfl rfl rfl rfl) (pa_cons (pv 1) pa_nil))) pss_nil), ?_⟩
    refine ⟨_, rfl, _, rfl, x, C, dx, _, _, rfl, h1, hM.cl T, hM.nR T, mf_runs _ _ _, pr, us, rfl, .inr (SqT.of h2), _, _, rfl, rfl, ?_⟩
    refine ⟨.int p, 0, _, rfl, .int p, _, rfl, ?_⟩
    rcases hc with ⟨hp, k⟩ | ⟨hp, hB⟩
    · exact iteF' (by show (!decide (0 ≤ p ∧ p ≤ (us.length : Int) - 1)) = false; rw [decide_eq_true (by omega)]; rfl) k
    · exact iteT' (by show (!decide (0 ≤ p ∧ p ≤ (us.length : Int) - 1)) = true; rw [decide_eq_false (by omega)]; rfl) ⟨_, rfl, _, rfl, fun d hd => hB.go (fun _ _ z => z) hd⟩
def spCheckThere (K : PySem.W.Frag) : Sp := fun vs H Q E => ∃ (x t : Addr) (kd : Str) (s : Int) (us : List V) (rs : List (Int × Int)) (gs : List Int) (p : Int), vs = [.ref x, .ref t] ∧ Mkt K H x kd s us rs gs ∧ H t = some (.tup [.int p]) ∧ ((p ∉ gs ∧ Q .non H) ∨ (p ∈ gs ∧ Gon K H E p))
theorem sc_check_there : FnScope ["market", "parts", "part"] ["market", "parts"] (defScope s_check_there) := ⟨rfl, rfl, rfl, by decide +kernel, rfl, by decide +kernel, by decide +kernel⟩
theorem has_check_there (T : Ctx K mg) : Has w K mg base (L2.CX PP w) "check_there" 2 ["market", "parts"] (spCheckThere K) := by
  refine has_of (st := s_check_there) (f := He.ga K "check_there") T.d_check_there T.g_check_there (fun _ _ _ _ _ _ us hl => match us, hl with | [_, _], _ => rfl) fun fd F => ?_
  refine okX F sc_check_there (fun vs H Q E h => ?_) (fun cdv A outer s H vs Q E hr h => ?_)
  · obtain ⟨x, t, kd, s, us, rs, gs, p, rfl, _⟩ := h
    rfl
  · obtain ⟨x, t, kd, s, us, rs, gs, p, rfl, M, ht, hc⟩ := h
    obtain ⟨C, dx, pr, pg, hM, h1, h2, h3⟩ := M.ob
    have nd := sc_check_there.nd
    refine ⟨_, pss_one (ps_for (passes_of rfl) rfl (pi_tup (pv 1)) (pg_name (i := 2) nd rfl (.inl rfl)) (pss_one (ps_if (pt_cmpR op_in_seq (pv 2) (pe_fld (pv 0) rfl) (by rfl)) (pss_one (ps_raiseIsGone (W := fun cls d _ H => E cls d H) rfl T.ig hr (takes_of rfl rfl rfl rfl) (pa_cons (pv 2) pa_nil))) pss_nil))), ?_⟩
    refine ⟨_, rfl, t, rfl, ⟨_, SqT.of ht⟩, for_it walk_tup (fun i σ H' => (i = 0 ∨ p ∉ gs) ∧ (∃ v2 : Option V, σ = [some (.ref x), some (.ref t), v2]) ∧ H' = H) ⟨.inl rfl, ⟨_, rfl⟩, rfl⟩ (fun i σ H' _ ⟨_, _, e⟩ => by rw [e]; exact SqT.of ht) ?_ ?_⟩
    · rintro i y σ H3 H2 hi ⟨_, ⟨v2, rfl⟩, rfl⟩ ⟨rfl, hy⟩
      have hi0 : i = 0 := by have : i < 1 := hi; omega
      subst hi0
      cases hy
      refine ⟨_, rfl, _, rfl, x, C, dx, _, _, rfl, h1, hM.cl T, hM.nG T, mf_gone _ _ _, ?_⟩
      refine ⟨pg, _, rfl, .inr (SqT.of h3), rfl, flat_ints gs, ?_⟩
      rw [inV_ints]
      refine ⟨_, rfl, ?_⟩
      rcases hc with ⟨hp, k⟩ | ⟨hp, hB⟩
      · rw [decide_eq_false hp]
        exact iteF ⟨.inr hp, ⟨_, rfl⟩, rfl⟩
      · rw [decide_eq_true hp]
        exact iteT ⟨_, rfl, _, rfl, fun d hd => hB.go (fun _ _ z => z) hd⟩
    · rintro σ H2 ⟨hp, ⟨v2, rfl⟩, rfl⟩
      rcases hc with ⟨_, k⟩ | ⟨hp2, hB⟩
      · exact k
      · rcases hp with hp | hp
        · cases hp
        · exact absurd hp2 hp
def spPartThere (K : PySem.W.Frag) : Sp := fun vs H Q E => ∃ (x : Addr) (kd : Str) (s : Int) (us : List V) (rs : List (Int × Int)) (gs : List Int) (p : Int), vs = [.ref x, .int p] ∧ Mkt K H x kd s us rs gs ∧
  (((0 ≤ p ∧ p < us.length) ∧ ((p ∉ gs ∧ ∀ H', Ex H H' → Q (.int p) H') ∨ (p ∈ gs ∧ Gon K H E p))) ∨ (¬ (0 ≤ p ∧ p < us.length) ∧ BadP K H E p))
theorem sc_part_there : FnScope ["market", "part"] ["market", "part"] (defScope s_part_there) := ⟨rfl, rfl, rfl, by decide +kernel, rfl, by decide +kernel, by decide +kernel⟩
theorem has_part_there (T : Ctx K mg) : Has w K mg base (L2.CX PP w) "part_there" 4 ["market", "part"] (spPartThere K) := by
  obtain ⟨f1, fd1, m1, kp1, F1, b1⟩ := has_check_part (w := w) (base := base) T
  obtain ⟨f2, fd2, m2, kp2, F2, b2⟩ := has_check_there (w := w) (base := base) T
  refine has_of (st := s_part_there) (f := He.ga K "part_there") T.d_part_there T.g_part_there (fun _ _ _ _ _ _ us hl => match us, hl with | [_, _], _ => rfl) fun fd F => ?_
  refine okX F sc_part_there (fun vs H Q E h => ?_) (fun cdv A outer s H vs Q E hr h => ?_)
  · obtain ⟨x, kd, s, us, rs, gs, p, rfl, _⟩ := h
    rfl
  · obtain ⟨x, kd, s, us, rs, gs, p, rfl, M, hc⟩ := h
    refine ⟨_, pss_cons (ps_expr (pe_call F1 hr (by rfl) m1 kp1 b1 .nil (E := E) (pE rfl rfl (takes_of rfl rfl rfl rfl)) (pa_cons (pv 0) (pa_cons (pv 1) pa_nil))))
      (pss_cons (ps_expr (pe_call F2 (hr.mono (show 2 ≤ 3 by decide)) (by rfl) m2 kp2 b2 .nil (E := E) (pE rfl rfl (takes_of rfl rfl rfl rfl)) (pa_cons (pv 0) (pa_cons (pe_tup (pa_cons (pv 1) pa_nil)) pa_nil))))
      (pss_one (ps_ret (pv 1)))), ?_⟩
    refine ⟨_, rfl, _, rfl, x, kd, s, us, rs, gs, p, rfl, M, ?_⟩
    rcases hc with ⟨hp, hc⟩ | ⟨hp, hB⟩
    · refine .inl ⟨hp, ?_⟩
      refine ⟨_, rfl, _, rfl, (by show 1 ≤ sizeLine; decide), fun t ht => ?_⟩
      have e1 := Ex.new (o := .tup [V.int p]) ht
      refine ⟨x, t, kd, s, us, rs, gs, p, rfl, M.ex e1, upd_same, ?_⟩
      rcases hc with ⟨hg, k⟩ | ⟨hg, hB⟩
      · exact .inl ⟨hg, ⟨_, rfl, k _ e1⟩⟩
      · exact .inr ⟨hg, hB.ex e1⟩
    · exact .inr ⟨hp, hB⟩
/-- by more on the run -/
def shiftRow (D : List Int) (r : Int × Int) (by_ : Int) : List Int := (List.range D.length).map fun j => (D.getD j 0) + (if r.1 ≤ (j : Int) ∧ (j : Int) < r.2 then by_ else 0)
abbrev BadB (K : PySem.W.Frag) (H : Hp) (E : XK) : Prop := Err K "BadNumber" "name" H E (.str "by")
def spChanged (K : PySem.W.Frag) : Sp := fun vs H Q E => ∃ (x : Addr) (kd : Str) (s : Nat) (us : List V) (rs : List (Int × Int)) (ns : List Int) (v rv bv : V), vs = [.ref x, v, rv, bv] ∧ Mkt K H x kd (s : Int) us rs ns ∧ s ≤ 50 ∧
  ((∃ D, Dem H s v D ∧ ∃ (t : Addr) (r : Int × Int), rv = .ref t ∧ H t = some (.tup [.int r.1, .int r.2]) ∧
      ((Fits s r ∧ ((∃ b : Int, bv = .int b ∧ ∀ H' p, Ex H H' → H' p = some (.tup ((shiftRow D r b).map V.int)) → Q (.ref p) H') ∨ (Kd H bv ∧ isI bv = false ∧ BadB K H E))) ∨ (¬ Fits s r ∧ BadR K H E))) ∨
   (∃ n, DemBad H s v n ∧ BadD K H E n))
theorem sc_changed : FnScope ["market", "demand", "run", "by", "wanted", "begin", "end", "place", "number"] ["market", "demand", "run", "by"] (defScope s_changed) := ⟨rfl, rfl, rfl, by decide +kernel, rfl, by decide +kernel, by decide +kernel⟩
theorem has_changed (T : Ctx K mg) : Has w K mg base (L2.CX PP w) "changed" 5 ["market", "demand", "run", "by"] (spChanged K) := by
  obtain ⟨f1, fd1, m1, kp1, F1, b1⟩ := has_demand_of (w := w) (base := base) T
  obtain ⟨f2, fd2, m2, kp2, F2, b2⟩ := has_check_run (w := w) (base := base) T
  obtain ⟨f3, fd3, m3, kp3, F3, b3⟩ := has_is_wholeG (w := w) (base := base) T
  refine has_of (st := s_changed) (f := He.ga K "changed") T.d_changed T.g_changed (fun _ _ _ _ _ _ us hl => match us, hl with | [_, _, _, _], _ => rfl) fun fd F => ?_
  refine okX F sc_changed (fun vs H Q E h => ?_) (fun cdv A outer s0 H vs Q E hr h => ?_)
  · obtain ⟨x, kd, s, us, rs, ns, v, rv, bv, rfl, _⟩ := h
    rfl
  · obtain ⟨x, kd, s, us, rs, ns, v, rv, bv, rfl, M, hs50, hcase⟩ := h
    have nd := sc_changed.nd
    have hr1 := hr.mono (show 1 ≤ 4 by decide)
    have hr2 := hr.mono (show 2 ≤ 4 by decide)
    refine ⟨_, pss_cons (ps_set (i := 4) nd rfl (.inl rfl) (pe_call F1 hr2 (by rfl) m1 kp1 b1 .nil (E := E) (pE rfl rfl (takes_of rfl rfl rfl rfl)) (pa_cons (pv 0) (pa_cons (pv 1) pa_nil))))
      (pss_cons (ps_asg (pe_call F2 hr (by rfl) m2 kp2 b2 .nil (E := E) (pE rfl rfl (takes_of rfl rfl rfl rfl)) (pa_cons (pv 0) (pa_cons (pv 2) pa_nil))) (pg_tup (by rfl) (pgs_cons (pg_name (i := 5) nd rfl (.inr rfl)) (pgs_cons (pg_name (i := 6) nd rfl (.inr rfl)) pgs_nil))))
      (pss_cons (ps_if (pt_not (pt_val (pe_call F3 hr1 (by rfl) m3 kp3 b3 .nil pass0 (pa_cons (pv 3) pa_nil)))) (pss_one (ps_raiseBadNumber (W := fun cls d _ H => E cls d H) rfl T.bn hr (takes_of rfl rfl rfl rfl) (pa_cons pe_str pa_nil))) pss_nil)
      (pss_one (ps_ret (pe_callTy call_tuple_of (by rfl) T.b_tuple (by decide +kernel) (pa_cons
        (pe_lc (own := [("place", 7), ("number", 8)]) (g := gTup K 2 (gCons (gName 7) (gCons (gName 8) gNil))) (tt := tYes) rfl nd (pi_enumT (by rfl) T.b_enumerate (pa_cons (pv 4) pa_nil)) (blkOk_by (own := [("place", 7), ("number", 8)]) (N := ["market", "demand", "run", "by", "wanted", "begin", "end", "place", "number"]) (sc := defScope s_changed) (by decide +kernel))
          (fun _ _ _ _ _ => gTupK rfl (pg_tup (by rfl) (pgs_cons (pg_name (i := 7) nd rfl (.inl rfl)) (pgs_cons (pg_name (i := 8) nd rfl (.inl rfl)) pgs_nil)))) (fun _ _ _ _ _ => pts_nil)
          (fun _ _ _ _ _ => pe_ifExp (pt_chain op_le op_lt (pv 5) (pv 7) (pv 6)) (pe_op op_add (pv 8) (pv 3)) (pv 8))) pa_nil)))))), ?_⟩
    refine ⟨_, rfl, _, rfl, x, kd, s, us, rs, ns, v, rfl, M, hs50, ?_⟩
    rcases hcase with ⟨D, hD, t, r, rfl, ht, hcase⟩ | ⟨n, hn, hB⟩
    rotate_left
    · exact .inr ⟨n, hn, hB⟩
    have hlen := hD.len
    refine .inl ⟨D, hD, fun H1 q e1 hq1 => ?_⟩
    refine ⟨_, rfl, _, rfl, x, t, kd, s, us, rs, ns, r, rfl, M.ex e1, .inr (e1 _ _ ht), ?_⟩
    rcases hcase with ⟨hf, hcase⟩ | ⟨hf, hB⟩
    rotate_left
    · exact .inr ⟨hf, hB.ex e1⟩
    refine .inl ⟨hf, fun H2 t e2 ht2 => ?_⟩
    have e12 := e1.trans e2
    refine ⟨t, _, rfl, SqT.of ht2, rfl, _, _, rfl, _, _, rfl, rfl, ?_⟩
    rcases hcase with ⟨b, rfl, k⟩ | ⟨hk, hi, hB⟩
    rotate_left
    · refine ⟨_, rfl, _, rfl, hk.ex e12, isI bv, rfl, ?_⟩
      rw [hi]
      exact iteT ⟨_, rfl, fun d hd => hB.go e12 hd⟩
    refine ⟨_, rfl, _, rfl, .int b, true, rfl, iteF ?_⟩
    have hq2 := e2 _ _ hq1
    refine ⟨_, rfl, q, _, rfl, SqT.of hq2, fun D' hD' => lc_it walk_enumT (fun i H' => Ex H2 H' ∧ H' D' = some (.lst (((List.range i).map fun j => (D.getD j 0) + (if r.1 ≤ (j : Int) ∧ (j : Int) < r.2 then b else 0)).map V.int))) ⟨Ex.new hD', upd_same⟩ (fun i H' _ z => Ex.tup z.1 hq2) ?_ ?_⟩
    · rintro i y H3 H4 hi ⟨e3, hD3⟩ ⟨tt, x1, y1, rfl, htt, rfl, hx1, hy1⟩
      cases hx1
      obtain ⟨z, hz, rfl⟩ := map_int_get hy1
      have hil : i < D.length := (List.getElem?_eq_some_iff.mp hz).1
      refine ⟨tt, _, rfl, SqT.of upd_same, rfl, _, _, rfl, _, _, rfl, rfl, ?_⟩
      refine ⟨rfl, tYesI ?_⟩
      have e4 : Ex H2 (upd H3 tt (.tup [.int (i : Nat), .int z])) := e3.trans (Ex.new htt)
      have hD4 := (Ex.new (o := .tup [.int (i : Nat), .int z]) htt) _ _ hD3
      have fin : ∀ val : Int, val = z + (if r.1 ≤ (i : Int) ∧ (i : Int) < r.2 then b else 0) → ∃ acc, (upd H3 tt (.tup [.int (i : Nat), .int z])) D' = some (.lst acc) ∧ acc.length < sizeLine ∧ Ex H2 (upd (upd H3 tt (.tup [.int (i : Nat), .int z])) D' (.lst (acc ++ [V.int val]))) ∧ (upd (upd H3 tt (.tup [.int (i : Nat), .int z])) D' (.lst (acc ++ [V.int val]))) D' = some (.lst (((List.range (i + 1)).map fun j => (D.getD j 0) + (if r.1 ≤ (j : Int) ∧ (j : Int) < r.2 then b else 0)).map V.int)) := fun val hv => by
        refine ⟨_, hD4, by rw [List.length_map, List.length_map, List.length_range]; exact small1000 (by omega), Evl.Ex.mut e4 hD', ?_⟩
        rw [upd_same, List.range_succ, List.map_append, List.map_append]
        have hgd : D.getD i 0 = z := by rw [List.getD_eq_getElem?_getD, hz]; rfl
        simp only [List.map_cons, List.map_nil, hgd]
        rw [hv]
      refine ⟨_, rfl, _, rfl, _, _, rfl, rfl, _, rfl, ?_⟩
      by_cases c1 : r.1 ≤ (i : Int)
      · rw [decide_eq_true c1]
        refine iteT ⟨_, rfl, _, _, rfl, rfl, _, rfl, ?_⟩
        by_cases c2 : (i : Int) < r.2
        · rw [decide_eq_true c2]
          refine iteT ⟨_, rfl, _, rfl, _, _, rfl, rfl, ?_⟩
          exact fin _ (by rw [if_pos ⟨c1, c2⟩])
        · rw [decide_eq_false c2]
          refine iteF ⟨_, rfl, ?_⟩
          exact fin _ (by rw [if_neg (fun z => c2 z.2)]; omega)
      · rw [decide_eq_false c1]
        refine iteF ⟨_, rfl, iteF ⟨_, rfl, ?_⟩⟩
        exact fin _ (by rw [if_neg (fun z => c1 z.1)]; omega)
    · rintro H3 ⟨e3, hD3⟩
      rw [List.length_map] at hD3
      exact ⟨D', _, rfl, .inl ⟨SqL.of hD3, fun l hl => k _ l ((e12.trans e3).trans (Ex.new hl)) upd_same⟩⟩
end
end K00


set_option Elab.async false
set_option linter.all false
set_option maxRecDepth 100000
set_option maxHeartbeats 1000000
/-! min(xs, default=d) of a list of whole numbers. -/
namespace L2
open PySem PySem.Spec PyProof.Rows
theorem reads_ints (h : Heap) : ∀ {ns : List Int} {us : List Value}, Vals (ns.map V.int) us → ∃ as, ReadsAll h us (ns.map PySem.W.Datum.toD) as
  | [], us, r => by
    cases r
    exact ⟨_, .nil⟩
  | n :: ns, us, r => by
    cases r with
    | cons r rr =>
      obtain ⟨t, rfl⟩ := r
      obtain ⟨as, q⟩ := reads_ints h rr
      exact ⟨_, .cons (.int n t) q⟩
def rMinD (K : PySem.W.Frag) : List V → List V → Hp → VK → Prop := fun vs zs H Q => ∃ (a : Addr) (ns : List Int) (d : V), vs = [V.ref a] ∧ zs = [d] ∧ SqL K H a (ns.map V.int) ∧
  (ns = [] → Q d H) ∧ ∀ n ms, ns = n :: ms → Q (.int (ms.foldl min n)) H
theorem cr_minD {X : Cx} (hc : X.calm = true) (hu : X.A.units + 1 < cLine) : CallRK X (.builtin "min") [Str.ofString "default"] (rMinD X.K) := by
  intro pins s σ H vs zs us ws Q I r rz h
  obtain ⟨a, ns, d, rfl, rfl, hs, q0, q1⟩ := h
  obtain rfl := Vals.ref1 r
  obtain ⟨w1, rfl, e1⟩ := vals1 rz
  obtain ⟨its, rv, hl, _⟩ := I.list hs
  refine PySem.W.min_list_datum_default (α := Int) (xs := ns) (I.ok.hd hc) hl.isList (reads_ints _ (by simpa using rv)) (by show X.A.units + 1 + 0 < cLine; omega) (fun e h' tk hk => ⟨d, H, I.kept hk, e1, q0 e⟩) fun y ys i v h' tk e hv hh hk => ?_
  obtain ⟨as, rd⟩ := hh
  rw [← PySem.W.minD_map] at rd
  have e2 : PySem.W.minD (PySem.W.Datum.toD y) (ys.map PySem.W.Datum.toD) = .int (ys.foldl min y) := PySem.W.minD_ints y ys
  rw [e2] at rd
  cases rd with
  | int j t => exact ⟨.int _, H, I.kept hk, ⟨_, rfl⟩, q1 y ys e⟩
end L2


set_option Elab.async false
set_option linter.all false
set_option maxRecDepth 100000
set_option maxHeartbeats 4000000
namespace K00
open PySem PySem.Spec PyProof.Rows L2 RZ StX
open Evl (Ex)
/-- an amount: None or a whole number -/
def amV : Option Int → V
  | none => .non
  | some n => .int n
def amtB : V → Bool
  | .non => true
  | .int _ => true
  | _ => false
theorem amtB_iff {v : V} : amtB v = true ↔ ∃ o, v = amV o := by
  cases v with
  | non => exact ⟨fun _ => ⟨none, rfl⟩, fun _ => rfl⟩
  | int n => exact ⟨fun _ => ⟨some n, rfl⟩, fun _ => rfl⟩
  | _ => exact ⟨(fun h => nomatch h), (fun ⟨o, h⟩ => by cases o <;> cases h)⟩
theorem amtB_am (o : Option Int) : amtB (amV o) = true := by cases o <;> rfl
theorem kd_am {H : Hp} (o : Option Int) : Kd H (amV o) := by
  cases o
  · exact .non
  · exact .int _
theorem flat_am (o : Option Int) : flatV (amV o) = true := by cases o <;> rfl
def plusO : Option Int → Option Int → Option Int
  | some a, some b => some (a + b)
  | _, _ => none
def atMostO : Option Int → Option Int → Bool
  | _, none => true
  | none, some _ => false
  | some a, some b => decide (a ≤ b)
def gapO : Option Int → Int → Option Int
  | some a, b => some (a - b)
  | none, _ => none
def totalO (os : List (Option Int)) : Option Int := if none ∈ os then none else some (os.map fun o => o.getD 0).sum
def wholes (os : List (Option Int)) : List Int := os.filterMap id
def leastO (os : List (Option Int)) : Option Int := match wholes os with
  | [] => none
  | n :: ms => some (ms.foldl min n)
section
variable {w : World} {K : PySem.W.Frag} {mg : Str → Option Value} {base : Heap}
abbrev BadNm (K : PySem.W.Frag) (H : Hp) (E : XK) (n : Str) : Prop := Err K "BadNumber" "name" H E (.str n)
def spAmount : Sp := fun vs H Q _ => ∃ v : V, vs = [v] ∧ Kd H v ∧ Q (.bl (amtB v)) H
theorem sc_is_amount : FnScope ["value"] ["value"] (defScope s_is_amount) := ⟨rfl, rfl, rfl, by decide +kernel, rfl, by decide +kernel, by decide +kernel⟩
theorem has_is_amount (T : Ctx K mg) : Has w K mg base CX0 "is_amount" 2 ["value"] spAmount := by
  obtain ⟨f1, fd1, m1, kp1, F1, b1⟩ := has_is_wholeG (w := w) (base := base) T
  refine has_of (st := s_is_amount) (f := He.ga K "is_amount") T.d_is_amount T.g_is_amount (fun _ _ _ _ _ _ us hl => match us, hl with | [_], _ => rfl) fun fd F => ?_
  refine ok0 F sc_is_amount (fun vs H Q E h => ?_) (fun cdv A outer s H vs Q E hr h => ?_)
  · obtain ⟨v, rfl, _⟩ := h
    rfl
  · obtain ⟨v, rfl, hk, k⟩ := h
    refine ⟨_, pss_one (ps_ret (pe_or (pe_cmpR op_isN (pv 0) pe_non (nomark _)) (pe_one (pe_call F1 hr (by rfl) m1 kp1 b1 .nil pass0 (pa_cons (pv 0) pa_nil))))), ?_⟩
    refine ⟨_, rfl, rfl, ?_⟩
    cases hk with
    | non => exact ⟨_, rfl, iteT k⟩
    | int n => exact ⟨_, rfl, iteF' rfl ⟨_, rfl, _, rfl, .int n, k⟩⟩
    | bl b => exact ⟨_, rfl, iteF' rfl ⟨_, rfl, _, rfl, .bl b, k⟩⟩
    | str z => exact ⟨_, rfl, iteF' rfl ⟨_, rfl, _, rfl, .str z, k⟩⟩
    | lst h => exact ⟨_, rfl, iteF' rfl ⟨_, rfl, _, rfl, .lst h, k⟩⟩
    | tup h => exact ⟨_, rfl, iteF' rfl ⟨_, rfl, _, rfl, .tup h, k⟩⟩
def spAmounts (K : PySem.W.Frag) : Sp := fun vs H Q E => ∃ u v : V, vs = [u, v] ∧ Kd H u ∧ Kd H v ∧ ((amtB u = false ∧ BadNm K H E "one") ∨ (amtB u = true ∧ amtB v = false ∧ BadNm K H E "other") ∨ (amtB u = true ∧ amtB v = true ∧ Q .non H))
theorem sc_check_amounts : FnScope ["one", "other"] ["one", "other"] (defScope s_check_amounts) := ⟨rfl, rfl, rfl, by decide +kernel, rfl, by decide +kernel, by decide +kernel⟩
theorem has_check_amounts (T : Ctx K mg) : Has w K mg base (L2.CX PP w) "check_amounts" 3 ["one", "other"] (spAmounts K) := by
  obtain ⟨f1, fd1, m1, kp1, F1, b1⟩ := has_is_amount (w := w) (base := base) T
  refine has_of (st := s_check_amounts) (f := He.ga K "check_amounts") T.d_check_amounts T.g_check_amounts (fun _ _ _ _ _ _ us hl => match us, hl with | [_, _], _ => rfl) fun fd F => ?_
  refine okX F sc_check_amounts (fun vs H Q E h => ?_) (fun cdv A outer s H vs Q E hr h => ?_)
  · obtain ⟨u, v, rfl, _⟩ := h
    rfl
  · obtain ⟨u, v, rfl, hu, hv, hc⟩ := h
    refine ⟨_, pss_cons (ps_if (pt_not (pt_val (pe_call F1 hr (by rfl) m1 kp1 b1 .nil pass0 (pa_cons (pv 0) pa_nil)))) (pss_one (ps_raiseBadNumber (W := fun cls d _ H => E cls d H) rfl T.bn hr (takes_of rfl rfl rfl rfl) (pa_cons pe_str pa_nil))) pss_nil)
      (pss_one (ps_if (pt_not (pt_val (pe_call F1 hr (by rfl) m1 kp1 b1 .nil pass0 (pa_cons (pv 1) pa_nil)))) (pss_one (ps_raiseBadNumber (W := fun cls d _ H => E cls d H) rfl T.bn hr (takes_of rfl rfl rfl rfl) (pa_cons pe_str pa_nil))) pss_nil)), ?_⟩
    refine ⟨_, rfl, u, rfl, hu, amtB u, rfl, ?_⟩
    rcases hc with ⟨c1, hB⟩ | ⟨c1, c2, hB⟩ | ⟨c1, c2, k⟩
    · rw [c1]
      exact iteT ⟨_, rfl, fun d hd => hB.go (fun _ _ z => z) hd⟩
    · rw [c1]
      refine iteF ⟨_, rfl, v, rfl, hv, amtB v, rfl, ?_⟩
      rw [c2]
      exact iteT ⟨_, rfl, fun d hd => hB.go (fun _ _ z => z) hd⟩
    · rw [c1]
      refine iteF ⟨_, rfl, v, rfl, hv, amtB v, rfl, ?_⟩
      rw [c2]
      exact iteF k
def spPlus (K : PySem.W.Frag) : Sp := fun vs H Q E => ∃ u v : V, vs = [u, v] ∧ Kd H u ∧ Kd H v ∧ ((amtB u = false ∧ BadNm K H E "one") ∨ (amtB u = true ∧ amtB v = false ∧ BadNm K H E "other") ∨ (∃ a b, u = amV a ∧ v = amV b ∧ Q (amV (plusO a b)) H))
theorem sc_plus : FnScope ["one", "other"] ["one", "other"] (defScope s_plus) := ⟨rfl, rfl, rfl, by decide +kernel, rfl, by decide +kernel, by decide +kernel⟩
theorem has_plus (T : Ctx K mg) : Has w K mg base (L2.CX PP w) "plus" 4 ["one", "other"] (spPlus K) := by
  obtain ⟨f1, fd1, m1, kp1, F1, b1⟩ := has_check_amounts (w := w) (base := base) T
  refine has_of (st := s_plus) (f := He.ga K "plus") T.d_plus T.g_plus (fun _ _ _ _ _ _ us hl => match us, hl with | [_, _], _ => rfl) fun fd F => ?_
  refine okX F sc_plus (fun vs H Q E h => ?_) (fun cdv A outer s H vs Q E hr h => ?_)
  · obtain ⟨u, v, rfl, _⟩ := h
    rfl
  · obtain ⟨u, v, rfl, hu, hv, hc⟩ := h
    refine ⟨_, pss_cons (ps_expr (pe_call F1 hr (by rfl) m1 kp1 b1 .nil (E := E) (pE rfl rfl (takes_of rfl rfl rfl rfl)) (pa_cons (pv 0) (pa_cons (pv 1) pa_nil))))
      (pss_cons (ps_if (PW.pt (pw_or (pt_cmpR op_isN (pv 0) pe_non (nomark _)) (pw_or1 (pt_cmpR op_isN (pv 1) pe_non (nomark _))))) (pss_one (ps_ret pe_non)) pss_nil)
      (pss_one (ps_ret (pe_op op_add (pv 0) (pv 1))))), ?_⟩
    refine ⟨_, rfl, _, rfl, u, v, rfl, hu, hv, ?_⟩
    rcases hc with ⟨c1, hB⟩ | ⟨c1, c2, hB⟩ | ⟨a, b, rfl, rfl, k⟩
    · exact .inl ⟨c1, hB⟩
    · exact .inr (.inl ⟨c1, c2, hB⟩)
    · refine .inr (.inr ⟨amtB_am a, amtB_am b, ?_⟩)
      cases a with
      | none => exact ⟨_, rfl, rfl, _, rfl, iteT k⟩
      | some a =>
        refine ⟨_, rfl, rfl, _, rfl, iteF' rfl ⟨_, rfl, rfl, _, rfl, ?_⟩⟩
        cases b with
        | none => exact iteT k
        | some b => exact iteF' rfl ⟨_, rfl, _, rfl, _, _, rfl, rfl, k⟩
def spAtMost : Sp := fun vs H Q _ => ∃ a b, vs = [amV a, amV b] ∧ Q (.bl (atMostO a b)) H
theorem sc_at_most : FnScope ["one", "other"] ["one", "other"] (defScope s_at_most) := ⟨rfl, rfl, rfl, by decide +kernel, rfl, by decide +kernel, by decide +kernel⟩
theorem has_at_most (T : Ctx K mg) : Has w K mg base (L2.CX PP w) "at_most" 4 ["one", "other"] spAtMost := by
  obtain ⟨f1, fd1, m1, kp1, F1, b1⟩ := has_check_amounts (w := w) (base := base) T
  refine has_of (st := s_at_most) (f := He.ga K "at_most") T.d_at_most T.g_at_most (fun _ _ _ _ _ _ us hl => match us, hl with | [_, _], _ => rfl) fun fd F => ?_
  refine okX F sc_at_most (fun vs H Q E h => ?_) (fun cdv A outer s H vs Q E hr h => ?_)
  · obtain ⟨u, v, rfl, _⟩ := h
    rfl
  · obtain ⟨a, b, rfl, k⟩ := h
    refine ⟨_, pss_cons (ps_expr (pe_call F1 hr (by rfl) m1 kp1 b1 .nil (E := E) (pE rfl rfl (takes_of rfl rfl rfl rfl)) (pa_cons (pv 0) (pa_cons (pv 1) pa_nil))))
      (pss_cons (ps_if (pt_cmpR op_isN (pv 1) pe_non (nomark _)) (pss_one (ps_ret pe_bl)) pss_nil)
      (pss_one (ps_ret (pe_and (pe_cmpR op_notN (pv 0) pe_non (nomark _)) (pe_one (pe_cmpR op_le (pv 0) (pv 1) (nomark _))))))), ?_⟩
    refine ⟨_, rfl, _, rfl, _, _, rfl, kd_am a, kd_am b, .inr (.inr ⟨amtB_am a, amtB_am b, ?_⟩)⟩
    cases b with
    | none =>
      refine ⟨_, rfl, rfl, _, rfl, iteT ?_⟩
      cases a <;> exact k
    | some b =>
      refine ⟨_, rfl, rfl, _, rfl, iteF' rfl ⟨_, rfl, rfl, ?_⟩⟩
      cases a with
      | none => exact ⟨_, rfl, iteF' rfl k⟩
      | some a => exact ⟨_, rfl, iteT' rfl ⟨_, rfl, _, rfl, _, _, rfl, rfl, k⟩⟩
def spGap (K : PySem.W.Frag) : Sp := fun vs H Q E => ∃ (a : Option Int) (v : V), vs = [amV a, v] ∧ Kd H v ∧ ((isI v = false ∧ BadNm K H E "other") ∨ (∃ b, v = .int b ∧ Q (amV (gapO a b)) H))
theorem sc_gap : FnScope ["one", "other"] ["one", "other"] (defScope s_gap) := ⟨rfl, rfl, rfl, by decide +kernel, rfl, by decide +kernel, by decide +kernel⟩
theorem has_gap (T : Ctx K mg) : Has w K mg base (L2.CX PP w) "gap" 4 ["one", "other"] (spGap K) := by
  obtain ⟨f1, fd1, m1, kp1, F1, b1⟩ := has_is_amount (w := w) (base := base) T
  obtain ⟨f2, fd2, m2, kp2, F2, b2⟩ := has_is_wholeG (w := w) (base := base) T
  refine has_of (st := s_gap) (f := He.ga K "gap") T.d_gap T.g_gap (fun _ _ _ _ _ _ us hl => match us, hl with | [_, _], _ => rfl) fun fd F => ?_
  refine okX F sc_gap (fun vs H Q E h => ?_) (fun cdv A outer s H vs Q E hr h => ?_)
  · obtain ⟨u, v, rfl, _⟩ := h
    rfl
  · obtain ⟨a, v, rfl, hv, hc⟩ := h
    refine ⟨_, pss_cons (ps_if (pt_not (pt_val (pe_call F1 (hr.mono (show 2 ≤ 3 by decide)) (by rfl) m1 kp1 b1 .nil pass0 (pa_cons (pv 0) pa_nil)))) (pss_one (ps_raiseBadNumber (W := fun cls d _ H => E cls d H) rfl T.bn hr (takes_of rfl rfl rfl rfl) (pa_cons pe_str pa_nil))) pss_nil)
      (pss_cons (ps_if (pt_not (pt_val (pe_call F2 (hr.mono (show 1 ≤ 3 by decide)) (by rfl) m2 kp2 b2 .nil pass0 (pa_cons (pv 1) pa_nil)))) (pss_one (ps_raiseBadNumber (W := fun cls d _ H => E cls d H) rfl T.bn hr (takes_of rfl rfl rfl rfl) (pa_cons pe_str pa_nil))) pss_nil)
      (pss_cons (ps_if (pt_cmpR op_isN (pv 0) pe_non (nomark _)) (pss_one (ps_ret pe_non)) pss_nil)
      (pss_one (ps_ret (pe_op op_sub (pv 0) (pv 1)))))), ?_⟩
    refine ⟨_, rfl, _, rfl, kd_am a, _, rfl, iteF' (by rw [amtB_am]; rfl) ⟨_, rfl, v, rfl, hv, isI v, rfl, ?_⟩⟩
    rcases hc with ⟨c, hB⟩ | ⟨b, rfl, k⟩
    · rw [c]
      exact iteT ⟨_, rfl, fun d hd => hB.go (fun _ _ z => z) hd⟩
    · refine iteF' rfl ⟨_, rfl, rfl, _, rfl, ?_⟩
      cases a with
      | none => exact iteT k
      | some a => exact iteF' rfl ⟨_, rfl, _, rfl, _, _, rfl, rfl, k⟩
/-! ### rows of amounts -/
def spAmountRow (K : PySem.W.Frag) : Sp := fun vs H Q E => ∃ (a : Addr) (xs : List V), vs = [.ref a] ∧ SeqAt2 H a xs ∧ (∀ z ∈ xs, Kd H z) ∧ xs.length ≤ 100 ∧ ((xs.all amtB = true ∧ ∀ H', Ex H H' → Q .non H') ∨ (xs.all amtB = false ∧ BadNm K H E "row"))
theorem sc_check_amount_row : FnScope ["row", "item"] ["row"] (defScope s_check_amount_row) := ⟨rfl, rfl, rfl, by decide +kernel, rfl, by decide +kernel, by decide +kernel⟩
theorem has_check_amount_row (T : Ctx K mg) : Has w K mg base (L2.CX PP w) "check_amount_row" 3 ["row"] (spAmountRow K) := by
  obtain ⟨f1, fd1, m1, kp1, F1, b1⟩ := has_is_rowG (w := w) (base := base) T
  obtain ⟨f2, fd2, m2, kp2, F2, b2⟩ := has_is_amount (w := w) (base := base) T
  refine has_of (st := s_check_amount_row) (f := He.ga K "check_amount_row") T.d_check_amount_row T.g_check_amount_row (fun _ _ _ _ _ _ us hl => match us, hl with | [_], _ => rfl) fun fd F => ?_
  refine okX F sc_check_amount_row (fun vs H Q E h => ?_) (fun cdv A outer s H vs Q E hr h => ?_)
  · obtain ⟨a, xs, rfl, _⟩ := h
    rfl
  · obtain ⟨a, xs, rfl, ha, hks, hl, hc⟩ := h
    have nd := sc_check_amount_row.nd
    refine ⟨_, pss_one (ps_if (PW.pt (pw_or (pt_not (pt_val (pe_call F1 (hr.mono (show 1 ≤ 2 by decide)) (by rfl) m1 kp1 b1 .nil pass0 (pa_cons (pv 0) pa_nil)))) (pw_or1 (pt_not (pt_val (pe_callB (cr_all rfl) (by rfl) T.b_all (by decide +kernel) (pa_cons
        (pe_lc (own := [("item", 1)]) (g := gName 1) (tt := tYes) rfl nd (pi_or (pi_list (pv 0)) (pi_tup (pv 0))) (blkOk_by (own := [("item", 1)]) (N := ["row", "item"]) (sc := defScope s_check_amount_row) (by decide +kernel)) (fun _ _ _ _ _ => pg_name (i := 1) nd rfl (Or.inl rfl)) (fun _ _ _ _ _ => pts_nil)
          (fun _ _ _ _ _ => pe_call F2 hr (by rfl) m2 kp2 b2 .nil pass0 (pa_cons (pv 1) pa_nil))) pa_nil)))))))
        (pss_one (ps_raiseBadNumber (W := fun cls d _ H => E cls d H) rfl T.bn hr (takes_of rfl rfl rfl rfl) (pa_cons pe_str pa_nil))) pss_nil), ?_⟩
    refine ⟨_, rfl, _, rfl, ha.elim Kd.lst Kd.tup, fun H1 e1 => ⟨true, rfl, iteF ?_⟩⟩
    have fin : ∀ (H2 : Hp) (D' : Addr), Ex H H2 → H2 D' = some (.lst ((xs.map amtB).map V.bl)) → ((xs.map amtB).all id) = xs.all amtB := fun _ _ _ _ => by rw [List.all_map]; rfl
    rcases ha with ha | ha
    · refine .inl ⟨_, rfl, a, rfl, ⟨_, Ex.lst e1 ha⟩, fun D' hD' => lc_it walk_list (fun i H' => Ex H H' ∧ H' D' = some (.lst (((xs.take i).map amtB).map V.bl))) ⟨e1.trans (Ex.new hD'), upd_same⟩ (fun i H' _ q => Ex.lst q.1 ha) ?_ ?_⟩
      · rintro i y H2 H3 hi ⟨e2, hD2⟩ ⟨rfl, hy⟩
        refine ⟨rfl, tYesI ?_⟩
        refine ⟨_, rfl, _, rfl, (hks y (List.mem_of_getElem? hy)).ex e2, _, hD2, by rw [List.length_map, List.length_map, List.length_take]; exact small1000 (by omega), Evl.Ex.mut e2 (Evl.fresh_back e1 hD'), ?_⟩
        rw [upd_same, List.take_add_one, (show xs[i]? = some y from hy), List.map_append, List.map_append]
        rfl
      · rintro H2 ⟨e2, hD2⟩
        rw [List.take_length] at hD2
        refine ⟨D', _, rfl, SqL.of hD2, _, rfl, ?_⟩
        rw [fin H2 D' e2 hD2]
        rcases hc with ⟨c, k⟩ | ⟨c, hB⟩
        · rw [c]
          exact iteF (k _ e2)
        · rw [c]
          exact iteT ⟨_, rfl, fun d hd => hB.go e2 hd⟩
    · refine .inr ⟨_, rfl, a, rfl, ⟨_, Ex.tup e1 ha⟩, fun D' hD' => lc_it walk_tup (fun i H' => Ex H H' ∧ H' D' = some (.lst (((xs.take i).map amtB).map V.bl))) ⟨e1.trans (Ex.new hD'), upd_same⟩ (fun i H' _ q => Ex.tup q.1 ha) ?_ ?_⟩
      · rintro i y H2 H3 hi ⟨e2, hD2⟩ ⟨rfl, hy⟩
        refine ⟨rfl, tYesI ?_⟩
        refine ⟨_, rfl, _, rfl, (hks y (List.mem_of_getElem? hy)).ex e2, _, hD2, by rw [List.length_map, List.length_map, List.length_take]; exact small1000 (by omega), Evl.Ex.mut e2 (Evl.fresh_back e1 hD'), ?_⟩
        rw [upd_same, List.take_add_one, (show xs[i]? = some y from hy), List.map_append, List.map_append]
        rfl
      · rintro H2 ⟨e2, hD2⟩
        rw [List.take_length] at hD2
        refine ⟨D', _, rfl, SqL.of hD2, _, rfl, ?_⟩
        rw [fin H2 D' e2 hD2]
        rcases hc with ⟨c, k⟩ | ⟨c, hB⟩
        · rw [c]
          exact iteF (k _ e2)
        · rw [c]
          exact iteT ⟨_, rfl, fun d hd => hB.go e2 hd⟩
end
end K00


set_option Elab.async false
set_option linter.all false
set_option maxRecDepth 100000
set_option maxHeartbeats 4000000
namespace K00
open PySem PySem.Spec PyProof.Rows L2 RZ StX
open Evl (Ex)
theorem inV_none : ∀ os : List (Option Int), inV .non (os.map amV) = decide (none ∈ os)
  | [] => by simp [inV]
  | o :: os => by
    have ih := inV_none os
    unfold inV at ih ⊢
    rw [List.map_cons, List.any_cons, ih]
    cases o with
    | none => simp [amV, eqV]
    | some n => simp [amV, eqV]
theorem flat_ams (os : List (Option Int)) : (os.map amV).all flatV = true := List.all_eq_true.mpr fun v hv => by
  obtain ⟨o, _, rfl⟩ := List.mem_map.mp hv
  exact flat_am o
theorem am_ints : ∀ {os : List (Option Int)}, none ∉ os → os.map amV = (os.map fun o => o.getD 0).map V.int
  | [], _ => rfl
  | o :: os, h => by
    have h2 : none ∉ os := fun z => h (List.mem_cons_of_mem _ z)
    rw [List.map_cons, List.map_cons, List.map_cons, am_ints h2]
    cases o with
    | none => exact absurd List.mem_cons_self h
    | some n => rfl
theorem am_all (os : List (Option Int)) : (os.map amV).all amtB = true := List.all_eq_true.mpr fun v hv => by
  obtain ⟨o, _, rfl⟩ := List.mem_map.mp hv
  exact amtB_am o
theorem am_kd {H : Hp} (os : List (Option Int)) : ∀ z ∈ os.map amV, Kd H z := fun v hv => by
  obtain ⟨o, _, rfl⟩ := List.mem_map.mp hv
  exact kd_am o
theorem am_get {os : List (Option Int)} {i : Nat} {y : V} (h : (os.map amV)[i]? = some y) : ∃ o, os[i]? = some o ∧ y = amV o := by
  rw [List.getElem?_map] at h
  cases q : os[i]? with
  | none => rw [q] at h; cases h
  | some o => rw [q] at h; exact ⟨o, rfl, (Option.some.inj h).symm⟩
section
variable {w : World} {K : PySem.W.Frag} {mg : Str → Option Value} {base : Heap}
def spTotal (K : PySem.W.Frag) : Sp := fun vs H Q E => ∃ (a : Addr) (xs : List V), vs = [.ref a] ∧ H a = some (.lst xs) ∧ (∀ z ∈ xs, Kd H z) ∧ xs.length ≤ 100 ∧ ((∃ os, xs = os.map amV ∧ ∀ H', Ex H H' → Q (amV (totalO os)) H') ∨ (xs.all amtB = false ∧ BadNm K H E "row"))
theorem sc_total : FnScope ["row"] ["row"] (defScope s_total) := ⟨rfl, rfl, rfl, by decide +kernel, rfl, by decide +kernel, by decide +kernel⟩
theorem has_total (T : Ctx K mg) : Has w K mg base (L2.CX PP w) "total" 4 ["row"] (spTotal K) := by
  obtain ⟨f1, fd1, m1, kp1, F1, b1⟩ := has_check_amount_row (w := w) (base := base) T
  refine has_of (st := s_total) (f := He.ga K "total") T.d_total T.g_total (fun _ _ _ _ _ _ us hl => match us, hl with | [_], _ => rfl) fun fd F => ?_
  refine okX F sc_total (fun vs H Q E h => ?_) (fun cdv A outer s H vs Q E hr h => ?_)
  · obtain ⟨a, xs, rfl, _⟩ := h
    rfl
  · obtain ⟨a, xs, rfl, ha, hks, hl, hc⟩ := h
    refine ⟨_, pss_cons (ps_expr (pe_call F1 hr (by rfl) m1 kp1 b1 .nil (E := E) (pE rfl rfl (takes_of rfl rfl rfl rfl)) (pa_cons (pv 0) pa_nil)))
      (pss_cons (ps_if (pt_cmpR op_in_seq pe_non (pv 0) (by rfl)) (pss_one (ps_ret pe_non)) pss_nil)
      (pss_one (ps_ret (pe_callB (cr_sum rfl) (by rfl) T.b_sum (by decide +kernel) (pa_cons (pv 0) pa_nil))))), ?_⟩
    refine ⟨_, rfl, a, xs, rfl, .inl ha, hks, hl, ?_⟩
    rcases hc with ⟨os, rfl, k⟩ | ⟨c, hB⟩
    · refine .inl ⟨am_all os, fun H1 e1 => ?_⟩
      refine ⟨_, rfl, a, _, rfl, .inl (SqL.of (e1 _ _ ha)), rfl, flat_ams os, ?_⟩
      rw [inV_none]
      refine ⟨_, rfl, ?_⟩
      have k1 := k H1 e1
      unfold totalO at k1
      by_cases c : none ∈ os
      · rw [if_pos c] at k1
        rw [decide_eq_true c]
        exact iteT k1
      · rw [if_neg c] at k1
        rw [decide_eq_false c]
        refine iteF ⟨_, rfl, a, _, rfl, ?_, k1⟩
        rw [← am_ints c]
        exact SqL.of (e1 _ _ ha)
    · exact .inr ⟨c, hB⟩
def spLeast (K : PySem.W.Frag) : Sp := fun vs H Q E => ∃ (a : Addr) (os : List (Option Int)), vs = [.ref a] ∧ H a = some (.tup (os.map amV)) ∧ os.length ≤ 100 ∧ ∀ H', Ex H H' → Q (amV (leastO os)) H'
theorem sc_least : FnScope ["row", "item"] ["row"] (defScope s_least) := ⟨rfl, rfl, rfl, by decide +kernel, rfl, by decide +kernel, by decide +kernel⟩
theorem wholes_len (os : List (Option Int)) : (wholes os).length ≤ os.length := List.length_filterMap_le _ _
theorem has_least (T : Ctx K mg) : Has w K mg base (L2.CX PP w) "least" 4 ["row"] (spLeast K) := by
  obtain ⟨f1, fd1, m1, kp1, F1, b1⟩ := has_check_amount_row (w := w) (base := base) T
  refine has_of (st := s_least) (f := He.ga K "least") T.d_least T.g_least (fun _ _ _ _ _ _ us hl => match us, hl with | [_], _ => rfl) fun fd F => ?_
  refine okX F sc_least (fun vs H Q E h => ?_) (fun cdv A outer s H vs Q E hr h => ?_)
  · obtain ⟨a, os, rfl, _⟩ := h
    rfl
  · obtain ⟨a, os, rfl, ha, hl, k⟩ := h
    have nd := sc_least.nd
    have hu := hr.units
    refine ⟨_, pss_cons (ps_expr (pe_call F1 hr (by rfl) m1 kp1 b1 .nil (E := E) (pE rfl rfl (takes_of rfl rfl rfl rfl)) (pa_cons (pv 0) pa_nil)))
      (pss_one (ps_ret (pe_callBK (cr_minD rfl (Nat.lt_of_le_of_lt (Nat.add_le_add_left (by decide : 1 ≤ 64) _) hu)) (by rfl) T.b_min (by decide +kernel) (pa_cons
        (pe_lc (own := [("item", 1)]) (g := gName 1) rfl nd (pi_tup (pv 0)) (blkOk_by (own := [("item", 1)]) (N := ["row", "item"]) (sc := defScope s_least) (by decide +kernel)) (fun _ _ _ _ _ => pg_name (i := 1) nd rfl (Or.inl rfl)) (fun _ _ _ _ _ => pts_one (pt_cmpR op_notN (pv 1) pe_non (nomark _)))
          (fun _ _ _ _ _ => pv 1)) pa_nil) (pk_cons pe_non pk_nil)))), ?_⟩
    refine ⟨_, rfl, a, _, rfl, .inr ha, am_kd os, by rw [List.length_map]; exact hl, .inl ⟨am_all os, fun H1 e1 => ?_⟩⟩
    have ha1 := e1 _ _ ha
    refine ⟨_, rfl, a, rfl, ⟨_, SqT.of ha1⟩, fun D' hD' => lc_it walk_tup (fun i H' => Ex H1 H' ∧ H' D' = some (.lst ((wholes (os.take i)).map V.int))) ⟨Ex.new hD', upd_same⟩ (fun i H' _ q => Ex.tup q.1 ha1) ?_ ?_⟩
    · rintro i y H2 H3 hi ⟨e2, hD2⟩ ⟨rfl, hy⟩
      obtain ⟨o, ho, rfl⟩ := am_get hy
      have hi2 : i < os.length := (List.getElem?_eq_some_iff.mp ho).1
      have hln := wholes_len (os.take i)
      rw [List.length_take] at hln
      refine ⟨rfl, ?_⟩
      refine ⟨_, rfl, rfl, _, rfl, ?_⟩
      have hw : wholes (os.take (i + 1)) = wholes (os.take i) ++ wholes [o] := by
        unfold wholes
        rw [List.take_add_one, ho, List.filterMap_append]
        rfl
      rw [hw]
      cases o with
      | none =>
        refine iteF' rfl ⟨e2, ?_⟩
        show H3 D' = some (HO.lst ((wholes (os.take i) ++ []).map V.int))
        rw [List.append_nil]
        exact hD2
      | some n =>
        refine iteT' rfl ⟨_, rfl, _, hD2, by rw [List.length_map]; exact small1000 (by omega), Evl.Ex.mut e2 hD', ?_⟩
        rw [upd_same, List.map_append]
        rfl
    · rintro H2 ⟨e2, hD2⟩
      rw [List.length_map, List.take_length] at hD2
      have k2 := k H2 (e1.trans e2)
      refine ⟨D', wholes os, .non, rfl, rfl, SqL.of hD2, fun e => ?_, fun n ms e => ?_⟩
      · unfold leastO at k2
        rw [e] at k2
        exact k2
      · unfold leastO at k2
        rw [e] at k2
        exact k2
end
end K00


set_option Elab.async false
set_option linter.all false
set_option maxRecDepth 100000
set_option maxHeartbeats 4000000
namespace K00
open PySem PySem.Spec PyProof.Rows L2 RZ StX
open Evl (Ex)
theorem _root_.L2.PS.nrm {X : Cx} {st : Stmt} {t : TS} (h : PS X st t) : PS X st (fun D σ H => ∃ σ', σ = σ' ∧ t D σ' H) := h.imp fun D σ H ⟨σ', e, q⟩ => by
  subst e
  exact q
theorem begL_at (D : List Int) {i : Nat} (h : i < D.length + 1) : (begL D)[i]? = some ((D ++ [0]).getD i 0 - (0 :: D).getD i 0) := by
  unfold begL
  rw [List.getElem?_map, List.getElem?_range h]
  rfl
theorem begL_len (D : List Int) : (begL D).length = D.length + 1 := by unfold begL; simp
section
variable {w : World} {K : PySem.W.Frag} {mg : Str → Option Value} {base : Heap}
theorem ix_listK {X : Cx} (h : X.K = K) : IxR X (rIxL K) := by
  subst h
  exact ix_list
/-! ### cover -/
def spCover (K : PySem.W.Frag) : Sp := fun vs H Q E => ∃ (x : Addr) (kd : Str) (s : Nat) (us : List V) (rs : List (Int × Int)) (gs : List Int) (v : V), vs = [.ref x, v] ∧ Mkt K H x kd (s : Int) us rs gs ∧ s ≤ 50 ∧ (∀ r ∈ rs, Fits s r) ∧
  ((∃ ps, RowI H v ps ∧ Parts us.length ps ∧ ∀ ms, Ord ps ms → ∀ H' q, Ex H H' → H' q = some (.tup ((covL s rs ms).map V.int)) → Q (.ref q) H') ∨ (∃ n, SetBad H us.length v n ∧ Bad K H E n))
theorem sc_cover : FnScope ["market", "parts"] ["market", "parts"] (defScope s_cover) := ⟨rfl, rfl, rfl, by decide +kernel, rfl, by decide +kernel, by decide +kernel⟩
theorem has_cover (T : Ctx K mg) : Has w K mg base (L2.CX PP w) "cover" 4 ["market", "parts"] (spCover K) := by
  obtain ⟨f1, fd1, m1, kp1, F1, b1⟩ := has_set (w := w) (base := base) T
  obtain ⟨f2, fd2, m2, kp2, F2, b2⟩ := has_covered (w := w) (base := base) T
  refine has_of (st := s_cover) (f := He.ga K "cover") T.d_cover T.g_cover (fun _ _ _ _ _ _ us hl => match us, hl with | [_, _], _ => rfl) fun fd F => ?_
  refine okX F sc_cover (fun vs H Q E h => ?_) (fun cdv A outer s0 H vs Q E hr h => ?_)
  · obtain ⟨x, kd, s, us, rs, gs, v, rfl, _⟩ := h
    rfl
  · obtain ⟨x, kd, s, us, rs, gs, v, rfl, M, hs50, hF, hcase⟩ := h
    have hul := M.runs.len
    refine ⟨_, pss_one (ps_ret (pe_call F2 (hr.mono (show 1 ≤ 3 by decide)) (by rfl) m2 kp2 b2 .nil pass0 (pa_cons (pv 0) (pa_cons (pe_call F1 hr (by rfl) m1 kp1 b1 .nil (E := E) (pE rfl rfl (takes_of rfl rfl rfl rfl)) (pa_cons (pe_many T rfl rfl rfl rfl (pv 0) hr (by decide) rfl) (pa_cons (pv 1) pa_nil))) pa_nil)))), ?_⟩
    refine ⟨_, rfl, _, rfl, x, kd, s, us, rs, gs, rfl, M, _, rfl, us.length, v, rfl, by omega, ?_⟩
    rcases hcase with ⟨ps, hp, hP, k⟩ | ⟨n, hn, hB⟩
    · refine .inl ⟨ps, hp, hP, fun ms H1 q ho e1 hq hq1 => ?_⟩
      exact ⟨x, q, kd, s, us, rs, gs, ms, rfl, M.ex e1, hs50, hF, hq1, fun n hn => by have := ho.inn hP n hn; omega, fun H2 q2 e2 _ hq2 => k ms ho H2 q2 (e1.trans e2) hq2⟩
    · exact .inr (hn.alt (fun _ _ z => z) hB)
/-! ### the law's demand -/
def spWantedD : Sp := fun vs H Q _ => ∃ (D : Addr), vs = [.ref D] ∧ Dr D H ∧ ∀ (n : Int) H', Kp D H H' → Dr D H' → Q (.int n) H'
theorem sc_wantedD : FnScope ["_law_draws_here"] ["_law_draws_here"] (defScope s__law_size_wanted) := ⟨rfl, rfl, rfl, by decide +kernel, rfl, by decide +kernel, by decide +kernel⟩
theorem has_wantedD (T : Ctx K mg) : Has w K mg base CX0 "_law_size_wanted" 2 ["_law_draws_here"] spWantedD := by
  obtain ⟨f1, fd1, m1, kp1, F1, b1⟩ := has_take (w := w) (base := base) T
  refine has_of (st := s__law_size_wanted) (f := He.ga K "_law_size_wanted") T.d__law_size_wanted T.g__law_size_wanted (fun _ _ _ _ _ _ us hl => match us, hl with | [_], _ => rfl) fun fd F => ?_
  refine ok0 F sc_wantedD (fun vs H Q E h => ?_) (fun cdv A outer s0 H vs Q E hr h => ?_)
  · obtain ⟨D, rfl, _⟩ := h
    rfl
  · obtain ⟨D, rfl, hD, k⟩ := h
    refine ⟨_, pss_one (ps_ret (pe_ix ix_list (pe_lst (pa_cons pe_int (pa_cons pe_int (pa_cons pe_int (pa_cons pe_int (pa_cons pe_int (pa_cons pe_int pa_nil))))))) (pe_call F1 hr (by rfl) m1 kp1 b1 .nil pass0 (pa_cons (pv 0) (pa_cons pe_int pa_nil))) (fun _ _ => rfl))), ?_⟩
    refine ⟨(by show 6 ≤ sizeLine; decide), fun l hl => ⟨_, rfl, D, 6, rfl, hD.ex (Ex.new hl), by decide, fun j H2 j0 j1 k2 d2 => ?_⟩⟩
    have hl2 := k2 l _ (Kp.ne hD hl) upd_same
    obtain ⟨n, hn⟩ : ∃ n : Int, atI [V.int 1, .int 2, .int 1, .int 0, .int 2, .int 3] j = some (.int n) := by
      have hj : j = 0 ∨ j = 1 ∨ j = 2 ∨ j = 3 ∨ j = 4 ∨ j = 5 := by omega
      rcases hj with rfl | rfl | rfl | rfl | rfl | rfl
      · exact ⟨_, atI_nat (j := 0) rfl⟩
      · exact ⟨_, atI_nat (j := 1) rfl⟩
      · exact ⟨_, atI_nat (j := 2) rfl⟩
      · exact ⟨_, atI_nat (j := 3) rfl⟩
      · exact ⟨_, atI_nat (j := 4) rfl⟩
      · exact ⟨_, atI_nat (j := 5) rfl⟩
    exact ⟨l, _, j, _, rfl, rfl, SqL.of hl2, hn, k n H2 ((Kp.of (Ex.new hl)).trans k2) d2⟩
def spDemandD : Sp := fun vs H Q _ => ∃ (D : Addr) (s : Nat), vs = [.ref D, .int s] ∧ Dr D H ∧ 1 ≤ s ∧ s ≤ 50 ∧ ∀ (A : Addr) (ds : List Int) H', Kp D H H' → Dr D H' → H A = none → H' A = some (.lst (ds.map V.int)) → ds.length = s → Q (.ref A) H'
theorem sc_demandD : FnScope ["_law_draws_here", "_law_size", "_law_wanted", "_law_row", "_law_word", "_law_run_here", "_law_place", "_law_k"] ["_law_draws_here", "_law_size"] (defScope s__law_demand) := ⟨rfl, rfl, rfl, by decide +kernel, rfl, by decide +kernel, by decide +kernel⟩
theorem has_demandD (T : Ctx K mg) : Has w K mg base CX0 "_law_demand" 3 ["_law_draws_here", "_law_size"] spDemandD := by
  obtain ⟨f1, fd1, m1, kp1, F1, b1⟩ := has_take (w := w) (base := base) T
  obtain ⟨f2, fd2, m2, kp2, F2, b2⟩ := has_wantedD (w := w) (base := base) T
  obtain ⟨f3, fd3, m3, kp3, F3, b3⟩ := has_runD (w := w) (base := base) T
  refine has_of (st := s__law_demand) (f := He.ga K "_law_demand") T.d__law_demand T.g__law_demand (fun _ _ _ _ _ _ us hl => match us, hl with | [_, _], _ => rfl) fun fd F => ?_
  refine ok0 F sc_demandD (fun vs H Q E h => ?_) (fun cdv A outer s0 H vs Q E hr h => ?_)
  · obtain ⟨D, s, rfl, _⟩ := h
    rfl
  · obtain ⟨D, s, rfl, hD, hs1, hs50, k⟩ := h
    have nd := sc_demandD.nd
    have r1 := hr.mono (show 1 ≤ 2 by decide)
    refine ⟨_, pss_cons (ps_set (i := 2) nd rfl (.inr rfl) (pe_call F2 hr (by rfl) m2 kp2 b2 .nil pass0 (pa_cons (pv 0) pa_nil)))
      (pss_cons (PS.nrm (ps_setLc (own := [("_law_k", 7)]) (i := 3) (g := gName 7) (tt := tYes) rfl nd rfl rfl rfl (pi_range1 (by rfl) T.b_range (pa_cons (pv 1) pa_nil)) (blkOk_by (own := [("_law_k", 7)]) (N := ["_law_draws_here", "_law_size", "_law_wanted", "_law_row", "_law_word", "_law_run_here", "_law_place", "_law_k"]) (sc := defScope s__law_demand) (by decide +kernel)) (fun _ _ _ _ _ => pg_name (i := 7) nd rfl (Or.inl rfl)) (fun _ _ _ _ _ => pts_nil) (fun _ _ _ _ _ => pv 2)))
      (pss_cons (PS.nrm (ps_set (i := 4) nd rfl (.inl rfl) (pe_call F1 r1 (by rfl) m1 kp1 b1 .nil pass0 (pa_cons (pv 0) (pa_cons pe_int pa_nil)))))
      (pss_cons (PS.nrm (ps_if (pt_cmpR op_ge (pv 4) pe_int (nomark _)) (pss_cons (ps_set (i := 5) nd rfl (.inl rfl) (pe_call F3 hr (by rfl) m3 kp3 b3 .nil pass0 (pa_cons (pv 0) (pa_cons (pv 1) pa_nil))))
          (pss_one (PS.nrm (ps_for PassesOwn.never rfl (pi_range2 (by rfl) T.b_range (pa_cons (pe_ix ix_tup (pv 5) pe_int (fun _ _ => rfl)) (pa_cons (pe_ix ix_tup (pv 5) pe_int (fun _ _ => rfl)) pa_nil))) (pg_name (i := 6) nd rfl (.inl rfl))
            (pss_one (ps_augL (pv 3) (pv 6) (pe_ix ix_list (pe_lst (pa_cons pe_int (pa_cons (pe_un un_neg pe_int) pa_nil))) (pe_op op_sub (pv 4) pe_int) (fun _ _ => rfl)))))))) pss_nil))
      (pss_one (ps_ret (pv 3)))))), ?_⟩
    refine ⟨_, rfl, D, rfl, hD, fun n H1 k1 d1 => ?_⟩
    refine ⟨[some (.ref D), some (.int s), some (.int n), none, none, none, none, none], rfl, ?_⟩
    refine ⟨_, rfl, _, rfl, by omega, by omega, fun A hA => lc_it walk_range (fun i H' => Ex H1 H' ∧ H' A = some (.lst ((List.replicate i n).map V.int))) ⟨Ex.new hA, upd_same⟩ (fun _ _ _ _ => trivial) ?_ ?_⟩
    · rintro i x H2 H3 hi ⟨e2, hA2⟩ ⟨rfl, rfl⟩
      refine ⟨rfl, tYesI ⟨_, rfl, _, hA2, by rw [List.length_map, List.length_replicate]; exact small1000 (by omega), Evl.Ex.mut e2 hA, ?_⟩⟩
      rw [upd_same, List.replicate_succ', List.map_append]
      rfl
    rintro H2 ⟨e2, hA2⟩
    rw [Int.toNat_natCast] at hA2
    have hA0 : H A = none := k1.fresh d1 hA
    have hAD : A ≠ D := Kp.ne d1 hA
    have d2 := d1.ex e2
    have k2 := k1.trans (Kp.of e2)
    refine ⟨[some (.ref D), some (.int s), some (.int n), some (.ref A), none, none, none, none], rfl, ?_⟩
    refine ⟨_, rfl, D, 4, rfl, d2, by decide, fun wd H3 w0 w1 k3 d3 => ?_⟩
    have hA3 := k3 _ _ hAD hA2
    have k13 := k2.trans k3
    refine ⟨[some (.ref D), some (.int s), some (.int n), some (.ref A), some (.int wd), none, none, none], rfl, ?_⟩
    refine ⟨_, rfl, _, _, rfl, rfl, _, rfl, ?_⟩
    by_cases c : 2 ≤ wd
    · refine iteT' (decide_eq_true c) ?_
      refine ⟨_, rfl, _, rfl, D, _, rfl, d3, by omega, fun t r H4 hf k4 d4 ht0 ht => ?_⟩
      obtain ⟨f0, f1, f2⟩ := hf
      have hA4 := k4 _ _ hAD hA3
      have k14 := k13.trans k4
      have htA : t ≠ A := ne_of ht hA4 (by intro z; cases z)
      have htD : t ≠ D := Kp.ne d3 ht0
      refine ⟨[some (.ref D), some (.int s), some (.int n), some (.ref A), some (.int wd), some (.ref t), none, none], rfl, ?_⟩
      refine ⟨_, rfl, t, _, 0, _, rfl, rfl, SqT.of ht, atI_nat (j := 0) rfl, _, rfl, t, _, 1, _, rfl, rfl, SqT.of ht, atI_nat (j := 1) rfl, ?_⟩
      refine ⟨_, _, rfl, ⟨by omega, by omega, by omega, by omega⟩, for_it walk_range (fun j σ H' => ∃ (v6 v7 : Option V) (ds : List Int), σ = [some (.ref D), some (.int s), some (.int n), some (.ref A), some (.int wd), some (.ref t), v6, v7] ∧ Kp D H H' ∧ Dr D H' ∧ H' A = some (.lst (ds.map V.int)) ∧ ds.length = s) ⟨_, _, _, rfl, k14, d4, hA4, List.length_replicate⟩ (fun _ _ _ _ _ => trivial) ?_ ?_⟩
      · rintro j x σ H5 H6 hj ⟨v6, v7, ds, rfl, k5, d5, hA5, hl⟩ ⟨rfl, rfl⟩
        obtain ⟨b, hb⟩ : ∃ b : Nat, r.1 + (j : Int) = (b : Int) := ⟨(r.1 + (j : Int)).toNat, by omega⟩
        have hbs : b < s := by omega
        have hbl : b < ds.length := by omega
        obtain ⟨z, hz⟩ : ∃ z, ds[b]? = some z := ⟨_, List.getElem?_eq_getElem hbl⟩
        obtain ⟨y, hy⟩ : ∃ y : Int, atI [V.int 1, .int (-1)] (wd - 2) = some (.int y) := by
          have hw : wd = 2 ∨ wd = 3 := by omega
          rcases hw with rfl | rfl
          · exact ⟨1, atI_nat (j := 0) rfl⟩
          · exact ⟨-1, atI_nat (j := 1) rfl⟩
        refine ⟨_, rfl, _, rfl, A, _, b, .int z, rfl, congrArg V.int hb, SqL.of hA5, by rw [List.getElem?_map, hz]; rfl, ?_⟩
        refine ⟨_, rfl, (by show 2 ≤ sizeLine; decide), fun l hl0 => ?_⟩
        refine ⟨_, rfl, _, _, rfl, rfl, l, _, wd - 2, .int y, rfl, rfl, SqL.of upd_same, hy, _, _, rfl, rfl, ?_⟩
        have e6 := Ex.new (o := .lst [V.int 1, .int (-1)]) hl0
        refine ⟨A, _, r.1 + (j : Int), b, rfl, rfl, e6 _ _ hA5, ?_, ?_⟩
        · unfold ixN
          rw [List.length_map, if_pos (by omega), if_pos (by omega), hb, Int.toNat_natCast]
        · refine ⟨_, _, ds.set b (z + y), rfl, (k5.trans (Kp.of e6)).mut hA0, ?_, ?_, by rw [List.length_set]; exact hl⟩
          · obtain ⟨ms, hms⟩ := d5.ex e6
            exact ⟨ms, by rw [upd_ne (Ne.symm hAD)]; exact hms⟩
          · rw [upd_same, List.map_set]
      · rintro σ H5 ⟨v6, v7, ds, rfl, k5, d5, hA5, hl⟩
        exact ⟨_, rfl, k A ds H5 k5 d5 hA0 hA5 hl⟩
    · exact iteF' (decide_eq_false c) ⟨_, rfl, k A _ H3 k13 d3 hA0 hA3 List.length_replicate⟩
/-! ### the law's misfit -/
def spMisfitL : Sp := fun vs H Q _ => ∃ (kd : Str) (C R : Addr) (cs ds : List Int), vs = [.str kd, .ref C, .ref R] ∧ (kd = "join" ∨ kd = "lap") ∧ H C = some (.lst (cs.map V.int)) ∧ H R = some (.lst (ds.map V.int)) ∧ cs.length = ds.length ∧ ds.length ≤ 60 ∧ Q (fw (okRow kd cs ds)) H
theorem sc_misfitL : FnScope ["_law_kind_here", "_law_covers", "_law_row", "_law_place"] ["_law_kind_here", "_law_covers", "_law_row"] (defScope s__law_misfit) := ⟨rfl, rfl, rfl, by decide +kernel, rfl, by decide +kernel, by decide +kernel⟩
theorem has_misfitL (T : Ctx K mg) : Has w K mg base CX0 "_law_misfit" 1 ["_law_kind_here", "_law_covers", "_law_row"] spMisfitL := by
  refine has_of (st := s__law_misfit) (f := He.ga K "_law_misfit") T.d__law_misfit T.g__law_misfit (fun _ _ _ _ _ _ us hl => match us, hl with | [_, _, _], _ => rfl) fun fd F => ?_
  refine ok0 F sc_misfitL (fun vs H Q E h => ?_) (fun cdv A outer s0 H vs Q E hr h => ?_)
  · obtain ⟨kd, C, R, cs, ds, rfl, _⟩ := h
    rfl
  · obtain ⟨kd, C, R, cs, ds, rfl, hkd, hC, hR, hl, h60, k⟩ := h
    have nd := sc_misfitL.nd
    refine ⟨_, pss_cons (ps_for PassesOwn.never rfl (pi_range1 (by rfl) T.b_range (pa_cons (pe_callB call_len_seq (by rfl) T.b_len PySem.boot_len (pa_cons (pv 2) pa_nil)) pa_nil)) (pg_name (i := 3) nd rfl (.inl rfl))
        (pss_one (ps_if (PW.pt (pw_or (pt_cmpR op_lt (pe_ix ix_list (pv 1) (pv 3) (fun _ _ => rfl)) (pe_ix ix_list (pv 2) (pv 3) (fun _ _ => rfl)) (nomark _))
            (pw_or1 (PW.pt (pw_and (pt_cmpR op_eq (pv 0) pe_str (nomark _)) (pw_and1 (pt_cmpR op_gt (pe_ix ix_list (pv 1) (pv 3) (fun _ _ => rfl)) (pe_ix ix_list (pv 2) (pv 3) (fun _ _ => rfl)) (nomark _)))))))) (pss_one (ps_ret (pv 3))) pss_nil)))
      (pss_one (ps_ret pe_non)), ?_⟩
    refine ⟨_, rfl, R, _, rfl, .inl (SqL.of hR), _, rfl, by rw [List.length_map]; omega, by rw [List.length_map]; omega, for_it walk_range (fun i σ H' => (∃ v3 : Option V, σ = [some (.str kd), some (.ref C), some (.ref R), v3]) ∧ H' = H ∧ ∀ j, j < i → (okRow kd cs ds)[j]? = some true) ⟨⟨_, rfl⟩, rfl, fun j hj => absurd hj (Nat.not_lt_zero j)⟩ (fun _ _ _ _ _ => trivial) ?_ ?_⟩
    · rintro i x σ H2 H3 hi ⟨⟨v3, rfl⟩, hH, hb⟩ ⟨rfl, rfl⟩
      subst hH
      have hi2 : i < ds.length := by rw [List.length_map] at hi; omega
      obtain ⟨c, hc⟩ : ∃ c, cs[i]? = some c := ⟨_, List.getElem?_eq_getElem (by omega)⟩
      obtain ⟨d, hd⟩ : ∃ d, ds[i]? = some d := ⟨_, List.getElem?_eq_getElem hi2⟩
      have hrow := okRow_get kd cs ds i c d hc hd
      have at1 : ∀ (xs : List Int) (z : Int), xs[i]? = some z → atI (xs.map V.int) (0 + (i : Int)) = some (.int z) := fun xs z hz => by
        rw [Int.zero_add]
        exact atI_nat (by rw [List.getElem?_map, hz]; rfl)
      have wrong : okAt kd c d = false → Q (V.int (0 + (i : Int))) H3 := fun hf => by
        rw [hf] at hrow
        rw [fw_at hrow hb] at k
        rw [Int.zero_add]
        exact k
      have right : okAt kd c d = true → ∀ j, j < i + 1 → (okRow kd cs ds)[j]? = some true := fun ht j hj => by
        by_cases e : j = i
        · rw [e, hrow, ht]
        · exact hb j (by omega)
      refine ⟨_, rfl, _, rfl, C, _, _, _, rfl, rfl, SqL.of hC, at1 _ _ hc, _, rfl, _, rfl, R, _, _, _, rfl, rfl, SqL.of hR, at1 _ _ hd, _, _, rfl, rfl, _, rfl, ?_⟩
      by_cases c1 : c < d
      · refine iteT' (decide_eq_true c1) (iteT' rfl ⟨_, rfl, wrong ?_⟩)
        unfold okAt
        rcases hkd with rfl | rfl
        · rw [if_neg (by decide +kernel)]
          exact decide_eq_false (by omega)
        · rw [if_pos rfl]
          exact decide_eq_false (by omega)
      · refine iteF' (decide_eq_false c1) ⟨_, rfl, rfl, _, rfl, ?_⟩
        rcases hkd with rfl | rfl
        · refine iteT' (decide_eq_true rfl) ⟨_, rfl, _, rfl, C, _, _, _, rfl, rfl, SqL.of hC, at1 _ _ hc, _, rfl, _, rfl, R, _, _, _, rfl, rfl, SqL.of hR, at1 _ _ hd, _, _, rfl, rfl, _, rfl, ?_⟩
          by_cases c2 : d < c
          · refine iteT' (decide_eq_true c2) ⟨_, rfl, wrong ?_⟩
            unfold okAt
            rw [if_neg (by decide +kernel)]
            exact decide_eq_false (by omega)
          · refine iteF' (decide_eq_false c2) ⟨⟨_, rfl⟩, rfl, right ?_⟩
            unfold okAt
            rw [if_neg (by decide +kernel)]
            exact decide_eq_true (by omega)
        · refine iteF' (by decide +kernel) (iteF' rfl ⟨⟨_, rfl⟩, rfl, right ?_⟩)
          unfold okAt
          rw [if_pos rfl]
          exact decide_eq_true (by omega)
    · rintro σ H2 ⟨⟨v3, rfl⟩, rfl, hb⟩
      rw [List.length_map] at hb
      have hf : fw (okRow kd cs ds) = .non := fw_all fun b hbm => by
        obtain ⟨j, hj, e⟩ := List.mem_iff_getElem.mp hbm
        have hlen := okRow_len kd cs ds hl
        have := hb j (by omega)
        rw [List.getElem?_eq_getElem hj, e] at this
        exact Option.some.inj this
      rw [hf] at k
      exact k
/-! ### the law's begins -/
def spBeginsL : Sp := fun vs H Q _ => ∃ (R : Addr) (ds : List Int), vs = [.ref R] ∧ H R = some (.lst (ds.map V.int)) ∧ ds.length ≤ 60 ∧ ∀ H' q, Ex H H' → H q = none → H' q = some (.lst ((begL ds).map V.int)) → Q (.ref q) H'
theorem sc_beginsL : FnScope ["_law_row", "_law_rises", "_law_before", "_law_number"] ["_law_row"] (defScope s__law_begins) := ⟨rfl, rfl, rfl, by decide +kernel, rfl, by decide +kernel, by decide +kernel⟩
theorem has_beginsL (T : Ctx K mg) : Has w K mg base CX0 "_law_begins" 1 ["_law_row"] spBeginsL := by
  refine has_of (st := s__law_begins) (f := He.ga K "_law_begins") T.d__law_begins T.g__law_begins (fun _ _ _ _ _ _ us hl => match us, hl with | [_], _ => rfl) fun fd F => ?_
  refine ok0 F sc_beginsL (fun vs H Q E h => ?_) (fun cdv A outer s0 H vs Q E hr h => ?_)
  · obtain ⟨R, ds, rfl, _⟩ := h
    rfl
  · obtain ⟨R, ds, rfl, hR, h60, k⟩ := h
    have nd := sc_beginsL.nd
    refine ⟨_, pss_cons (ps_set (i := 1) nd rfl (.inl rfl) (pe_lst pa_nil))
      (pss_cons (ps_set (i := 2) nd rfl (.inl rfl) pe_int)
      (pss_cons (PS.nrm (ps_for PassesOwn.never rfl (pi_list (pv 0)) (pg_name (i := 3) nd rfl (.inl rfl))
        (pss_cons (ps_expr (pe_bm PySem.F.plainAttrs_list PySem.F.slot_list_append PySem.F.type_list_append mt_append (pv 1) (pa_cons (pe_op op_sub (pv 3) (pv 2)) pa_nil)))
        (pss_one (ps_set (i := 2) nd rfl (.inl rfl) (pv 3))))))
      (pss_cons (ps_expr (pe_bm PySem.F.plainAttrs_list PySem.F.slot_list_append PySem.F.type_list_append mt_append (pv 1) (pa_cons (pe_op op_sub pe_int (pv 2)) pa_nil)))
      (pss_one (ps_ret (pv 1)))))), ?_⟩
    refine ⟨(by show 0 ≤ sizeLine; decide), fun q hq => ?_⟩
    have e0 : Ex H (upd H q (.lst [])) := Ex.new hq
    refine ⟨[some (.ref R), some (.ref q), some (.int 0), none], rfl, ?_⟩
    refine ⟨_, rfl, R, rfl, ⟨_, SqL.of (e0 _ _ hR)⟩, for_it walk_list (fun i σ H' => (∃ v3 : Option V, σ = [some (.ref R), some (.ref q), some (.int ((0 :: ds).getD i 0)), v3]) ∧ Ex H H' ∧ H' q = some (.lst (((begL ds).take i).map V.int))) ⟨⟨_, rfl⟩, e0, upd_same⟩ (fun i σ H' _ ⟨_, e, _⟩ => SqL.of (e _ _ hR)) ?_ ?_⟩
    · rintro i x σ H2 H3 hi ⟨⟨v3, rfl⟩, e2, hq2⟩ ⟨rfl, hx⟩
      obtain ⟨z, hz, rfl⟩ := map_int_get hx
      have hi2 : i < ds.length := (List.getElem?_eq_some_iff.mp hz).1
      have hb := begL_at ds (i := i) (by omega)
      have e1 : (ds ++ [0]).getD i 0 = z := by
        rw [List.getD_eq_getElem?_getD, List.getElem?_append_left hi2, hz]
        rfl
      rw [e1] at hb
      refine ⟨_, rfl, .inl ⟨rfl, _, SqL.of hq2⟩, _, rfl, _, rfl, _, _, rfl, rfl, q, _, _, rfl, rfl, hq2, by rw [List.length_map, List.length_take]; exact small1000 (by omega), ?_⟩
      refine ⟨_, rfl, ⟨some (.int z), ?_⟩, Evl.Ex.mut e2 hq, ?_⟩
      · have e3 : (0 :: ds).getD (i + 1) 0 = z := by
          rw [List.getD_eq_getElem?_getD, List.getElem?_cons_succ, hz]
          rfl
        rw [e3]
        rfl
      · rw [upd_same, List.take_add_one, hb, List.map_append]
        rfl
    · rintro σ H2 ⟨⟨v3, rfl⟩, e2, hq2⟩
      rw [List.length_map] at hq2
      have hb := begL_at ds (i := ds.length) (by omega)
      have e1 : (ds ++ [0]).getD ds.length 0 = 0 := by
        rw [List.getD_eq_getElem?_getD, List.getElem?_append_right (Nat.le_refl _), Nat.sub_self]
        rfl
      rw [e1] at hb
      refine ⟨_, rfl, .inl ⟨rfl, _, SqL.of hq2⟩, _, rfl, _, _, rfl, rfl, q, _, _, rfl, rfl, hq2, by rw [List.length_map, List.length_take]; exact small1000 (by omega), ?_⟩
      refine ⟨_, rfl, k _ q (Evl.Ex.mut e2 hq) hq ?_⟩
      rw [upd_same, List.length_map]
      have e4 : begL ds = (begL ds).take ds.length ++ [0 - (0 :: ds).getD ds.length 0] := by
        have := List.take_add_one (l := begL ds) (i := ds.length)
        rw [hb, ← begL_len, List.take_length] at this
        exact this
      conv => rhs; rw [e4]
      rw [List.map_append]
      rfl
end
end K00


set_option Elab.async false
set_option linter.all false
set_option maxRecDepth 100000
set_option maxHeartbeats 4000000
namespace K00
open PySem PySem.Spec PyProof.Rows L2 RZ StX
open Evl (Ex)
def opensL (rs : List (Int × Int)) (ps : List Int) (j : Int) : List Int := ps.filter fun p => decide ((rs.getD p.toNat (0, 0)).1 = j)
def closesL (rs : List (Int × Int)) (ps : List Int) (j : Int) : List Int := ps.filter fun p => decide ((rs.getD p.toNat (0, 0)).2 = j)
theorem open_close (rs : List (Int × Int)) (j : Int) : ∀ ps : List Int, ((opensL rs ps j).length : Int) - ((closesL rs ps j).length : Int) = dAt rs ps j
  | [] => rfl
  | p :: ps => by
    have ih := open_close rs j ps
    unfold opensL closesL at ih ⊢
    show _ = dAt rs ps j + dOne (rs.getD p.toNat (0, 0)) j
    generalize hr : rs.getD p.toNat (0, 0) = r
    unfold dOne
    have f1 : ((p :: ps).filter fun p => decide ((rs.getD p.toNat (0, 0)).1 = j)).length = (ps.filter fun p => decide ((rs.getD p.toNat (0, 0)).1 = j)).length + if j = r.1 then 1 else 0 := by
      rw [List.filter_cons]
      by_cases c : (rs.getD p.toNat (0, 0)).1 = j
      · rw [if_pos (decide_eq_true c), List.length_cons, if_pos (by rw [← hr, c])]
      · rw [if_neg (by rw [decide_eq_false c]; decide), if_neg (fun z => c (by rw [hr, z]))]
        rfl
    have f2 : ((p :: ps).filter fun p => decide ((rs.getD p.toNat (0, 0)).2 = j)).length = (ps.filter fun p => decide ((rs.getD p.toNat (0, 0)).2 = j)).length + if j = r.2 then 1 else 0 := by
      rw [List.filter_cons]
      by_cases c : (rs.getD p.toNat (0, 0)).2 = j
      · rw [if_pos (decide_eq_true c), List.length_cons, if_pos (by rw [← hr, c])]
      · rw [if_neg (by rw [decide_eq_false c]; decide), if_neg (fun z => c (by rw [hr, z]))]
        rfl
    rw [f1, f2]
    split <;> split <;> omega
theorem covAt_end {s : Nat} {rs : List (Int × Int)} (hF : ∀ r ∈ rs, Fits s r) {ps : List Int} (inn : ∀ n ∈ ps, 0 ≤ n ∧ n < rs.length) : covAt rs ps (s : Int) = 0 := by
  unfold covAt
  rw [List.filter_eq_nil_iff.mpr]
  · rfl
  · intro p hp z
    obtain ⟨h0, h1⟩ := inn p hp
    have hn : p.toNat < rs.length := by omega
    have hf := hF _ (List.getElem_mem hn)
    rw [List.getD_eq_getElem?_getD, List.getElem?_eq_getElem hn] at z
    have z2 := of_decide_eq_true z
    have z3 : s < (rs[p.toNat]).2 := z2.2
    have := hf.2.2
    omega
theorem b_next (D : List Int) {q : Nat} (h : q < D.length) : (0 :: D).getD (q + 1) 0 = (D ++ [0]).getD q 0 := by
  rw [List.getD_eq_getElem?_getD, List.getD_eq_getElem?_getD, List.getElem?_cons_succ, List.getElem?_append_left h]
theorem pre_b {s : Nat} {rs : List (Int × Int)} {ps D : List Int} (hD : D.length = s) (h : ∀ p : Nat, p < s + 1 → dAt rs ps p = (D ++ [0]).getD p 0 - (0 :: D).getD p 0) : ∀ q : Nat, q ≤ s → pre (dAt rs ps) (q + 1) = (D ++ [0]).getD q 0
  | 0, _ => by
    show 0 + dAt rs ps ((0 : Nat) : Int) = _
    rw [h 0 (by omega)]
    show 0 + ((D ++ [0]).getD 0 0 - 0) = _
    omega
  | q + 1, hq => by
    show pre (dAt rs ps) (q + 1) + dAt rs ps ((q + 1 : Nat) : Int) = _
    rw [pre_b hD h q (by omega), h (q + 1) (by omega), b_next D (by omega)]
    omega
theorem fit_iff {s : Nat} {rs : List (Int × Int)} {ps D : List Int} (hF : ∀ r ∈ rs, Fits s r) (inn : ∀ n ∈ ps, 0 ≤ n ∧ n < rs.length) (hD : D.length = s) :
    (∀ p : Nat, p < s + 1 → dAt rs ps p = (D ++ [0]).getD p 0 - (0 :: D).getD p 0) ↔ covL s rs ps = D := by
  have hb : ∀ q, q < s → (D ++ [0]).getD q 0 = D.getD q 0 := fun q hq => by
    rw [List.getD_eq_getElem?_getD, List.getElem?_append_left (by omega), ← List.getD_eq_getElem?_getD]
  constructor
  · intro h
    apply List.ext_getElem?
    intro q
    by_cases c : q < s
    · unfold covL
      rw [row_get c, ← pre_cov hF ps inn q, pre_b hD h q (by omega), hb q c, List.getD_eq_getElem?_getD, List.getElem?_eq_getElem (by omega)]
      rfl
    · rw [List.getElem?_eq_none (by unfold covL rowOf; simp; omega), List.getElem?_eq_none (by omega)]
  · intro h
    have hc : ∀ q : Nat, q ≤ s → pre (dAt rs ps) (q + 1) = (D ++ [0]).getD q 0 := fun q hq => by
      rw [pre_cov hF ps inn q]
      by_cases c : q < s
      · rw [hb q c, ← h]
        unfold covL
        rw [List.getD_eq_getElem?_getD, row_get c]
        rfl
      · have e : q = s := by omega
        subst e
        rw [covAt_end hF inn, List.getD_eq_getElem?_getD, List.getElem?_append_right (by omega), hD, Nat.sub_self]
        rfl
    intro p hp
    cases p with
    | zero =>
      have := hc 0 (by omega)
      have e : pre (dAt rs ps) 1 = 0 + dAt rs ps ((0 : Nat) : Int) := rfl
      rw [e] at this
      show dAt rs ps ((0 : Nat) : Int) = (D ++ [0]).getD 0 0 - 0
      omega
    | succ q =>
      have h1 := hc (q + 1) (by omega)
      have h2 := hc q (by omega)
      have e : pre (dAt rs ps) (q + 1 + 1) = pre (dAt rs ps) (q + 1) + dAt rs ps ((q + 1 : Nat) : Int) := rfl
      rw [e, h2] at h1
      rw [b_next D (by omega)]
      omega
section
variable {w : World} {K : PySem.W.Frag} {mg : Str → Option Value} {base : Heap}
def spPointsFit : Sp := fun vs H Q _ => ∃ (s : Nat) (R A L : Addr) (us : List V) (rs : List (Int × Int)) (ps ds : List Int), vs = [.int s, .ref R, .ref A, .ref L] ∧ s ≤ 50 ∧ H R = some (.lst us) ∧ Runs H us rs ∧ (∀ r ∈ rs, Fits s r) ∧ H A = some (.lst (ps.map V.int)) ∧ (∀ n ∈ ps, 0 ≤ n ∧ n < rs.length) ∧ ps.length ≤ 100 ∧ ds.length = s ∧ H L = some (.lst ((begL ds).map V.int)) ∧ ∀ H', Ex H H' → Q (.bl (decide (covL s rs ps = ds))) H'
theorem sc_points : FnScope ["_law_size", "_law_runs", "_law_parts_here", "_law_rises", "_law_point", "_law_opened", "_law_closed", "_law_part"] ["_law_size", "_law_runs", "_law_parts_here", "_law_rises"] (defScope s__law_points_fit) := ⟨rfl, rfl, rfl, by decide +kernel, rfl, by decide +kernel, by decide +kernel⟩
theorem has_points (T : Ctx K mg) : Has w K mg base CX0 "_law_points_fit" 1 ["_law_size", "_law_runs", "_law_parts_here", "_law_rises"] spPointsFit := by
  refine has_of (st := s__law_points_fit) (f := He.ga K "_law_points_fit") T.d__law_points_fit T.g__law_points_fit (fun _ _ _ _ _ _ us hl => match us, hl with | [_, _, _, _], _ => rfl) fun fd F => ?_
  refine ok0 F sc_points (fun vs H Q E h => ?_) (fun cdv A0 outer s0 H vs Q E hr h => ?_)
  · obtain ⟨s, R, A, L, us, rs, ps, ds, rfl, _⟩ := h
    rfl
  · obtain ⟨s, R, A, L, us, rs, ps, ds, rfl, hs50, hR, RR, hF, hA, inn, few, hdl, hL, k⟩ := h
    have nd := sc_points.nd
    refine ⟨_, pss_cons (ps_for PassesOwn.never rfl (pi_range1 (by rfl) T.b_range (pa_cons (pe_op op_add (pv 0) pe_int) pa_nil)) (pg_name (i := 4) nd rfl (.inr rfl))
        (pss_cons (PS.nrm (ps_set (i := 5) nd rfl (.inl rfl) (pe_callB call_len_seq (by rfl) T.b_len PySem.boot_len (pa_cons
          (pe_lc (own := [("_law_part", 7)]) (g := gName 7) rfl nd (pi_list (pv 2)) (blkOk_by (own := [("_law_part", 7)]) (N := ["_law_size", "_law_runs", "_law_parts_here", "_law_rises", "_law_point", "_law_opened", "_law_closed", "_law_part"]) (sc := defScope s__law_points_fit) (by decide +kernel)) (fun _ _ _ _ _ => pg_name (i := 7) nd rfl (Or.inl rfl))
            (fun _ _ _ _ _ => pts_one (pt_cmpR op_eq (pe_ix (ix_tupK (K := K) rfl) (pe_ix (ix_listK (K := K) rfl) (pv 1) (pv 7) (fun _ _ => rfl)) pe_int (fun _ _ => rfl)) (pv 4) (nomark _))) (fun _ _ _ _ _ => pv 7)) pa_nil))))
        (pss_cons (PS.nrm (ps_set (i := 6) nd rfl (.inl rfl) (pe_callB call_len_seq (by rfl) T.b_len PySem.boot_len (pa_cons
          (pe_lc (own := [("_law_part", 7)]) (g := gName 7) rfl nd (pi_list (pv 2)) (blkOk_by (own := [("_law_part", 7)]) (N := ["_law_size", "_law_runs", "_law_parts_here", "_law_rises", "_law_point", "_law_opened", "_law_closed", "_law_part"]) (sc := defScope s__law_points_fit) (by decide +kernel)) (fun _ _ _ _ _ => pg_name (i := 7) nd rfl (Or.inl rfl))
            (fun _ _ _ _ _ => pts_one (pt_cmpR op_eq (pe_ix (ix_tupK (K := K) rfl) (pe_ix (ix_listK (K := K) rfl) (pv 1) (pv 7) (fun _ _ => rfl)) pe_int (fun _ _ => rfl)) (pv 4) (nomark _))) (fun _ _ _ _ _ => pv 7)) pa_nil))))
        (pss_one (PS.nrm (ps_if (pt_cmpR op_ne (pe_op op_sub (pv 5) (pv 6)) (pe_ix ix_list (pv 3) (pv 4) (fun _ _ => rfl)) (nomark _)) (pss_one (ps_ret pe_bl)) pss_nil))))))
      (pss_one (ps_ret pe_bl)), ?_⟩
    have hdat : ∀ i : Nat, i < s + 1 → (begL ds)[i]? = some ((ds ++ [0]).getD i 0 - (0 :: ds).getD i 0) := fun i hi => begL_at ds (by omega)
    refine ⟨_, rfl, _, _, rfl, rfl, _, rfl, by omega, by omega, for_it walk_range (fun i σ H' => (∃ v4 v5 v6 v7 : Option V, σ = [some (.int s), some (.ref R), some (.ref A), some (.ref L), v4, v5, v6, v7]) ∧ Ex H H' ∧ ∀ p : Nat, p < i → dAt rs ps p = (ds ++ [0]).getD p 0 - (0 :: ds).getD p 0) ⟨⟨_, _, _, _, rfl⟩, Ex.refl H, fun p hp => absurd hp (Nat.not_lt_zero p)⟩ (fun _ _ _ _ _ => trivial) ?_ ?_⟩
    · rintro i x σ H2 H3 hi ⟨⟨v4, v5, v6, v7, rfl⟩, e3, hb⟩ ⟨rfl, rfl⟩
      have his : i < s + 1 := by omega
      show gName 4 (.int (0 + (i : Int))) _ H3 _
      rw [show (0 + (i : Int)) = (i : Int) by omega]
      have step : ∀ (H4 : Hp) (e : Ex H H4) (j : Nat) (p : Int), ps[j]? = some p → ∃ (t : Addr) (r : Int × Int), rs.getD p.toNat (0, 0) = r ∧ atI us p = some (.ref t) ∧ H4 t = some (.tup [.int r.1, .int r.2]) := fun H4 e j p hp => by
        obtain ⟨p0, p1⟩ := inn p (List.mem_of_getElem? hp)
        have hn : p.toNat < rs.length := by omega
        obtain ⟨t, ht, htt⟩ := (RR.ex e).at_ p.toNat _ (List.getElem?_eq_getElem hn)
        refine ⟨t, rs[p.toNat], by rw [List.getD_eq_getElem?_getD, List.getElem?_eq_getElem hn]; rfl, ?_, htt⟩
        rw [show p = ((p.toNat : Nat) : Int) by omega]
        exact atI_nat ht
      have fl : ∀ (f : Int → Bool) (j : Nat) (p : Int), ps[j]? = some p → (ps.take (j + 1)).filter f = (ps.take j).filter f ++ (if f p = true then [p] else []) := fun f j p hp => by
        rw [List.take_add_one, hp, List.filter_append]
        congr 1
        show List.filter f [p] = _
        cases h : f p with
        | false =>
          rw [List.filter_cons_of_neg (by rw [h]; decide)]
          rfl
        | true =>
          rw [List.filter_cons_of_pos h]
          rfl
      refine ⟨[some (.int s), some (.ref R), some (.ref A), some (.ref L), some (.int (i : Int)), v5, v6, v7], rfl, ?_⟩
      refine ⟨_, rfl, A, rfl, ⟨_, SqL.of (e3 _ _ hA)⟩, fun P hP => lc_it walk_list (fun j H' => Ex H3 H' ∧ H' P = some (.lst (((ps.take j).filter fun p => decide ((rs.getD p.toNat (0, 0)).1 = (i : Int))).map V.int))) ⟨Ex.new hP, upd_same⟩ (fun j H' _ q => SqL.of (q.1 _ _ (e3 _ _ hA))) ?_ ?_⟩
      · rintro j y H4 H5 hj ⟨e5, hP5⟩ ⟨rfl, hy⟩
        obtain ⟨p, hp, rfl⟩ := map_int_get hy
        have hjl : j < ps.length := (List.getElem?_eq_some_iff.mp hp).1
        obtain ⟨t, r, hr1, hat, ht⟩ := step H5 (e3.trans e5) j p hp
        have hln : ((ps.take j).filter fun p => decide ((rs.getD p.toNat (0, 0)).1 = (i : Int))).length ≤ 100 := Nat.le_trans (List.length_filter_le _ _) (by rw [List.length_take]; omega)
        refine ⟨rfl, ?_⟩
        refine ⟨_, rfl, _, rfl, R, us, _, _, rfl, rfl, SqL.of ((e3.trans e5) _ _ hR), hat, t, _, 0, _, rfl, rfl, SqT.of ht, atI_nat (j := 0) rfl, _, rfl, rfl, _, rfl, ?_⟩
        rw [fl _ j p hp, hr1]
        by_cases c : r.1 = (i : Int)
        · refine iteT' (decide_eq_true (by rw [c])) ⟨_, rfl, _, hP5, by rw [List.length_map]; exact small1000 (by omega), Evl.Ex.mut e5 hP, ?_⟩
          rw [upd_same, if_pos (decide_eq_true c), List.map_append]
          rfl
        · refine iteF' (decide_eq_false (fun z => c (by injection z))) ⟨e5, ?_⟩
          rw [if_neg (by rw [decide_eq_false c]; decide), List.append_nil]
          exact hP5
      rintro H4 ⟨e4, hP4⟩
      rw [List.length_map, List.take_length] at hP4
      have e34 := e3.trans e4
      refine ⟨P, _, rfl, .inl (SqL.of hP4), ?_⟩
      rw [List.length_map]
      refine ⟨[some (.int s), some (.ref R), some (.ref A), some (.ref L), some (.int (i : Int)), some (.int ((opensL rs ps (i : Int)).length : Nat)), v6, v7], rfl, ?_⟩
      refine ⟨_, rfl, A, rfl, ⟨_, SqL.of (e34 _ _ hA)⟩, fun P2 hP2 => lc_it walk_list (fun j H' => Ex H4 H' ∧ H' P2 = some (.lst (((ps.take j).filter fun p => decide ((rs.getD p.toNat (0, 0)).2 = (i : Int))).map V.int))) ⟨Ex.new hP2, upd_same⟩ (fun j H' _ q => SqL.of (q.1 _ _ (e34 _ _ hA))) ?_ ?_⟩
      · rintro j y H6 H5 hj ⟨e5, hP5⟩ ⟨rfl, hy⟩
        obtain ⟨p, hp, rfl⟩ := map_int_get hy
        have hjl : j < ps.length := (List.getElem?_eq_some_iff.mp hp).1
        obtain ⟨t, r, hr1, hat, ht⟩ := step H5 (e34.trans e5) j p hp
        have hln : ((ps.take j).filter fun p => decide ((rs.getD p.toNat (0, 0)).2 = (i : Int))).length ≤ 100 := Nat.le_trans (List.length_filter_le _ _) (by rw [List.length_take]; omega)
        refine ⟨rfl, ?_⟩
        refine ⟨_, rfl, _, rfl, R, us, _, _, rfl, rfl, SqL.of ((e34.trans e5) _ _ hR), hat, t, _, 1, _, rfl, rfl, SqT.of ht, atI_nat (j := 1) rfl, _, rfl, rfl, _, rfl, ?_⟩
        rw [fl _ j p hp, hr1]
        by_cases c : r.2 = (i : Int)
        · refine iteT' (decide_eq_true (by rw [c])) ⟨_, rfl, _, hP5, by rw [List.length_map]; exact small1000 (by omega), Evl.Ex.mut e5 hP2, ?_⟩
          rw [upd_same, if_pos (decide_eq_true c), List.map_append]
          rfl
        · refine iteF' (decide_eq_false (fun z => c (by injection z))) ⟨e5, ?_⟩
          rw [if_neg (by rw [decide_eq_false c]; decide), List.append_nil]
          exact hP5
      rintro H5 ⟨e5, hP5⟩
      rw [List.length_map, List.take_length] at hP5
      have e35 := e34.trans e5
      refine ⟨P2, _, rfl, .inl (SqL.of hP5), ?_⟩
      rw [List.length_map]
      refine ⟨[some (.int s), some (.ref R), some (.ref A), some (.ref L), some (.int (i : Int)), some (.int ((opensL rs ps (i : Int)).length : Nat)), some (.int ((closesL rs ps (i : Int)).length : Nat)), v7], rfl, ?_⟩
      refine ⟨_, rfl, _, rfl, _, _, rfl, rfl, _, rfl, _, rfl, L, _, _, _, rfl, rfl, SqL.of (e35 _ _ hL), atI_nat (j := i) (by rw [List.getElem?_map, hdat i his]; rfl), rfl, _, rfl, ?_⟩
      have oc := open_close rs (i : Int) ps
      have hfit := fit_iff (s := s) (ps := ps) (D := ds) hF inn hdl
      by_cases c : dAt rs ps (i : Int) = (ds ++ [0]).getD i 0 - (0 :: ds).getD i 0
      · refine iteF' (by show (!decide (V.int (((opensL rs ps (i : Int)).length : Int) - ((closesL rs ps (i : Int)).length : Int)) = V.int ((ds ++ [0]).getD i 0 - (0 :: ds).getD i 0))) = false; rw [oc, c, decide_eq_true rfl]; rfl) ⟨⟨_, _, _, _, rfl⟩, e35, fun p hp => ?_⟩
        by_cases e : p = i
        · rw [e]; exact c
        · exact hb p (by omega)
      · refine iteT' (by show (!decide (V.int (((opensL rs ps (i : Int)).length : Int) - ((closesL rs ps (i : Int)).length : Int)) = V.int ((ds ++ [0]).getD i 0 - (0 :: ds).getD i 0))) = true; rw [oc, decide_eq_false (fun z => c (by injection z))]; rfl) ?_
        have kk := k _ e35
        rw [decide_eq_false (fun z => c (hfit.mpr z i his))] at kk
        exact kk
    · rintro σ H2 ⟨⟨v4, v5, v6, v7, rfl⟩, e2, hb⟩
      have hfit := fit_iff (s := s) (ps := ps) (D := ds) hF inn hdl
      have kk := k _ e2
      rw [decide_eq_true (hfit.mp fun p hp => hb p (by omega))] at kk
      exact kk
end
end K00


set_option Elab.async false
set_option linter.all false
set_option maxRecDepth 100000
set_option maxHeartbeats 4000000
/-! isinstance of a caught error that has a dict of its own: the library asks for none -/
namespace IsE
open PySem PySem.Spec PySem.Calls PyProof.Rows L2
section
variable {pr : Program} {wd : World} {Ar : Around} {Er : Value → Shared → Prop} {F : PySem.W.Frag} {e T : Addr} {oe : Obj} {dct : Option Obj}
/-- the class's own «__class__», whatever the error's dict holds -/
theorem class_found (Z : ExcC F T) : PySem.W.findObj F T dct "__class__" = some (.bind (.builtin "getset_descriptor.__get__") (.builtin "object.__class__")) := by
  obtain ⟨cd, isC, _⟩ := PySem.W.any_some Z.hd
  unfold PySem.W.findObj
  rw [isC, Option.bind_some, Z.ha, Option.bind_some] <;> simp [Z.hn, Z.ht]
/-- e.__class__ of such an error -/
theorem class_asked (Z : ExcC F T) {st : Shared} {G : Option Value → Shared → Prop} (XI : F.In st.heap) (at_ : PySem.W.InstAt st.heap e oe T dct) (fin : G (some (.ref T)) { st with toks := st.toks + 1 }) :
    wpAny (model pr wd) Ar (getAttr? (.ref e) "__class__") G Er st := by
  obtain ⟨hh, gg, dd, tt, oo⟩ := st
  have isT := at_.type (M := model pr wd)
  have own := PySem.W.looks_find (M := model pr wd) XI at_ (class_found Z)
  have noB : (Value.builtin "BaseException.__getattribute__" == Value.builtin "object.__getattribute__") = false := by decide +kernel
  unfold getAttr? getAttrBy? getAttrBy
  refine wpAny_bind (wpAny_mkText (wpAny_bind (wpAny_attempt (wpAny_holding (wpAny_bind (isT.at (wpAny_bind ((PySem.W.looks_findIn (M := model pr wd) XI Z.hg).at ?_))))))))
  show wpAny _ _ (ite ((onTheHeap (Value.ref T) && Value.builtin "BaseException.__getattribute__" == Value.builtin "object.__getattribute__") = true) _ _) _ _ _
  rw [show (onTheHeap (Value.ref T) && Value.builtin "BaseException.__getattribute__" == Value.builtin "object.__getattribute__") = false from by rw [noB]; rfl, if_neg Bool.false_ne_true]
  unfold getAttrByItsOwn hookBefore
  refine wpAny_bind (by
    rw [if_pos (show onTheHeap (Value.ref T) = true from rfl)]
    exact (PySem.W.looks_findIn (M := model pr wd) XI Z.hk).at (wpAny_bind (wpAny_attempt (wpAny_holding (by
      unfold callGetattribute
      rw [show (false && onTheHeap (Value.builtin "BaseException.__getattribute__")) = false from rfl, if_neg Bool.false_ne_true]
      unfold boundAndCalled
      rw [PySem.F.excAttr_ValueError.ga.bind (.ref e)]
      refine wpAny_bind (wpAny_pure (wpAny_call (codeAny_call_builtin PySem.F.excAttr_ValueError.ga.plain PySem.F.entry_bexc_ga ?_)))
      refine @PySem.W.check_slot (model pr wd) _ _ ⟨hh, gg, dd, tt + 1, oo⟩ "BaseException.__getattribute__" "BaseException" "__getattribute__" (.ref e) [.str "__class__" tt] [] _ (by decide +kernel) (by decide +kernel) (isT.andThen (PySem.W.looks_subIn XI Z.hs)) (PySem.F.args_bexc_ga (.ref e) (.str "__class__" tt)) ?_
      unfold Builtin.«object.__getattribute__»
      refine wpAny_bind (wpAny_of_eq (a := ((Value.ref e : Value), [Value.str "__class__" tt])) (by first | rfl | (simp only [slotArgs] <;> rfl)) (wpAny_bind (wpAny_pure (wpAny_bind (isT.at (wpAny_bind (own.at ?_)))))))
      refine wpAny_bind (wpAny_holding (wpAny_call (PySem.W.class_get (s := ⟨hh, gg, dd, tt + 1, oo⟩) (ox := oe) (od := dct) XI at_ Z.hm (wpAny_pure ?_))))
      show wpAny _ _ (handedOut (.ref T)) _ _ _
      rw [PySem.W.handedOut_of (v := .ref T) rfl]
      first
        | exact wpAny_pure (wpAny_pure fin)
        | exact wpAny_pure (wpAny_bind (wpAny_pure (wpAny_pure fin)))
        | exact wpAny_pure fin)))))
theorem kit_err (Z : ExcC F T) : PySem.W.KitX F (.ref e) (.ref T) (fun h => PySem.W.InstAt h e oe T dct) := by
  obtain ⟨cd, isC, _⟩ := PySem.W.any_some Z.hd
  obtain ⟨ob, hob, hcl⟩ : ∃ ob, F.lookup T = some ob ∧ ob.data = .cls cd := by
    unfold PySem.W.clsIn at isC
    split at isC
    · rename_i q
      cases isC
      exact ⟨_, q, rfl⟩
    · cases isC
  obtain ⟨oc, od', odt, osl⟩ := ob
  cases hcl
  refine ⟨fun _ _ _ I => I.type, fun _ _ X _ A' Q' E' s' k q => ?_, fun h tp d its n sl X htp => Bool.eq_false_iff.mpr fun q => ?_, fun X I k => class_asked Z X I k⟩
  · unfold isType loadHead
    exact wpAny_bind (wpAny_loadPart (k _ _ (X _ _ hob)) (wpAny_pure q))
  · obtain rfl : T = tp := Value.ref.inj (beq_iff_eq.mp q)
    cases (X _ _ hob).symm.trans htp
end
end IsE
namespace IsE
open PySem PySem.Spec PyProof.Rows L2
/-- isinstance(e, c), e the exception that the suite holds, with a dict of its own -/
def rIsO (K : PySem.W.Frag) (D a : Addr) (cls : Value) (d : Option Addr) : List V → Hp → VK → Prop := fun xs H Q => ∃ (c : V) (cv : Value) (b : Bool) (dd : Addr) (fs : List (Str × V)), xs = [.ref a, c] ∧ cls = .ref D ∧ d = some dd ∧ H dd = some (.xd fs) ∧ (∀ u, RelV c u → u = cv) ∧ PySem.W.kitOne K (.ref D) cv = some b ∧ Q (.bl b) H
theorem call_isO {X : Cx} {a D : Addr} {oe : Obj} {cls : Value} {d : Option Addr} {pn : List (Addr × Obj)} (C : ExcC X.K D) (hz : Zc cls d oe) (hf : ∃ vs, oe.data = .fields vs) : CallR (X.suite a ((a, oe) :: pn)) (.builtin "isinstance") (rIsO X.K D a cls d) := by
  intro pins s σ H xs us Q I r h
  obtain ⟨c, cv, b, dd, fs, rfl, rfl, rfl, ea, hcv, e, q⟩ := h
  cases r with
  | cons rx rr =>
    cases rr with
    | cons rt rr =>
      cases rr
      cases rx
      have ec := hcv _ rt
      subst ec
      obtain ⟨hget, _⟩ := I.pin (a, oe) (List.mem_append.mpr (.inl List.mem_cons_self))
      obtain ⟨vs, hv⟩ := hf
      have hx : ObjOk X.prog X.w H s.heap dd (.xd fs) := I.hok dd _ ea
      obtain ⟨mA, hns, hr⟩ := hx
      obtain ⟨od, ho, hl⟩ := lookIn_ns hns
      have J : PySem.W.InstAt s.heap a oe D (some od) := ⟨hget, hz.1, by unfold PySem.W.notCls; rw [hv] <;> rfl, by rw [hz.2]; exact ho⟩
      exact PySem.W.kia_one (kit_err C) I.kIn J e (fun z => nomatch z) fun tk => ⟨.bl b, H, I.kept (t' := tk) fun _ _ z => z, rfl, q⟩
end IsE


set_option Elab.async false
set_option linter.all false
set_option maxRecDepth 100000
set_option maxHeartbeats 1000000
/-! try with several clauses `except C as e`, each with its name. -/
namespace L2
open PySem PySem.Spec PyProof.Rows
/-- one clause: its class, the slot of its name, its suite -/
abbrev Cl := Value × Nat × (Addr → Value → Option Addr → TS)
/-- the ends of a suite: the name is gone behind it -/
def Ends.off (D : Ends) (i : Nat) : Ends := ⟨fun st hp => D.nx (st.set i none) hp, D.rt, fun st hp => D.bk (st.set i none) hp, fun st hp => D.ct (st.set i none) hp⟩
def wCls (K : PySem.W.Frag) (Wout : WX) (D : Ends) : List Cl → WX
  | [] => Wout
  | (c, i, ts) :: more => fun k d st hp => ∃ hit, PySem.W.exmOne K k c = some hit ∧ (hit = true → ∀ x, hp x = none → ts x k d (D.off i) (st.set i (some (.ref x))) hp) ∧ (hit = false → wCls K Wout D more k d st hp)
inductive ClsOk (X : Cx) : List ExceptHandler → List Cl → Prop
  | nil : ClsOk X [] []
  | cons {y n : Str} {c : Value} {i : Nat} {ts : Addr → Value → Option Addr → TS} {s0 : Stmt} {ss : List Stmt} {p1 p2 : Pos} {more : List ExceptHandler} {l : List Cl} (cN : Names X y c) (ci : X.N[i]? = some n) (cl : X.env.kindOf n = some .local)
      (cS : ∀ (x : Addr) (ob : Obj) (k : Value) (d : Option Addr) (pn : List (Addr × Obj)), Zc k d ob → (∃ us, ob.data = .fields us) → PSs (X.suite x ((x, ob) :: pn)) (s0 :: ss) (ts x k d))
      (rest : ClsOk X more l) : ClsOk X (.ExceptHandler (some (.Name y p1)) (some n) (s0 :: ss) p2 :: more) ((c, i, ts) :: l)
section
variable {X : Cx} {body : List Stmt} {c0 : ExceptHandler} {cs : List ExceptHandler} {l : List Cl} {pos : Pos} {tb : WX → TS} {Wout : WX}
theorem ps_try_cls (kS : X.stack = X.env :: X.outer) (kF : X.env.frame = some X.env.locals) (kN : X.N.Nodup) (out : Takes X Wout)
    (hb : ∀ (W : WX) (pn : List (Addr × Obj)) (xe : Value → Shared → Prop), Takes (X.tr pn xe) W → PassesOwn (model X.prog X.w) X.A X.env xe → PSs (X.tr pn xe) body (tb W))
    (hc : ClsOk X (c0 :: cs) l) : PS X (.Try body (c0 :: cs) [] [] pos) (fun D σ H => tb (wCls X.K Wout D l) D σ H) := by
  constructor
  intro pins s st hp D I todo
  have ok := I.ok
  have kA : X.A.frames = some (X.env :: X.outer) := ok.frames.trans (by rw [kS])
  apply wpAny_Try_except
  have tried := hb (wCls X.K Wout D l) (X.pn ++ pins)
    (fun e t1 => wpAny (model X.prog X.w) X.A (noteFrame e X.env)
      (fun _ t2 => wpAny (model X.prog X.w) X.A (setFlight e none)
        (fun _ t3 => wpAny (model X.prog X.w) X.A (handleBy e X.env (c0 :: cs)) (SP X pins D) X.xe t3) X.xe t2) X.xe t1)
    ?caught PassesOwn.looking
  · refine wpAny_mono (tried.run [] s st hp D (I.toTry _) todo) (fun f t1 fin => ?_) (fun _ _ z => z)
    rcases f with _ | _ | _ | u
    · obtain ⟨st1, hp1, J, q⟩ := fin
      exact wpAny_execs_nil ⟨st1, hp1, J.ofTry ok, q⟩
    · exact fin.elim fun st1 z => z.elim fun hp1 y => ⟨st1, hp1, y.1.ofTry ok, y.2⟩
    · exact fin.elim fun st1 z => z.elim fun hp1 y => ⟨st1, hp1, y.1.ofTry ok, y.2⟩
    · obtain ⟨v, st1, hp1, J, r, q⟩ := fin
      exact ⟨v, st1, hp1, J.ofTry ok, r, q⟩
  case caught =>
    rintro _ t1 ⟨x, B, tI, pin1, st1, hp1, k, d, rfl, J0, nb, up, sky0, nx, os, ag, wish⟩
    have J : Inv X pins st1 hp1 tI := J0.ofTry ok
    have sky : Sky B (X.env :: X.outer) x (Zc k d) X.env.locals t1.heap := kS ▸ sky0
    refine Sky.land Zc.steady kA kF sky ?_
    intro h2 fl2 up2
    have J2 : Inv X pins st1 hp1 { t1 with heap := h2 } := J.landed nb fl2.1 (up.trans up2) os ag
    obtain ⟨ob, us, g2, z2, dat2⟩ := fl2.there
    have apart : x ∉ frs (X.env :: X.outer) := fun m => by
      obtain ⟨_, ob', g', no⟩ := fl2.2.2.1.mem m
      cases g2.symm.trans g'
      exact no _ dat2
    have notL : x ≠ X.env.locals := fun e => apart (List.mem_filterMap.mpr ⟨X.env, .head _, by rw [kF, e]⟩)
    have notF : x ∉ X.fs := fun m => by
      obtain ⟨en, m1, q⟩ := List.mem_filterMap.mp m
      exact apart (List.mem_filterMap.mpr ⟨en, .tail _ m1, q⟩)
    have S2 := J2.suite g2 dat2 nx notL notF
    suffices all : ∀ {cs' : List ExceptHandler} {l' : List Cl}, ClsOk X cs' l' → wCls X.K Wout D l' k d st1 hp1 →
        wpAny (model X.prog X.w) X.A (handleBy (.ref x) X.env cs') (SP X pins D) X.xe { t1 with heap := h2 } from all hc wish
    intro cs' l' okC
    induction okC with
    | nil =>
      intro wish
      apply wpAny_handleBy_nil
      obtain ⟨_, _, _, ob', us', T, oT, _, g', _, dat', first', _⟩ := id fl2
      unfold PySem.passOn
      refine wpAny_bind (wpAny_field g' dat' first' ?_)
      rw [if_neg (by simp)]
      have on : wpAny (model X.prog X.w) X.A (setFlight (.ref x) X.env.frame)
          (fun _ t4 => wpAny (model X.prog X.w) X.A (throw (.ref x) : Sem Flow) (SP X pins D) X.xe t4) X.xe { t1 with heap := h2 } := by
        rw [kF]
        refine HandSPX.setFlight_upZ fl2 ?_
        intro h4 held up4
        exact wpAny_throw (out _ _ ⟨x, B, tI, pins, st1, hp1, k, d, rfl, J, nb, (up.trans up2).trans up4, .inr (.inr (kS ▸ held)), nx, os, ag, wish⟩)
      first
        | exact wpAny_bind on
        | exact wpAny_bind (wpAny_pure (wpAny_bind on))
    | @cons y n c i ts s0 ss p1 p2 more l2 cN ci cl cS rest ih =>
      rintro ⟨hit, isHit, yes, no⟩
      refine wpAny_handleBy_cons (codeAny_handlers_test ?_) nofun
      have looks : PySem.W.Looks (model X.prog X.w) h2 (typeOf (.ref x)) k := fun _ _ _ t kp q => wpAny_typeOf_ref (kp _ _ g2) (by rw [z2.1]; exact q)
      have ask : ∀ {Q : Value → Shared → Prop} {E : Value → Shared → Prop}, Q c { t1 with heap := h2 } →
          wpAny (model X.prog X.w) (X.A.mark (some (.ref x))) (eval (.Name y p1) X.env) Q E { t1 with heap := h2 } := by
        intro Q E q
        rcases cN with ⟨gl, dbg, m | ⟨m, v, nn⟩⟩
        · exact ld_glob (X := X.suite x ((x, ob) :: (X.pn ++ pins))) S2 gl m q dbg
        · exact ld_blt (X := X.suite x ((x, ob) :: (X.pn ++ pins))) S2 gl m v q nn dbg
      refine ask ((PySem.W.exm_one (M := model X.prog X.w) J2.kIn looks isHit).here ?_)
      rcases hit with _ | _
      · exact ih (no rfl)
      apply codeAny_handlers_suite_as
      refine HandSPX.lands_againZ fl2 ?_
      intro h4 fl4 up4
      have J4 : Inv X pins st1 hp1 { t1 with heap := h4 } := J.landed nb fl4.1 ((up.trans up2).trans up4) os ag
      obtain ⟨ob4, us4, g4, z4, dat4⟩ := fl4.there
      refine store_ok (X := X.suite x ((x, ob4) :: (X.pn ++ pins))) (v := .ref x) (J4.suite g4 dat4 nx notL notF) kN ci (show Loc X.env.scope n from .inl cl) rfl ?_ (.inr cl)
      intro t5 S5
      have run := (cS x ob4 k d (X.pn ++ pins) z4 ⟨_, dat4⟩).run [] t5 _ hp1 _ S5 (yes rfl x nx)
      refine wpAny_mono run (fun f t6 fin => ?_) (fun _ _ z => z.elim)
      have away : ∀ {st6 : St} {hp6 : Hp} {Q : Shared → Prop}, Inv (X.suite x ((x, ob4) :: (X.pn ++ pins))) [] st6 hp6 t6 → (∀ t7, Inv X pins (st6.set i none) hp6 t7 → Q t7) →
          wpAny (model X.prog X.w) X.A (do bindName X.env n .none; unbindBehindTheSuite X.env n p2) (fun _ t7 => Q t7) X.xe t6 := fun S6 q => gone_ok (S6.unsuite ok) kN ci cl q
      rcases f with _ | _ | _ | u
      · obtain ⟨st6, hp6, S6, q⟩ := fin
        exact away S6 fun t7 J7 => ⟨_, _, J7, q⟩
      · obtain ⟨st6, hp6, S6, q⟩ := fin
        exact away S6 fun t7 J7 => ⟨_, _, J7, q⟩
      · obtain ⟨st6, hp6, S6, q⟩ := fin
        exact away S6 fun t7 J7 => ⟨_, _, J7, q⟩
      · obtain ⟨v6, st6, hp6, S6, r6, q⟩ := fin
        exact away S6 fun t7 J7 => ⟨_, _, _, J7, r6, q⟩
end
end L2


set_option Elab.async false
set_option linter.all false
set_option maxRecDepth 100000
set_option maxHeartbeats 4000000
namespace K00
open PySem PySem.Spec PyProof.Rows L2 RZ StX
open Evl (Ex)
open IsE
section
variable {w : World} {K : PySem.W.Frag} {mg : Str → Option Value} {base : Heap}
theorem Ctx.ec_BadSet (T : Ctx K mg) : ExcC K (He.ga K "BadSet") := ⟨T.xga_BadSet, T.xgg_BadSet, T.xs_BadSet, T.xd_BadSet, T.xcc_BadSet, T.gs, T.tk, T.xo_BadSet⟩
theorem Ctx.xf_BadSet (T : Ctx K mg) : XfC K (He.ga K "BadSet") := ⟨T.xga_BadSet, T.xgg_BadSet, T.xs_BadSet, T.xd_BadSet⟩
theorem Ctx.ec_BadDemand (T : Ctx K mg) : ExcC K (He.ga K "BadDemand") := ⟨T.xga_BadDemand, T.xgg_BadDemand, T.xs_BadDemand, T.xd_BadDemand, T.xcc_BadDemand, T.gs, T.tk, T.xo_BadDemand⟩
theorem Ctx.xf_BadDemand (T : Ctx K mg) : XfC K (He.ga K "BadDemand") := ⟨T.xga_BadDemand, T.xgg_BadDemand, T.xs_BadDemand, T.xd_BadDemand⟩
theorem Ctx.ec_NotAStock (T : Ctx K mg) : ExcC K (He.ga K "NotAStock") := ⟨T.xga_NotAStock, T.xgg_NotAStock, T.xs_NotAStock, T.xd_NotAStock, T.xcc_NotAStock, T.gs, T.tk, T.xo_NotAStock⟩
theorem Ctx.xf_NotAStock (T : Ctx K mg) : XfC K (He.ga K "NotAStock") := ⟨T.xga_NotAStock, T.xgg_NotAStock, T.xs_NotAStock, T.xd_NotAStock⟩
theorem Ctx.ec_BadRun (T : Ctx K mg) : ExcC K (He.ga K "BadRun") := ⟨T.xga_BadRun, T.xgg_BadRun, T.xs_BadRun, T.xd_BadRun, T.xcc_BadRun, T.gs, T.tk, T.xo_BadRun⟩
theorem Ctx.xf_BadRun (T : Ctx K mg) : XfC K (He.ga K "BadRun") := ⟨T.xga_BadRun, T.xgg_BadRun, T.xs_BadRun, T.xd_BadRun⟩
theorem Ctx.ec_BadNumber (T : Ctx K mg) : ExcC K (He.ga K "BadNumber") := ⟨T.xga_BadNumber, T.xgg_BadNumber, T.xs_BadNumber, T.xd_BadNumber, T.xcc_BadNumber, T.gs, T.tk, T.xo_BadNumber⟩
theorem Ctx.xf_BadNumber (T : Ctx K mg) : XfC K (He.ga K "BadNumber") := ⟨T.xga_BadNumber, T.xgg_BadNumber, T.xs_BadNumber, T.xd_BadNumber⟩
theorem Ctx.ec_BadPart (T : Ctx K mg) : ExcC K (He.ga K "BadPart") := ⟨T.xga_BadPart, T.xgg_BadPart, T.xs_BadPart, T.xd_BadPart, T.xcc_BadPart, T.gs, T.tk, T.xo_BadPart⟩
theorem Ctx.xf_BadPart (T : Ctx K mg) : XfC K (He.ga K "BadPart") := ⟨T.xga_BadPart, T.xgg_BadPart, T.xs_BadPart, T.xd_BadPart⟩
theorem Ctx.ec_IsGone (T : Ctx K mg) : ExcC K (He.ga K "IsGone") := ⟨T.xga_IsGone, T.xgg_IsGone, T.xs_IsGone, T.xd_IsGone, T.xcc_IsGone, T.gs, T.tk, T.xo_IsGone⟩
theorem Ctx.xf_IsGone (T : Ctx K mg) : XfC K (He.ga K "IsGone") := ⟨T.xga_IsGone, T.xgg_IsGone, T.xs_IsGone, T.xd_IsGone⟩
theorem Ctx.ec_NotJoin (T : Ctx K mg) : ExcC K (He.ga K "NotJoin") := ⟨T.xga_NotJoin, T.xgg_NotJoin, T.xs_NotJoin, T.xd_NotJoin, T.xcc_NotJoin, T.gs, T.tk, T.xo_NotJoin⟩
theorem Ctx.xf_NotJoin (T : Ctx K mg) : XfC K (He.ga K "NotJoin") := ⟨T.xga_NotJoin, T.xgg_NotJoin, T.xs_NotJoin, T.xd_NotJoin⟩
theorem okZ {x : Str} {st : Stmt} {f : Addr} {fd : FuncData} {N ps : List Str} {k : Nat} {sp : Sp} {dvs : List V} {kws : List (Str × V)} {qual : Str} (F : FunD K x qual (defArgs st) (defBody st) (defScope st) dvs kws f fd) (S : FnScope N ps (defScope st)) (len : ∀ vs H Q E, sp vs H Q E → vs.length = ps.length)
    (hbody : ∀ (cdv : Value) (A : Around) (outer : List Env) (s : Shared) (H : Hp) (vs : List V) (Q : VK) (E : XK), Room k (A.deeper (envOfC qual (defScope st) s.heap.objs.size f cdv)) → sp vs H Q E →
      ∃ t, PSs (cxOf CX0 PP w K mg base N qual (defScope st) f cdv A outer s H E) (defBody st) t ∧ t { nx := fun _ H' => Q .non H', rt := Q } (start N vs) H) : FnOk PP w K mg base CX0 (k + 1) f fd ps sp := F.ok S len hbody
/-! ### _law_refused -/
def spRef (K : PySem.W.Frag) : Sp := fun vs H Q _ => ∃ (x : Addr) (kd : Str) (s : Nat) (us : List V) (rs : List (Int × Int)) (gs : List Int) (v p : V) (c : Str) (n : Int), vs = [.ref x, v, p] ∧ Mkt K H x kd (s : Int) us rs gs ∧ s ≤ 50 ∧ (∀ r ∈ rs, Fits s r) ∧ us.length < 60 ∧
  ((c = "demand" ∧ DemBad H s v n) ∨ (c = "set" ∧ ∃ D, Dem H s v D ∧ SetBad H us.length p n)) ∧ ∀ H' q, Ex H H' → H' q = some (.lst [.str c, .int n, .bl true, .bl false]) → Q (.ref q) H'
theorem sc_ref : FnScope ["_law_market_here", "_law_row", "_law_parts_here", "_law_told", "error"] ["_law_market_here", "_law_row", "_law_parts_here"] (defScope s__law_refused) := ⟨rfl, rfl, rfl, by decide +kernel, rfl, by decide +kernel, by decide +kernel⟩
theorem has_ref (T : Ctx K mg) : Has w K mg base CX0 "_law_refused" 6 ["_law_market_here", "_law_row", "_law_parts_here"] (spRef K) := by
  obtain ⟨f1, fd1, m1, kp1, F1, b1⟩ := has_is_stock (w := w) (base := base) T
  refine has_of (st := s__law_refused) (f := He.ga K "_law_refused") T.d__law_refused T.g__law_refused (fun _ _ _ _ _ _ us hl => match us, hl with | [_, _, _], _ => rfl) fun fd F => ?_
  refine okZ F sc_ref (fun vs H Q E h => ?_) (fun cdv A outer s0 H vs Q E hr h => ?_)
  · obtain ⟨x, kd, s, us, rs, gs, v, p, c, n, rfl, _⟩ := h
    rfl
  · obtain ⟨x, kd, s, us, rs, gs, v, p, c, n, rfl, M, hs50, hF, hu60, hc, k⟩ := h
    have nd := sc_ref.nd
    refine ⟨_, pss_cons (ps_set (i := 3) nd rfl (.inl rfl) (pe_lst (pa_cons pe_str (pa_cons pe_int (pa_cons pe_bl (pa_cons pe_bl pa_nil))))))
      (pss_cons (ps_try_cls rfl rfl nd (takes0 (X := _))
        (fun W pn xe tk hp => pss_one (ps_expr (pe_callS F1 hr (by rfl) m1 kp1 b1 (fun σ => passAt tk σ) (pa_cons (pv 0) (pa_cons (pv 1) (pa_cons (pv 2) pa_nil))))))
        (.cons (c := .ref (He.ga K "BadDemand")) (i := 4) ⟨by rfl, by decide, .inl T.g_BadDemand⟩ rfl rfl (fun a oe cls d pn hz hf => pss_one (ps_set (i := 3) nd rfl (.inl rfl) (pe_lst (pa_cons pe_str (pa_cons (pe_xf T.xf_BadDemand T.xnn_BadDemand hz hf (pv 4))
              (pa_cons (pe_callB (call_isO T.ec_BadDemand hz hf) (by rfl) T.b_isinstance (by decide +kernel) (pa_cons (pv 4) (pa_cons (pe_glob (v := .ref (He.ga K "PartsError")) rfl T.g_PartsError rfl) pa_nil)))
              (pa_cons (pe_callB (call_isO T.ec_BadDemand hz hf) (by rfl) T.b_isinstance (by decide +kernel) (pa_cons (pv 4) (pa_cons (pe_glob (v := .ref (He.ga K "BadSet")) rfl T.g_BadSet rfl) pa_nil))) pa_nil)))))))
        (.cons (c := .ref (He.ga K "BadSet")) (i := 4) ⟨by rfl, by decide, .inl T.g_BadSet⟩ rfl rfl (fun a oe cls d pn hz hf => pss_one (ps_set (i := 3) nd rfl (.inl rfl) (pe_lst (pa_cons pe_str (pa_cons (pe_xf T.xf_BadSet T.xnn_BadSet hz hf (pv 4))
              (pa_cons (pe_callB (call_isO T.ec_BadSet hz hf) (by rfl) T.b_isinstance (by decide +kernel) (pa_cons (pv 4) (pa_cons (pe_glob (v := .ref (He.ga K "PartsError")) rfl T.g_PartsError rfl) pa_nil)))
              (pa_cons (pe_callB (call_isO T.ec_BadSet hz hf) (by rfl) T.b_isinstance (by decide +kernel) (pa_cons (pv 4) (pa_cons (pe_glob (v := .ref (He.ga K "BadDemand")) rfl T.g_BadDemand rfl) pa_nil))) pa_nil)))))))
        .nil)))
      (pss_one (ps_ret (pv 3)))), ?_⟩
    refine ⟨(by show 4 ≤ sizeLine; decide), fun q0 hq0 => ?_⟩
    have e0 := Ex.new (o := .lst [V.str "none", .int 0, .bl false, .bl false]) hq0
    refine ⟨_, rfl, _, rfl, _, rfl, ?_⟩
    simp only [tNil]
    refine ⟨x, kd, s, us, rs, gs, v, p, rfl, M.ex e0, hs50, hF, hu60, ?_⟩
    rcases hc with ⟨rfl, hn⟩ | ⟨rfl, D, hD, hn⟩
    · refine .inr (.inl ⟨n, hn.ex e0, ?_⟩)
      rintro H' d e' hd hq
      refine ⟨true, T.te_BadDemand, fun _ a0 ha0 => ?_, fun q => Bool.noConfusion q⟩
      refine ⟨_, rfl, rfl, rfl, d, _, .int n, rfl, hq, rfl, ?_⟩
      refine ⟨_, rfl, _, _, true, d, _, rfl, rfl, rfl, hq, fun u r => r, T.ki_BadDemand_PartsError, ?_⟩
      refine ⟨_, rfl, _, _, false, d, _, rfl, rfl, rfl, hq, fun u r => r, T.ki_BadDemand_BadSet, ?_⟩
      refine ⟨(by show 4 ≤ sizeLine; decide), fun q1 hq1 => ?_⟩
      exact ⟨_, rfl, k _ _ ((e0.trans e').trans (Ex.new hq1)) upd_same⟩
    · refine .inr (.inr ⟨D, n, hD.ex e0, hn.ex e0, ?_⟩)
      rintro H' d e' hd hq
      refine ⟨false, T.tf_BadSet_BadDemand, fun q => Bool.noConfusion q, fun _ => ⟨true, T.te_BadSet, fun _ a0 ha0 => ?_, fun q => Bool.noConfusion q⟩⟩
      refine ⟨_, rfl, rfl, rfl, d, _, .int n, rfl, hq, rfl, ?_⟩
      refine ⟨_, rfl, _, _, true, d, _, rfl, rfl, rfl, hq, fun u r => r, T.ki_BadSet_PartsError, ?_⟩
      refine ⟨_, rfl, _, _, false, d, _, rfl, rfl, rfl, hq, fun u r => r, T.ki_BadSet_BadDemand, ?_⟩
      refine ⟨(by show 4 ≤ sizeLine; decide), fun q1 hq1 => ?_⟩
      exact ⟨_, rfl, k _ _ ((e0.trans e').trans (Ex.new hq1)) upd_same⟩
/-! ### _law_stock_refused -/
/-- what check_stock says of a stock -/
def dueV (kd : Str) (s : Nat) (rs : List (Int × Int)) (gs D ms : List Int) : V := if (ms.any fun p => decide (p ∈ gs)) = true then .int (-1) else fw (okRow kd (covL s rs ms) D)
def spSRef (K : PySem.W.Frag) : Sp := fun vs H Q _ => ∃ (x : Addr) (kd : Str) (s : Nat) (us : List V) (rs : List (Int × Int)) (gs D ps : List Int) (v p : V), vs = [.ref x, v, p] ∧ Mkt K H x kd (s : Int) us rs gs ∧ s ≤ 50 ∧ (∀ r ∈ rs, Fits s r) ∧ us.length < 60 ∧
  Dem H s v D ∧ RowI H p ps ∧ Parts us.length ps ∧ ps.Pairwise (· < ·) ∧ ∀ H', Ex H H' → Q (dueV kd s rs gs D ps) H'
theorem sc_sref : FnScope ["_law_market_here", "_law_row", "_law_parts_here", "_law_told", "error"] ["_law_market_here", "_law_row", "_law_parts_here"] (defScope s__law_stock_refused) := ⟨rfl, rfl, rfl, by decide +kernel, rfl, by decide +kernel, by decide +kernel⟩
theorem Ord.same {ns ms : List Int} (o : Ord ns ms) (h : ns.Pairwise (· < ·)) : ms = ns := asc_eq o.asc h o.mem
theorem has_sref (T : Ctx K mg) : Has w K mg base CX0 "_law_stock_refused" 6 ["_law_market_here", "_law_row", "_law_parts_here"] (spSRef K) := by
  obtain ⟨f1, fd1, m1, kp1, F1, b1⟩ := has_check_stock (w := w) (base := base) T
  refine has_of (st := s__law_stock_refused) (f := He.ga K "_law_stock_refused") T.d__law_stock_refused T.g__law_stock_refused (fun _ _ _ _ _ _ us hl => match us, hl with | [_, _, _], _ => rfl) fun fd F => ?_
  refine okZ F sc_sref (fun vs H Q E h => ?_) (fun cdv A outer s0 H vs Q E hr h => ?_)
  · obtain ⟨x, kd, s, us, rs, gs, D, ps, v, p, rfl, _⟩ := h
    rfl
  · obtain ⟨x, kd, s, us, rs, gs, D, ps, v, p, rfl, M, hs50, hF, hu60, hD, hp, hP, hasc, k⟩ := h
    have nd := sc_sref.nd
    refine ⟨_, pss_cons (ps_set (i := 3) nd rfl (.inl rfl) pe_non)
      (pss_cons (ps_try_as (i := 4) (c := .ref (He.ga K "NotAStock")) (Wout := fun _ _ _ _ => False) rfl rfl nd rfl rfl ⟨by rfl, by decide, .inl T.g_NotAStock⟩ takes0
        (fun W pn xe tk hp => pss_one (ps_expr (pe_callS F1 hr (by rfl) m1 kp1 b1 (fun σ => passAt tk σ) (pa_cons (pv 0) (pa_cons (pv 1) (pa_cons (pv 2) pa_nil))))))
        (fun a oe cls d pn hz hf => pss_one (ps_set (i := 3) nd rfl (.inl rfl) (pe_xf T.xf_NotAStock T.xnn_NotAStock hz hf (pv 4)))))
      (pss_one (ps_ret (pv 3)))), ?_⟩
    refine ⟨_, rfl, _, rfl, _, rfl, ?_⟩
    simp only [tNil]
    refine ⟨x, kd, s, us, rs, gs, v, p, rfl, M, hs50, hF, hu60, .inl ⟨D, ps, hD, hp, hP, fun ms ho => ?_⟩⟩
    obtain rfl := ho.same hasc
    refine ⟨fun hg => ?_, fun hg => ⟨fun n hf => ?_, fun hf H' q e' hq => ?_⟩⟩
    · rintro H' d e' hd hq
      refine ⟨true, T.te_NotAStock, fun _ a0 ha0 => ?_, fun q => Bool.noConfusion q⟩
      refine ⟨_, rfl, rfl, rfl, d, _, .int (-1), rfl, hq, rfl, ?_⟩
      have kk := k _ e'
      unfold dueV at kk
      rw [if_pos hg] at kk
      exact ⟨_, rfl, kk⟩
    · rintro H' d e' hd hq
      refine ⟨true, T.te_NotAStock, fun _ a0 ha0 => ?_, fun q => Bool.noConfusion q⟩
      refine ⟨_, rfl, rfl, rfl, d, _, .int n, rfl, hq, rfl, ?_⟩
      have kk := k _ e'
      unfold dueV at kk
      rw [if_neg (by rw [hg]; decide), hf] at kk
      exact ⟨_, rfl, kk⟩
    · have kk := k _ e'
      unfold dueV at kk
      rw [if_neg (by rw [hg]; decide), hf] at kk
      exact ⟨_, rfl, kk⟩
end
end K00


set_option Elab.async false
set_option linter.all false
set_option maxRecDepth 100000
set_option maxHeartbeats 4000000
namespace K00
open PySem PySem.Spec PyProof.Rows L2 RZ StX
open Evl (Ex)
open IsE
section
variable {w : World} {K : PySem.W.Frag} {mg : Str → Option Value} {base : Heap}
/-! ### _law_door_refused -/
/-- what a door refuses -/
def DoorBad (K : PySem.W.Frag) (H : Hp) (d : Int) (s m : Nat) (v p rv bv : V) (c : Str) (nv : V) : Prop :=
  (∃ n, (d = 1 ∨ d = 2 ∨ d = 3 ∨ d = 4 ∨ d = 5 ∨ d = 6) ∧ DemBad H s v n ∧ c = "demand" ∧ nv = .int n) ∨
  (∃ n, (d = 0 ∨ ((d = 1 ∨ d = 2 ∨ d = 3) ∧ ∃ D, Dem H s v D)) ∧ SetBad H m p n ∧ c = "set" ∧ nv = .int n) ∨
  (d = 5 ∧ ∃ D t r, Dem H s v D ∧ rv = .ref t ∧ H t = some (.tup [.int r.1, .int r.2]) ∧ ((¬ Fits s r ∧ c = "run" ∧ nv = .int (-1)) ∨ (Fits s r ∧ Kd H bv ∧ isI bv = false ∧ c = "number" ∧ nv = .str "by")))
def spDoor (K : PySem.W.Frag) : Sp := fun vs H Q _ => ∃ (d : Int) (x : Addr) (kd : Str) (s : Nat) (us : List V) (rs : List (Int × Int)) (gs : List Int) (v p rv bv : V) (c : Str) (nv : V), vs = [.int d, .ref x, v, p, rv, bv] ∧ Mkt K H x kd (s : Int) us rs gs ∧ s ≤ 50 ∧ (∀ r ∈ rs, Fits s r) ∧ us.length < 60 ∧
  DoorBad K H d s us.length v p rv bv c nv ∧ ∀ H' q, Ex H H' → H' q = some (.lst [.str c, nv]) → Q (.ref q) H'
theorem sc_door : FnScope ["_law_door", "_law_market_here", "_law_row", "_law_parts_here", "_law_run_here", "_law_by", "_law_told", "error"] ["_law_door", "_law_market_here", "_law_row", "_law_parts_here", "_law_run_here", "_law_by"] (defScope s__law_door_refused) := ⟨rfl, rfl, rfl, by decide +kernel, rfl, by decide +kernel, by decide +kernel⟩
theorem has_door (T : Ctx K mg) : Has w K mg base CX0 "_law_door_refused" 6 ["_law_door", "_law_market_here", "_law_row", "_law_parts_here", "_law_run_here", "_law_by"] (spDoor K) := by
  obtain ⟨f0, fd0, m0, kp0, F0, b0⟩ := has_cover (w := w) (base := base) T
  obtain ⟨f1, fd1, m1, kp1, F1, b1⟩ := has_misfit_place (w := w) (base := base) T
  obtain ⟨f2, fd2, m2, kp2, F2, b2⟩ := has_over (w := w) (base := base) T
  obtain ⟨f3, fd3, m3, kp3, F3, b3⟩ := has_check_stock (w := w) (base := base) T
  obtain ⟨f4, fd4, m4, kp4, F4, b4⟩ := has_begins (w := w) (base := base) T
  obtain ⟨f5, fd5, m5, kp5, F5, b5⟩ := has_changed (w := w) (base := base) T
  obtain ⟨f6, fd6, m6, kp6, F6, b6⟩ := has_demand_of (w := w) (base := base) T
  refine has_of (st := s__law_door_refused) (f := He.ga K "_law_door_refused") T.d__law_door_refused T.g__law_door_refused (fun _ _ _ _ _ _ us hl => match us, hl with | [_, _, _, _, _, _], _ => rfl) fun fd F => ?_
  refine okZ F sc_door (fun vs H Q E h => ?_) (fun cdv A outer s0 H vs Q E hr h => ?_)
  · obtain ⟨d, x, kd, s, us, rs, gs, v, p, rv, bv, c, nv, rfl, _⟩ := h
    rfl
  · obtain ⟨d, x, kd, s, us, rs, gs, v, p, rv, bv, c, nv, rfl, M, hs50, hF, hu60, hc, k⟩ := h
    have nd := sc_door.nd
    refine ⟨_, pss_cons (ps_set (i := 6) nd rfl (.inl rfl) (pe_lst (pa_cons pe_str (pa_cons pe_int pa_nil))))
      (pss_cons (ps_try_cls rfl rfl nd (takes0 (X := _))
        (fun W pn xe tk hp => (pss_one (ps_if (pt_cmpR op_eq (pv 0) pe_int (nomark _)) (pss_one (ps_expr (pe_callS F0 (hr.mono (show 4 ≤ 5 by decide)) (by rfl) m0 kp0 b0 (fun σ => passAt tk σ) (pa_cons (pv 1) (pa_cons (pv 3) pa_nil))))) (pss_one (ps_if (pt_cmpR op_eq (pv 0) pe_int (nomark _)) (pss_one (ps_expr (pe_callS F1 (hr.mono (show 4 ≤ 5 by decide)) (by rfl) m1 kp1 b1 (fun σ => passAt tk σ) (pa_cons (pv 1) (pa_cons (pv 2) (pa_cons (pv 3) pa_nil)))))) (pss_one (ps_if (pt_cmpR op_eq (pv 0) pe_int (nomark _)) (pss_one (ps_expr (pe_callS F2 (hr.mono (show 4 ≤ 5 by decide)) (by rfl) m2 kp2 b2 (fun σ => passAt tk σ) (pa_cons (pv 1) (pa_cons (pv 2) (pa_cons (pv 3) pa_nil)))))) (pss_one (ps_if (pt_cmpR op_eq (pv 0) pe_int (nomark _)) (pss_one (ps_expr (pe_callS F3 (hr.mono (show 5 ≤ 5 by decide)) (by rfl) m3 kp3 b3 (fun σ => passAt tk σ) (pa_cons (pv 1) (pa_cons (pv 2) (pa_cons (pv 3) pa_nil)))))) (pss_one (ps_if (pt_cmpR op_eq (pv 0) pe_int (nomark _)) (pss_one (ps_expr (pe_callS F4 (hr.mono (show 3 ≤ 5 by decide)) (by rfl) m4 kp4 b4 (fun σ => passAt tk σ) (pa_cons (pv 1) (pa_cons (pv 2) pa_nil))))) (pss_one (ps_if (pt_cmpR op_eq (pv 0) pe_int (nomark _)) (pss_one (ps_expr (pe_callS F5 (hr.mono (show 5 ≤ 5 by decide)) (by rfl) m5 kp5 b5 (fun σ => passAt tk σ) (pa_cons (pv 1) (pa_cons (pv 2) (pa_cons (pv 4) (pa_cons (pv 5) pa_nil))))))) (pss_one (ps_expr (pe_callS F6 (hr.mono (show 2 ≤ 5 by decide)) (by rfl) m6 kp6 b6 (fun σ => passAt tk σ) (pa_cons (pv 1) (pa_cons (pv 2) pa_nil))))))))))))))))))
        (.cons (c := .ref (He.ga K "BadDemand")) (i := 7) ⟨by rfl, by decide, .inl T.g_BadDemand⟩ rfl rfl (fun a oe cls d pn hz hf => pss_one (ps_set (i := 6) nd rfl (.inl rfl) (pe_lst (pa_cons pe_str (pa_cons (pe_xf T.xf_BadDemand T.xnn_BadDemand hz hf (pv 7)) pa_nil)))))
        (.cons (c := .ref (He.ga K "BadSet")) (i := 7) ⟨by rfl, by decide, .inl T.g_BadSet⟩ rfl rfl (fun a oe cls d pn hz hf => pss_one (ps_set (i := 6) nd rfl (.inl rfl) (pe_lst (pa_cons pe_str (pa_cons (pe_xf T.xf_BadSet T.xnn_BadSet hz hf (pv 7)) pa_nil)))))
        (.cons (c := .ref (He.ga K "BadRun")) (i := 7) ⟨by rfl, by decide, .inl T.g_BadRun⟩ rfl rfl (fun a oe cls d pn hz hf => pss_one (ps_set (i := 6) nd rfl (.inl rfl) (pe_lst (pa_cons pe_str (pa_cons (pe_xf T.xf_BadRun T.xnn_BadRun hz hf (pv 7)) pa_nil)))))
        (.cons (c := .ref (He.ga K "BadNumber")) (i := 7) ⟨by rfl, by decide, .inl T.g_BadNumber⟩ rfl rfl (fun a oe cls d pn hz hf => pss_one (ps_set (i := 6) nd rfl (.inl rfl) (pe_lst (pa_cons pe_str (pa_cons (pe_xf T.xf_BadNumber T.xnn_BadNumber hz hf (pv 7)) pa_nil)))))
        .nil)))))
      (pss_one (ps_ret (pv 6)))), ?_⟩
    refine ⟨(by show 2 ≤ sizeLine; decide), fun q0 hq0 => ?_⟩
    have e0 := Ex.new (o := .lst [V.str "none", .int 0]) hq0
    have M0 := M.ex e0
    rcases hc with ⟨n, hd6, hn, rfl, rfl⟩ | ⟨n, hd3, hn, rfl, rfl⟩ | ⟨rfl, D, t, r, hD, rfl, ht, hr5⟩
    · rcases hd6 with rfl | rfl | rfl | rfl | rfl | rfl
      · --1
        refine ⟨_, rfl, rfl, _, rfl, iteF' (by decide) ?_⟩
        refine ⟨_, rfl, rfl, _, rfl, iteT' (by decide) ?_⟩
        refine ⟨_, rfl, _, rfl, _, rfl, ?_⟩
        simp only [tNil]
        refine ⟨x, kd, s, us, rs, gs, v, p, rfl, M0, hs50, hF, hu60, .inr (.inl ⟨n, hn.ex e0, ?_⟩)⟩
        rintro H' d' e' hd hq
        refine ⟨true, T.te_BadDemand, fun _ a0 ha0 => ?_, fun q => Bool.noConfusion q⟩
        refine ⟨_, rfl, rfl, rfl, d', _, .int n, rfl, hq, rfl, (by show 2 ≤ sizeLine; decide), fun q1 hq1 => ?_⟩
        exact ⟨_, rfl, k _ _ ((e0.trans e').trans (Ex.new hq1)) upd_same⟩
      · --2
        refine ⟨_, rfl, rfl, _, rfl, iteF' (by decide) ?_⟩
        refine ⟨_, rfl, rfl, _, rfl, iteF' (by decide) ?_⟩
        refine ⟨_, rfl, rfl, _, rfl, iteT' (by decide) ?_⟩
        refine ⟨_, rfl, _, rfl, _, rfl, ?_⟩
        simp only [tNil]
        refine ⟨x, kd, s, us, rs, gs, v, p, rfl, M0, hs50, hF, hu60, .inr (.inl ⟨n, hn.ex e0, ?_⟩)⟩
        rintro H' d' e' hd hq
        refine ⟨true, T.te_BadDemand, fun _ a0 ha0 => ?_, fun q => Bool.noConfusion q⟩
        refine ⟨_, rfl, rfl, rfl, d', _, .int n, rfl, hq, rfl, (by show 2 ≤ sizeLine; decide), fun q1 hq1 => ?_⟩
        exact ⟨_, rfl, k _ _ ((e0.trans e').trans (Ex.new hq1)) upd_same⟩
      · --3
        refine ⟨_, rfl, rfl, _, rfl, iteF' (by decide) ?_⟩
        refine ⟨_, rfl, rfl, _, rfl, iteF' (by decide) ?_⟩
        refine ⟨_, rfl, rfl, _, rfl, iteF' (by decide) ?_⟩
        refine ⟨_, rfl, rfl, _, rfl, iteT' (by decide) ?_⟩
        refine ⟨_, rfl, _, rfl, _, rfl, ?_⟩
        simp only [tNil]
        refine ⟨x, kd, s, us, rs, gs, v, p, rfl, M0, hs50, hF, hu60, .inr (.inl ⟨n, hn.ex e0, ?_⟩)⟩
        rintro H' d' e' hd hq
        refine ⟨true, T.te_BadDemand, fun _ a0 ha0 => ?_, fun q => Bool.noConfusion q⟩
        refine ⟨_, rfl, rfl, rfl, d', _, .int n, rfl, hq, rfl, (by show 2 ≤ sizeLine; decide), fun q1 hq1 => ?_⟩
        exact ⟨_, rfl, k _ _ ((e0.trans e').trans (Ex.new hq1)) upd_same⟩
      · --4
        refine ⟨_, rfl, rfl, _, rfl, iteF' (by decide) ?_⟩
        refine ⟨_, rfl, rfl, _, rfl, iteF' (by decide) ?_⟩
        refine ⟨_, rfl, rfl, _, rfl, iteF' (by decide) ?_⟩
        refine ⟨_, rfl, rfl, _, rfl, iteF' (by decide) ?_⟩
        refine ⟨_, rfl, rfl, _, rfl, iteT' (by decide) ?_⟩
        refine ⟨_, rfl, _, rfl, ?_⟩
        simp only [tNil]
        refine ⟨x, kd, s, us, rs, gs, v, rfl, M0, hs50, .inr ⟨n, hn.ex e0, ?_⟩⟩
        rintro H' d' e' hd hq
        refine ⟨true, T.te_BadDemand, fun _ a0 ha0 => ?_, fun q => Bool.noConfusion q⟩
        refine ⟨_, rfl, rfl, rfl, d', _, .int n, rfl, hq, rfl, (by show 2 ≤ sizeLine; decide), fun q1 hq1 => ?_⟩
        exact ⟨_, rfl, k _ _ ((e0.trans e').trans (Ex.new hq1)) upd_same⟩
      · --5
        refine ⟨_, rfl, rfl, _, rfl, iteF' (by decide) ?_⟩
        refine ⟨_, rfl, rfl, _, rfl, iteF' (by decide) ?_⟩
        refine ⟨_, rfl, rfl, _, rfl, iteF' (by decide) ?_⟩
        refine ⟨_, rfl, rfl, _, rfl, iteF' (by decide) ?_⟩
        refine ⟨_, rfl, rfl, _, rfl, iteF' (by decide) ?_⟩
        refine ⟨_, rfl, rfl, _, rfl, iteT' (by decide) ?_⟩
        refine ⟨_, rfl, _, rfl, _, rfl, _, rfl, ?_⟩
        simp only [tNil]
        refine ⟨x, kd, s, us, rs, gs, v, rv, bv, rfl, M0, hs50, .inr ⟨n, hn.ex e0, ?_⟩⟩
        rintro H' d' e' hd hq
        refine ⟨true, T.te_BadDemand, fun _ a0 ha0 => ?_, fun q => Bool.noConfusion q⟩
        refine ⟨_, rfl, rfl, rfl, d', _, .int n, rfl, hq, rfl, (by show 2 ≤ sizeLine; decide), fun q1 hq1 => ?_⟩
        exact ⟨_, rfl, k _ _ ((e0.trans e').trans (Ex.new hq1)) upd_same⟩
      · --6
        refine ⟨_, rfl, rfl, _, rfl, iteF' (by decide) ?_⟩
        refine ⟨_, rfl, rfl, _, rfl, iteF' (by decide) ?_⟩
        refine ⟨_, rfl, rfl, _, rfl, iteF' (by decide) ?_⟩
        refine ⟨_, rfl, rfl, _, rfl, iteF' (by decide) ?_⟩
        refine ⟨_, rfl, rfl, _, rfl, iteF' (by decide) ?_⟩
        refine ⟨_, rfl, rfl, _, rfl, iteF' (by decide) ?_⟩
        refine ⟨_, rfl, _, rfl, ?_⟩
        simp only [tNil]
        refine ⟨x, kd, s, us, rs, gs, v, rfl, M0, hs50, .inr ⟨n, hn.ex e0, ?_⟩⟩
        rintro H' d' e' hd hq
        refine ⟨true, T.te_BadDemand, fun _ a0 ha0 => ?_, fun q => Bool.noConfusion q⟩
        refine ⟨_, rfl, rfl, rfl, d', _, .int n, rfl, hq, rfl, (by show 2 ≤ sizeLine; decide), fun q1 hq1 => ?_⟩
        exact ⟨_, rfl, k _ _ ((e0.trans e').trans (Ex.new hq1)) upd_same⟩
    · rcases hd3 with rfl | ⟨hd3, D, hD⟩
      · --0
        refine ⟨_, rfl, rfl, _, rfl, iteT' (by decide) ?_⟩
        refine ⟨_, rfl, _, rfl, ?_⟩
        simp only [tNil]
        refine ⟨x, kd, s, us, rs, gs, p, rfl, M0, hs50, hF, .inr ⟨n, hn.ex e0, ?_⟩⟩
        rintro H' d' e' hd hq
        refine ⟨false, T.tf_BadSet_BadDemand, fun q => Bool.noConfusion q, fun _ => ⟨true, T.te_BadSet, fun _ a0 ha0 => ?_, fun q => Bool.noConfusion q⟩⟩
        refine ⟨_, rfl, rfl, rfl, d', _, .int n, rfl, hq, rfl, (by show 2 ≤ sizeLine; decide), fun q1 hq1 => ?_⟩
        exact ⟨_, rfl, k _ _ ((e0.trans e').trans (Ex.new hq1)) upd_same⟩
      · rcases hd3 with rfl | rfl | rfl
        · --1
          refine ⟨_, rfl, rfl, _, rfl, iteF' (by decide) ?_⟩
          refine ⟨_, rfl, rfl, _, rfl, iteT' (by decide) ?_⟩
          refine ⟨_, rfl, _, rfl, _, rfl, ?_⟩
          simp only [tNil]
          refine ⟨x, kd, s, us, rs, gs, v, p, rfl, M0, hs50, hF, hu60, .inr (.inr ⟨D, n, hD.ex e0, hn.ex e0, ?_⟩)⟩
          rintro H' d' e' hd hq
          refine ⟨false, T.tf_BadSet_BadDemand, fun q => Bool.noConfusion q, fun _ => ⟨true, T.te_BadSet, fun _ a0 ha0 => ?_, fun q => Bool.noConfusion q⟩⟩
          refine ⟨_, rfl, rfl, rfl, d', _, .int n, rfl, hq, rfl, (by show 2 ≤ sizeLine; decide), fun q1 hq1 => ?_⟩
          exact ⟨_, rfl, k _ _ ((e0.trans e').trans (Ex.new hq1)) upd_same⟩
        · --2
          refine ⟨_, rfl, rfl, _, rfl, iteF' (by decide) ?_⟩
          refine ⟨_, rfl, rfl, _, rfl, iteF' (by decide) ?_⟩
          refine ⟨_, rfl, rfl, _, rfl, iteT' (by decide) ?_⟩
          refine ⟨_, rfl, _, rfl, _, rfl, ?_⟩
          simp only [tNil]
          refine ⟨x, kd, s, us, rs, gs, v, p, rfl, M0, hs50, hF, hu60, .inr (.inr ⟨D, n, hD.ex e0, hn.ex e0, ?_⟩)⟩
          rintro H' d' e' hd hq
          refine ⟨false, T.tf_BadSet_BadDemand, fun q => Bool.noConfusion q, fun _ => ⟨true, T.te_BadSet, fun _ a0 ha0 => ?_, fun q => Bool.noConfusion q⟩⟩
          refine ⟨_, rfl, rfl, rfl, d', _, .int n, rfl, hq, rfl, (by show 2 ≤ sizeLine; decide), fun q1 hq1 => ?_⟩
          exact ⟨_, rfl, k _ _ ((e0.trans e').trans (Ex.new hq1)) upd_same⟩
        · --3
          refine ⟨_, rfl, rfl, _, rfl, iteF' (by decide) ?_⟩
          refine ⟨_, rfl, rfl, _, rfl, iteF' (by decide) ?_⟩
          refine ⟨_, rfl, rfl, _, rfl, iteF' (by decide) ?_⟩
          refine ⟨_, rfl, rfl, _, rfl, iteT' (by decide) ?_⟩
          refine ⟨_, rfl, _, rfl, _, rfl, ?_⟩
          simp only [tNil]
          refine ⟨x, kd, s, us, rs, gs, v, p, rfl, M0, hs50, hF, hu60, .inr (.inr ⟨D, n, hD.ex e0, hn.ex e0, ?_⟩)⟩
          rintro H' d' e' hd hq
          refine ⟨false, T.tf_BadSet_BadDemand, fun q => Bool.noConfusion q, fun _ => ⟨true, T.te_BadSet, fun _ a0 ha0 => ?_, fun q => Bool.noConfusion q⟩⟩
          refine ⟨_, rfl, rfl, rfl, d', _, .int n, rfl, hq, rfl, (by show 2 ≤ sizeLine; decide), fun q1 hq1 => ?_⟩
          exact ⟨_, rfl, k _ _ ((e0.trans e').trans (Ex.new hq1)) upd_same⟩
    · refine ⟨_, rfl, rfl, _, rfl, iteF' (by decide) ?_⟩
      refine ⟨_, rfl, rfl, _, rfl, iteF' (by decide) ?_⟩
      refine ⟨_, rfl, rfl, _, rfl, iteF' (by decide) ?_⟩
      refine ⟨_, rfl, rfl, _, rfl, iteF' (by decide) ?_⟩
      refine ⟨_, rfl, rfl, _, rfl, iteF' (by decide) ?_⟩
      refine ⟨_, rfl, rfl, _, rfl, iteT' (by decide) ?_⟩
      refine ⟨_, rfl, _, rfl, _, rfl, _, rfl, ?_⟩
      simp only [tNil]
      rcases hr5 with ⟨hf, rfl, rfl⟩ | ⟨hf, hk, hi, rfl, rfl⟩
      · refine ⟨x, kd, s, us, rs, gs, v, _, bv, rfl, M0, hs50, .inl ⟨D, hD.ex e0, t, r, rfl, e0 _ _ ht, .inr ⟨hf, ?_⟩⟩⟩
        rintro H' d' e' hd hq
        refine ⟨false, T.tf_BadRun_BadDemand, fun q => Bool.noConfusion q, fun _ => ⟨false, T.tf_BadRun_BadSet, fun q => Bool.noConfusion q, fun _ => ⟨true, T.te_BadRun, fun _ a0 ha0 => ?_, fun q => Bool.noConfusion q⟩⟩⟩
        refine ⟨_, rfl, rfl, rfl, d', _, .int (-1), rfl, hq, rfl, (by show 2 ≤ sizeLine; decide), fun q1 hq1 => ?_⟩
        exact ⟨_, rfl, k _ _ ((e0.trans e').trans (Ex.new hq1)) upd_same⟩
      · refine ⟨x, kd, s, us, rs, gs, v, _, bv, rfl, M0, hs50, .inl ⟨D, hD.ex e0, t, r, rfl, e0 _ _ ht, .inl ⟨hf, .inr ⟨hk.ex e0, hi, ?_⟩⟩⟩⟩
        rintro H' d' e' hd hq
        refine ⟨false, T.tf_BadNumber_BadDemand, fun q => Bool.noConfusion q, fun _ => ⟨false, T.tf_BadNumber_BadSet, fun q => Bool.noConfusion q, fun _ => ⟨false, T.tf_BadNumber_BadRun, fun q => Bool.noConfusion q, fun _ => ⟨true, T.te_BadNumber, fun _ a0 ha0 => ?_, fun q => Bool.noConfusion q⟩⟩⟩⟩
        refine ⟨_, rfl, rfl, rfl, d', _, .str "by", rfl, hq, rfl, (by show 2 ≤ sizeLine; decide), fun q1 hq1 => ?_⟩
        exact ⟨_, rfl, k _ _ ((e0.trans e').trans (Ex.new hq1)) upd_same⟩
end
end K00


set_option Elab.async false
set_option linter.all false
set_option maxRecDepth 100000
set_option maxHeartbeats 4000000
namespace K00
open PySem PySem.Spec PyProof.Rows L2 RZ StX
open Evl (Ex)
open IsE
/-! ### equality of rows of ints -/
theorem eqvAll_map {α : Type} [DecidableEq α] (f : α → PyData) (hf : ∀ a b, PyData.eqv (f a) (f b) = decide (a = b)) : ∀ xs ys : List α, PyData.eqvAll (xs.map f) (ys.map f) = decide (xs = ys)
  | [], [] => rfl
  | [], y :: ys => by simp [PyData.eqvAll]
  | x :: xs, [] => by simp [PyData.eqvAll]
  | x :: xs, y :: ys => by
    rw [List.map_cons, List.map_cons, PyData.eqvAll, hf, eqvAll_map f hf xs ys]
    by_cases h1 : x = y <;> by_cases h2 : xs = ys <;> simp [h1, h2]
theorem canLayAll_map {α : Type} (f : α → PyData) (hf : ∀ a, (f a).canLay0 = true) : ∀ xs : List α, PyData.canLayAll0 (xs.map f) = true
  | [] => by simp [PyData.canLayAll0]
  | x :: xs => by
    rw [List.map_cons, PyData.canLayAll0, hf, canLayAll_map f hf xs]
    rfl
theorem depthAll_map {α : Type} (f : α → PyData) (k : Nat) (hf : ∀ a, (f a).depth ≤ k) : ∀ xs : List α, PyData.depthAll (xs.map f) ≤ k
  | [] => by simp [PyData.depthAll]
  | x :: xs => by
    rw [List.map_cons, PyData.depthAll]
    have := hf x
    have := depthAll_map f k hf xs
    omega
theorem eqv_int (a b : Int) : PyData.eqv (.int a) (.int b) = decide (a = b) := by
  rw [PyData.eqv]
  by_cases h : a = b <;> simp [h]
theorem dp_ints {K : PySem.W.Frag} {H : Hp} : ∀ ns : List Int, DpAll K H (ns.map V.int) (ns.map PyData.int)
  | [] => .nil
  | n :: ns => .cons (.int n) (dp_ints ns)
def ilD (ns : List Int) : PyData := .list (ns.map PyData.int)
def itD (ns : List Int) : PyData := .tuple (ns.map PyData.int)
theorem eqv_il (a : List Int) : PyData.eqv (ilD a) (ilD a) = true := by
  unfold ilD
  rw [PyData.eqv, eqvAll_map PyData.int eqv_int]
  simp
theorem eqv_itB (a b : List Int) : PyData.eqv (itD a) (itD b) = decide (a = b) := by
  unfold itD
  rw [PyData.eqv, eqvAll_map PyData.int eqv_int]
theorem shaped_il (a : List Int) : SeqAt.shaped (ilD a) = true := by
  unfold SeqAt.shaped ilD
  rw [PyData.canLay0, canLayAll_map _ (fun _ => by simp [PyData.canLay0]), PyData.depth]
  have := depthAll_map PyData.int 0 (fun _ => by simp [PyData.depth]) a
  simp; omega
theorem shaped_it (a : List Int) : SeqAt.shaped (itD a) = true := by
  unfold SeqAt.shaped itD
  rw [PyData.canLay0, canLayAll_map _ (fun _ => by simp [PyData.canLay0]), PyData.depth]
  have := depthAll_map PyData.int 0 (fun _ => by simp [PyData.depth]) a
  simp; omega
theorem dp_il {K : PySem.W.Frag} {H : Hp} {p : Addr} {ns : List Int} (hp : H p = some (.lst (ns.map V.int))) : Dp K H (.ref p) (ilD ns) := .lst (SqL.of hp) (dp_ints ns)
theorem dp_it {K : PySem.W.Frag} {H : Hp} {p : Addr} {ns : List Int} (hp : H p = some (.tup (ns.map V.int))) : Dp K H (.ref p) (itD ns) := .tup (SqT.of hp) (dp_ints ns)
/-! ### rows of plain values -/
def scD : V → PyData
  | .bl b => .bool b
  | .int n => .int n
  | .str z => .str z
  | _ => .none
theorem eqv_sc (v : V) : PyData.eqv (scD v) (scD v) = true := by
  cases v <;> simp [scD, PyData.eqv]
theorem eqv_scs : ∀ vs : List V, PyData.eqvAll (vs.map scD) (vs.map scD) = true
  | [] => by simp [PyData.eqvAll]
  | v :: vs => by
    rw [List.map_cons, PyData.eqvAll, eqv_sc, eqv_scs vs]
    rfl
def flD (vs : List V) : PyData := .list (vs.map scD)
theorem eqv_fl (vs : List V) : PyData.eqv (flD vs) (flD vs) = true := by
  unfold flD
  rw [PyData.eqv]
  exact eqv_scs vs
def okV : V → Bool
  | .str z => PyData.strOk z
  | _ => true
theorem lay_scs : ∀ {vs : List V}, vs.all okV = true → PyData.canLayAll0 (vs.map scD) = true
  | [], _ => by simp [PyData.canLayAll0]
  | v :: vs, h => by
    rw [List.all_cons, Bool.and_eq_true] at h
    rw [List.map_cons, PyData.canLayAll0, lay_scs h.2]
    have h1 := h.1
    cases v <;> simp [scD, PyData.canLay0]
    exact h1
theorem shaped_fl (vs : List V) (h : vs.all okV = true := by kernel_rfl) : SeqAt.shaped (flD vs) = true := by
  unfold SeqAt.shaped flD
  rw [PyData.canLay0, lay_scs h, PyData.depth]
  have := depthAll_map scD 0 (fun v => by cases v <;> simp [scD, PyData.depth]) vs
  simp; omega
theorem dp_sc {K : PySem.W.Frag} {H : Hp} {v : V} (h : flatV v = true) : Dp K H v (scD v) := by
  cases v with
  | non => exact .non
  | bl b => exact .bl b
  | int n => exact .int n
  | str z => exact .str z
  | _ => cases h
theorem dp_scs {K : PySem.W.Frag} {H : Hp} : ∀ {vs : List V}, vs.all flatV = true → DpAll K H vs (vs.map scD)
  | [], _ => .nil
  | v :: vs, h => by
    rw [List.all_cons, Bool.and_eq_true] at h
    exact .cons (dp_sc h.1) (dp_scs h.2)
theorem dp_fl {K : PySem.W.Frag} {H : Hp} {p : Addr} {vs : List V} (hp : H p = some (.lst vs)) (h : vs.all flatV = true) : Dp K H (.ref p) (flD vs) := .lst (SqL.of hp) (dp_scs h)
section
variable {w : World} {K : PySem.W.Frag} {mg : Str → Option Value} {base : Heap}
/-! ### _law_doors_right -/
def spDoors (K : PySem.W.Frag) : Sp := fun vs H Q _ => ∃ (x R : Addr) (kd : Str) (s : Nat) (us : List V) (rs : List (Int × Int)) (gs ds : List Int) (bad fl pv : V) (at_ wh : Int), vs = [.ref x, .ref R, bad, .int at_, fl, pv, .int wh] ∧ Mkt K H x kd (s : Int) us rs gs ∧ 1 ≤ s ∧ s ≤ 50 ∧ (∀ r ∈ rs, Fits s r) ∧ us.length < 60 ∧
  H R = some (.lst (ds.map V.int)) ∧ ds.length = s ∧ DemBad H s bad at_ ∧ DemBad H s fl (-1) ∧ SetBad H us.length pv wh ∧ ∀ H', Ex H H' → Q (.bl true) H'
theorem sc_doors : FnScope ["_law_market_here", "_law_row", "_law_bad_row", "_law_at", "_law_formless", "_law_spoilt", "_law_where", "_law_door"] ["_law_market_here", "_law_row", "_law_bad_row", "_law_at", "_law_formless", "_law_spoilt", "_law_where"] (defScope s__law_doors_right) := ⟨rfl, rfl, rfl, by decide +kernel, rfl, by decide +kernel, by decide +kernel⟩
theorem has_doors (T : Ctx K mg) : Has w K mg base CX0 "_law_doors_right" 7 ["_law_market_here", "_law_row", "_law_bad_row", "_law_at", "_law_formless", "_law_spoilt", "_law_where"] (spDoors K) := by
  obtain ⟨f1, fd1, m1, kp1, F1, b1⟩ := has_door (w := w) (base := base) T
  refine has_of (st := s__law_doors_right) (f := He.ga K "_law_doors_right") T.d__law_doors_right T.g__law_doors_right (fun _ _ _ _ _ _ us hl => match us, hl with | [_, _, _, _, _, _, _], _ => rfl) fun fd F => ?_
  refine ok0 F sc_doors (fun vs H Q E h => ?_) (fun cdv A outer s0 H vs Q E hr h => ?_)
  · obtain ⟨x, R, kd, s, us, rs, gs, ds, bad, fl, pv, at_, wh, rfl, _⟩ := h
    rfl
  · obtain ⟨x, R, kd, s, us, rs, gs, ds, bad, fl, p0, at_, wh, rfl, M, hs1, hs50, hF, hu60, hR, hdl, hb, hf, hp, k⟩ := h
    have nd := sc_doors.nd
    have hu := hr.units
    refine ⟨_, pss_cons (ps_for PassesOwn.never rfl (pi_range2 (by rfl) T.b_range (pa_cons pe_int (pa_cons pe_int pa_nil))) (pg_name (i := 7) nd rfl (.inl rfl))
        (pss_cons (ps_if (pt_cmpR (op_neD hu) (pe_call F1 hr (by rfl) m1 kp1 b1 .nil pass0 (pa_cons (pv 7) (pa_cons (pv 0) (pa_cons (pv 2) (pa_cons (pv 5) (pa_cons pe_non (pa_cons pe_non pa_nil))))))) (pe_lst (pa_cons pe_str (pa_cons (pv 3) pa_nil))) (nomark _)) (pss_one (ps_ret pe_bl)) pss_nil)
        (pss_cons (ps_if (pt_cmpR (op_neD hu) (pe_call F1 hr (by rfl) m1 kp1 b1 .nil pass0 (pa_cons (pv 7) (pa_cons (pv 0) (pa_cons (pv 4) (pa_cons (pv 5) (pa_cons pe_non (pa_cons pe_non pa_nil))))))) (pe_lst (pa_cons pe_str (pa_cons (pe_un un_neg pe_int) pa_nil))) (nomark _)) (pss_one (ps_ret pe_bl)) pss_nil)
        (pss_one (ps_if (PW.pt (pw_and (pt_cmpR op_lt (pv 7) pe_int (nomark _)) (pw_and1 (pt_cmpR (op_neD hu) (pe_call F1 hr (by rfl) m1 kp1 b1 .nil pass0 (pa_cons (pv 7) (pa_cons (pv 0) (pa_cons (pv 1) (pa_cons (pv 5) (pa_cons pe_non (pa_cons pe_non pa_nil))))))) (pe_lst (pa_cons pe_str (pa_cons (pv 6) pa_nil))) (nomark _))))) (pss_one (ps_ret pe_bl)) pss_nil)))))
      (pss_cons (PS.nrm (ps_if (pt_cmpR (op_neD hu) (pe_call F1 hr (by rfl) m1 kp1 b1 .nil pass0 (pa_cons pe_int (pa_cons (pv 0) (pa_cons pe_non (pa_cons (pv 5) (pa_cons pe_non (pa_cons pe_non pa_nil))))))) (pe_lst (pa_cons pe_str (pa_cons (pv 6) pa_nil))) (nomark _)) (pss_one (ps_ret pe_bl)) pss_nil))
      (pss_cons (ps_if (pt_cmpR (op_neD hu) (pe_call F1 hr (by rfl) m1 kp1 b1 .nil pass0 (pa_cons pe_int (pa_cons (pv 0) (pa_cons (pv 1) (pa_cons (pe_lst pa_nil) (pa_cons (pe_tup (pa_cons pe_int (pa_cons pe_int pa_nil))) (pa_cons pe_non pa_nil))))))) (pe_lst (pa_cons pe_str (pa_cons (pe_un un_neg pe_int) pa_nil))) (nomark _)) (pss_one (ps_ret pe_bl)) pss_nil)
      (pss_one (ps_ret (pe_cmpR (op_eqD hu) (pe_call F1 hr (by rfl) m1 kp1 b1 .nil pass0 (pa_cons pe_int (pa_cons (pv 0) (pa_cons (pv 1) (pa_cons (pe_lst pa_nil) (pa_cons (pe_tup (pa_cons pe_int (pa_cons (pe_callB call_len_seq (by rfl) T.b_len PySem.boot_len (pa_cons (pv 1) pa_nil)) pa_nil))) (pa_cons pe_bl pa_nil))))))) (pe_lst (pa_cons pe_str (pa_cons pe_str pa_nil))) (nomark _)))))), ?_⟩
    have eqf : ∀ vs : List V, (!PyData.eqv (flD vs) (flD vs)) = false := fun vs => by rw [eqv_fl]; rfl
    refine ⟨_, _, rfl, ⟨by decide, by decide, by decide, by decide⟩, for_it walk_range (fun i σ H' => (∃ v7 : Option V, σ = [some (.ref x), some (.ref R), some bad, some (.int at_), some fl, some p0, some (.int wh), v7]) ∧ Ex H H') ⟨⟨_, rfl⟩, Ex.refl H⟩ (fun _ _ _ _ _ => trivial) ?_ ?_⟩
    · rintro i y σ H2 H3 hi ⟨⟨v7, rfl⟩, e3⟩ ⟨rfl, rfl⟩
      have hi6 : i < 6 := hi
      obtain ⟨d, hd0, hd6⟩ : ∃ d : Int, 1 + (i : Int) = d ∧ (d = 1 ∨ d = 2 ∨ d = 3 ∨ d = 4 ∨ d = 5 ∨ d = 6) := ⟨_, rfl, by omega⟩
      show gName 7 (.int (1 + (i : Int))) _ H3 _
      rw [hd0]
      refine ⟨_, rfl, _, rfl, _, rfl, _, rfl, d, x, kd, s, us, rs, gs, _, _, _, _, _, _, rfl, M.ex e3, hs50, hF, hu60, .inl ⟨at_, hd6, hb.ex e3, rfl, rfl⟩, fun H4 q4 e4 hq4 => ?_⟩
      have e34 := e3.trans e4
      refine ⟨_, rfl, (by show 2 ≤ sizeLine; decide), fun l hl => ?_⟩
      have e5 := Ex.new (o := .lst [V.str "demand", .int at_]) hl
      refine ⟨flD _, flD _, dp_fl (e5 _ _ hq4) rfl, dp_fl upd_same rfl, shaped_fl _, shaped_fl _, _, rfl, iteF' (eqf _) ?_⟩
      have e35 := e34.trans e5
      generalize upd H4 l (.lst [V.str "demand", .int at_]) = H5 at *
      refine ⟨_, rfl, _, rfl, _, rfl, _, rfl, d, x, kd, s, us, rs, gs, _, _, _, _, _, _, rfl, M.ex e35, hs50, hF, hu60, .inl ⟨-1, hd6, hf.ex e35, rfl, rfl⟩, fun H6 q6 e6 hq6 => ?_⟩
      refine ⟨_, rfl, (by show 2 ≤ sizeLine; decide), fun l2 hl2 => ?_⟩
      have e7 := Ex.new (o := .lst [V.str "demand", .int (-1)]) hl2
      refine ⟨flD _, flD _, dp_fl (e7 _ _ hq6) rfl, dp_fl upd_same rfl, shaped_fl _, shaped_fl _, _, rfl, iteF' (eqf _) ?_⟩
      have e37 := (e35.trans e6).trans e7
      generalize upd H6 l2 (.lst [V.str "demand", .int (-1)]) = H7 at *
      refine ⟨_, rfl, _, _, rfl, rfl, _, rfl, ?_⟩
      by_cases c : d < 4
      · refine iteT' (decide_eq_true c) ?_
        refine ⟨_, rfl, _, rfl, _, rfl, _, rfl, d, x, kd, s, us, rs, gs, _, _, _, _, _, _, rfl, M.ex e37, hs50, hF, hu60, .inr (.inl ⟨wh, .inr ⟨by omega, ds, .inr ⟨⟨R, rfl, .inl (e37 _ _ hR)⟩, hdl⟩⟩, hp.ex e37, rfl, rfl⟩), fun H8 q8 e8 hq8 => ?_⟩
        refine ⟨_, rfl, (by show 2 ≤ sizeLine; decide), fun l3 hl3 => ?_⟩
        have e9 := Ex.new (o := .lst [V.str "set", .int wh]) hl3
        refine ⟨flD _, flD _, dp_fl (e9 _ _ hq8) rfl, dp_fl upd_same rfl, shaped_fl _, shaped_fl _, _, rfl, iteF' (eqf _) ?_⟩
        exact ⟨⟨_, rfl⟩, (e37.trans e8).trans e9⟩
      · exact iteF' (decide_eq_false c) (iteF' rfl ⟨⟨_, rfl⟩, e37⟩)
    · rintro σ H2 ⟨⟨v7, rfl⟩, e2⟩
      refine ⟨[some (.ref x), some (.ref R), some bad, some (.int at_), some fl, some p0, some (.int wh), v7], rfl, ?_⟩
      refine ⟨_, rfl, _, rfl, 0, x, kd, s, us, rs, gs, _, _, _, _, _, _, rfl, M.ex e2, hs50, hF, hu60, .inr (.inl ⟨wh, .inl rfl, hp.ex e2, rfl, rfl⟩), fun H4 q4 e4 hq4 => ?_⟩
      refine ⟨_, rfl, (by show 2 ≤ sizeLine; decide), fun l hl => ?_⟩
      have e5 := Ex.new (o := .lst [V.str "set", .int wh]) hl
      refine ⟨flD _, flD _, dp_fl (e5 _ _ hq4) rfl, dp_fl upd_same rfl, shaped_fl _, shaped_fl _, _, rfl, iteF' (eqf _) ?_⟩
      have e25 := (e2.trans e4).trans e5
      generalize upd H4 l (.lst [V.str "set", .int wh]) = H5 at *
      refine ⟨_, rfl, _, rfl, (by show 0 ≤ sizeLine; decide), fun l2 hl2 => ?_⟩
      have e6 := Ex.new (o := .lst []) hl2
      refine ⟨(by show 2 ≤ sizeLine; decide), fun t2 ht2 => ?_⟩
      have e7 := Ex.new (o := .tup [V.int 0, .int 0]) ht2
      have e27 := (e25.trans e6).trans e7
      refine ⟨5, x, kd, s, us, rs, gs, _, _, _, _, _, _, rfl, M.ex e27, hs50, hF, hu60, .inr (.inr ⟨rfl, ds, t2, (0, 0), .inr ⟨⟨R, rfl, .inl (e27 _ _ hR)⟩, hdl⟩, rfl, upd_same, .inl ⟨fun z => (by have := z.2.1; exact absurd this (by decide)), rfl, rfl⟩⟩), fun H8 q8 e8 hq8 => ?_⟩
      refine ⟨_, rfl, (by show 2 ≤ sizeLine; decide), fun l3 hl3 => ?_⟩
      have e9 := Ex.new (o := .lst [V.str "run", .int (-1)]) hl3
      refine ⟨flD _, flD _, dp_fl (e9 _ _ hq8) rfl, dp_fl upd_same rfl, shaped_fl _, shaped_fl _, _, rfl, iteF' (eqf _) ?_⟩
      have e29 := (e27.trans e8).trans e9
      generalize upd H8 l3 (.lst [V.str "run", .int (-1)]) = H9 at *
      refine ⟨_, rfl, _, rfl, (by show 0 ≤ sizeLine; decide), fun l4 hl4 => ?_⟩
      have f6 := Ex.new (o := .lst []) hl4
      refine ⟨_, rfl, R, _, rfl, .inl (SqL.of ((e29.trans f6) _ _ hR)), (by show 2 ≤ sizeLine; decide), fun t3 ht3 => ?_⟩
      have f7 := Ex.new (o := .tup [V.int 0, .int ((ds.map V.int).length : Nat)]) ht3
      have f27 := (e29.trans f6).trans f7
      refine ⟨5, x, kd, s, us, rs, gs, _, _, _, _, _, _, rfl, M.ex f27, hs50, hF, hu60, .inr (.inr ⟨rfl, ds, t3, (0, ((ds.map V.int).length : Nat)), .inr ⟨⟨R, rfl, .inl (f27 _ _ hR)⟩, hdl⟩, rfl, upd_same, .inr ⟨⟨Int.le_refl _, by show (0 : Int) < ((ds.map V.int).length : Nat); rw [List.length_map]; omega, by show (((ds.map V.int).length : Nat) : Int) ≤ s; rw [List.length_map]; omega⟩, .bl true, rfl, rfl, rfl⟩⟩), fun H8 q8 e8 hq8 => ?_⟩
      refine ⟨(by show 2 ≤ sizeLine; decide), fun l5 hl5 => ?_⟩
      have e9 := Ex.new (o := .lst [V.str "number", .str "by"]) hl5
      refine ⟨flD _, flD _, dp_fl (e9 _ _ hq8) rfl, dp_fl upd_same rfl, shaped_fl _, shaped_fl _, ?_⟩
      rw [eqv_fl]
      exact k _ ((f27.trans e8).trans e9)
end
end K00


set_option Elab.async false
set_option linter.all false
set_option maxRecDepth 100000
set_option maxHeartbeats 4000000
namespace K00
open PySem PySem.Spec PyProof.Rows L2 RZ StX
open Evl (Ex)
open IsE
theorem cut_drop (xs : List V) (t : Nat) (h : t ≤ xs.length) : cutV xs (some (t : Int)) none = xs.drop t := by
  unfold cutV
  rw [HT.sIx_nat, HT.sIx_none, Nat.min_eq_left h, List.take_of_length_le (by rw [List.length_drop]; omega)]
theorem cut_take (xs : List V) (t : Nat) (h : t ≤ xs.length) : cutV xs none (some (t : Int)) = xs.take t := by
  unfold cutV
  rw [HT.sIx_nat, HT.sIx_none, Nat.min_eq_left h, List.drop_zero, Nat.sub_zero]
theorem kp_tup {P : Addr} {H H' : Hp} {us xs : List V} {t : Addr} (hP : H P = some (.lst us)) (k : Kp P H H') (h : H t = some (.tup xs)) : H' t = some (.tup xs) := k _ _ (ne_of h hP (by intro z; cases z)) h
theorem kp_mkt {K : PySem.W.Frag} {P : Addr} {H H' : Hp} {x : Addr} {kind : Str} {s : Int} {us : List V} {rs : List (Int × Int)} {ns : List Int} (d : Dr P H) (k : Kp P H H') (h : Mkt K H x kind s us rs ns) : Mkt K H' x kind s us rs ns := by
  obtain ⟨_, hP⟩ := d
  obtain ⟨C, dx, pr, pg, a, b, c, d⟩ := h.ob
  exact ⟨⟨C, dx, pr, pg, a, k _ _ (ne_of b hP (by intro z; cases z)) b, kp_tup hP k c, kp_tup hP k d⟩, h.runs.mono fun t xs q => kp_tup hP k q⟩
theorem dup_after {ps : List Int} {wh ag : Nat} {z : Int} (nd : ps.Nodup) (hz : ps[ag]? = some z) (h : wh ≤ ag) : ∃ ns ys, ps.take wh ++ z :: ps.drop wh = ns ++ z :: ys ∧ ns.Nodup ∧ z ∈ ns ∧ ns.length = ag + 1 ∧ (∀ y ∈ ns, y ∈ ps) ∧ ∀ y ∈ ys, y ∈ ps := by
  have hal : ag < ps.length := (List.getElem?_eq_some_iff.mp hz).1
  have hzm := List.mem_of_getElem? hz
  have e1 : ps.drop wh = (ps.take ag).drop wh ++ z :: ps.drop (ag + 1) := by
    have : ps = ps.take ag ++ z :: ps.drop (ag + 1) := by
      conv => lhs; rw [← List.take_append_drop ag ps]
      rw [List.drop_eq_getElem_cons hal]
      rw [List.getElem?_eq_getElem hal] at hz
      rw [Option.some.inj hz]
    conv => lhs; rw [this]
    rw [List.drop_append_of_le_length (by rw [List.length_take]; omega)]
  refine ⟨ps.take wh ++ z :: (ps.take ag).drop wh, ps.drop (ag + 1), by rw [e1]; simp, ?_, by simp, ?_, ?_, fun y hy => List.mem_of_mem_drop hy⟩
  · have e2 : ps.take ag = ps.take wh ++ (ps.take ag).drop wh := by
      conv => lhs; rw [← List.take_append_drop wh (ps.take ag)]
      rw [List.take_take, Nat.min_eq_left h]
    have nz : z ∉ ps.take ag := nodup_new nd hz
    have ndt : (ps.take ag).Nodup := nd.sublist (List.take_sublist _ _)
    rw [e2] at nz ndt
    have hp : (ps.take wh ++ z :: (ps.take ag).drop wh).Perm (z :: (ps.take wh ++ (ps.take ag).drop wh)) := List.perm_middle
    rw [hp.nodup_iff, List.nodup_cons]
    exact ⟨nz, ndt⟩
  · rw [List.length_append, List.length_cons, List.length_take, List.length_drop, List.length_take]
    omega
  · intro y hy
    rcases List.mem_append.mp hy with hy | hy
    · exact List.mem_of_mem_take hy
    · rcases List.mem_cons.mp hy with rfl | hy
      · exact hzm
      · exact List.mem_of_mem_take (List.mem_of_mem_drop hy)
theorem kd_ints {H : Hp} {ys : List Int} : ∀ z ∈ ys.map V.int, Kd H z := fun z hz => by
  obtain ⟨i, _, rfl⟩ := List.mem_map.mp hz
  exact .int i
section
variable {w : World} {K : PySem.W.Frag} {mg : Str → Option Value} {base : Heap}
/-! ### _law_wrong_sets -/
def spWrongSets (K : PySem.W.Frag) : Sp := fun vs H Q _ => ∃ (D x R A : Addr) (kd : Str) (s : Nat) (us : List V) (rs : List (Int × Int)) (gs ds ps : List Int), vs = [.ref D, .ref x, .ref R, .ref A, .int (us.length : Nat)] ∧ Dr D H ∧ Mkt K H x kd (s : Int) us rs gs ∧ 1 ≤ s ∧ s ≤ 50 ∧ (∀ r ∈ rs, Fits s r) ∧ us.length < 50 ∧
  H R = some (.lst (ds.map V.int)) ∧ ds.length = s ∧ H A = some (.lst (ps.map V.int)) ∧ ps.Pairwise (· < ·) ∧ (∀ n ∈ ps, 0 ≤ n ∧ n < us.length) ∧ R ≠ D ∧ A ≠ D ∧ ∀ H', Kp D H H' → Dr D H' → Q (.bl true) H'
theorem sc_wsets : FnScope ["_law_draws_here", "_law_market_here", "_law_row", "_law_parts_here", "_law_many", "_law_where", "_law_value", "_law_spoilt", "_law_again", "_law_doubled", "_law_place", "_law_nothing", "_law_at", "_law_bad_row", "_law_formless"] ["_law_draws_here", "_law_market_here", "_law_row", "_law_parts_here", "_law_many"] (defScope s__law_wrong_sets) := ⟨rfl, rfl, rfl, by decide +kernel, rfl, by decide +kernel, by decide +kernel⟩
theorem has_wsets (T : Ctx K mg) : Has w K mg base CX0 "_law_wrong_sets" 8 ["_law_draws_here", "_law_market_here", "_law_row", "_law_parts_here", "_law_many"] (spWrongSets K) := by
  obtain ⟨f1, fd1, m1, kp1, F1, b1⟩ := has_take (w := w) (base := base) T
  obtain ⟨f2, fd2, m2, kp2, F2, b2⟩ := has_ref (w := w) (base := base) T
  obtain ⟨f3, fd3, m3, kp3, F3, b3⟩ := has_doors (w := w) (base := base) T
  refine has_of (st := s__law_wrong_sets) (f := He.ga K "_law_wrong_sets") T.d__law_wrong_sets T.g__law_wrong_sets (fun _ _ _ _ _ _ us hl => match us, hl with | [_, _, _, _, _], _ => rfl) fun fd F => ?_
  refine ok0 F sc_wsets (fun vs H Q E h => ?_) (fun cdv A0 outer s0 H vs Q E hr h => ?_)
  · obtain ⟨D, x, R, A, kd, s, us, rs, gs, ds, ps, rfl, _⟩ := h
    rfl
  · obtain ⟨D, x, R, A, kd, s, us, rs, gs, ds, ps, rfl, hD, M, hs1, hs50, hF, hu50, hR, hdl, hA, hasc, inn, hRD, hAD, k⟩ := h
    have nd := sc_wsets.nd
    have hu := hr.units
    have r1 := hr.mono (show 1 ≤ 7 by decide)
    have r6 := hr.mono (show 6 ≤ 7 by decide)
    have ndp := asc_nodup hasc
    have lps := asc_few hasc inn (by omega)
    have eqf : ∀ vs : List V, (!PyData.eqv (flD vs) (flD vs)) = false := fun vs => by rw [eqv_fl]; rfl
    refine ⟨_, pss_cons (ps_set (i := 5) nd rfl (.inl rfl) (pe_call F1 r1 (by rfl) m1 kp1 b1 .nil pass0 (pa_cons (pv 0) (pa_cons (pe_op op_add (pe_callB call_len_seq (by rfl) T.b_len PySem.boot_len (pa_cons (pv 3) pa_nil)) pe_int) pa_nil))))
      (pss_cons (PS.nrm (ps_set (i := 6) nd rfl (.inl rfl) (pe_ix ix_list (pe_lst (pa_cons (pv 4) (pa_cons (pe_un un_neg pe_int) (pa_cons pe_bl (pa_cons pe_non (pa_cons pe_str (pa_cons (pe_op op_add (pv 4) pe_int) pa_nil))))))) (pe_call F1 r1 (by rfl) m1 kp1 b1 .nil pass0 (pa_cons (pv 0) (pa_cons pe_int pa_nil))) (fun _ _ => rfl))))
      (pss_cons (PS.nrm (ps_set (i := 7) nd rfl (.inl rfl) (pe_op op_cat (pe_op op_cat (pe_slice sl_list (pv 3) po_none (po_some (pv 5))) (pe_lst (pa_cons (pv 6) pa_nil))) (pe_slice sl_list (pv 3) (po_some (pv 5)) po_none))))
      (pss_cons (PS.nrm (ps_if (pt_cmpR (op_neD hu) (pe_call F2 r6 (by rfl) m2 kp2 b2 .nil pass0 (pa_cons (pv 1) (pa_cons (pv 2) (pa_cons (pv 7) pa_nil)))) (pe_lst (pa_cons pe_str (pa_cons (pv 5) (pa_cons pe_bl (pa_cons pe_bl pa_nil))))) (nomark _)) (pss_one (ps_ret pe_bl)) pss_nil))
      (pss_cons ((ps_if (pt_cmpR op_gt (pe_callB call_len_seq (by rfl) T.b_len PySem.boot_len (pa_cons (pv 3) pa_nil)) pe_int (nomark _))
          (pss_cons (ps_set (i := 8) nd rfl (.inl rfl) (pe_call F1 r1 (by rfl) m1 kp1 b1 .nil pass0 (pa_cons (pv 0) (pa_cons (pe_callB call_len_seq (by rfl) T.b_len PySem.boot_len (pa_cons (pv 3) pa_nil)) pa_nil))))
          (pss_cons (ps_set (i := 9) nd rfl (.inl rfl) (pe_op op_cat (pe_op op_cat (pe_slice sl_list (pv 3) po_none (po_some (pv 5))) (pe_lst (pa_cons (pe_ix ix_list (pv 3) (pv 8) (fun _ _ => rfl)) pa_nil))) (pe_slice sl_list (pv 3) (po_some (pv 5)) po_none)))
          (pss_cons (ps_set (i := 10) nd rfl (.inl rfl) (pv 5))
          (pss_cons (ps_if (pt_cmpR op_le (pv 5) (pv 8) (nomark _)) (pss_one (ps_set (i := 10) nd rfl (.inl rfl) (pe_op op_add (pv 8) pe_int))) pss_nil)
          (pss_one (ps_if (pt_cmpR (op_neD hu) (pe_call F2 r6 (by rfl) m2 kp2 b2 .nil pass0 (pa_cons (pv 1) (pa_cons (pv 2) (pa_cons (pv 9) pa_nil)))) (pe_lst (pa_cons pe_str (pa_cons (pv 10) (pa_cons pe_bl (pa_cons pe_bl pa_nil))))) (nomark _)) (pss_one (ps_ret pe_bl)) pss_nil)))))) pss_nil).imp
            (t' := fun De σ H' => ∃ (wh : Nat) (wv : V) (S : Addr), σ = [some (.ref D), some (.ref x), some (.ref R), some (.ref A), some (.int (us.length : Nat)), some (.int (wh : Int)), some wv, some (.ref S), none, none, none, none, none, none, none] ∧ wh ≤ ps.length ∧ Kp D H H' ∧ Dr D H' ∧ ∀ (v8 v9 v10 : Option V) (H2 : Hp), Kp D H' H2 → Dr D H2 → De.nx [some (.ref D), some (.ref x), some (.ref R), some (.ref A), some (.int (us.length : Nat)), some (.int (wh : Int)), some wv, some (.ref S), v8, v9, v10, none, none, none, none] H2) ?c1)
      (pss_cons (PS.nrm (ps_set (i := 11) nd rfl (.inl rfl) (pe_ix ix_list (pe_lst (pa_cons pe_non (pa_cons pe_int (pa_cons pe_str pa_nil)))) (pe_call F1 r1 (by rfl) m1 kp1 b1 .nil pass0 (pa_cons (pv 0) (pa_cons pe_int pa_nil))) (fun _ _ => rfl))))
      (pss_cons (PS.nrm (ps_if (pt_cmpR (op_neD hu) (pe_call F2 r6 (by rfl) m2 kp2 b2 .nil pass0 (pa_cons (pv 1) (pa_cons (pv 2) (pa_cons (pv 11) pa_nil)))) (pe_lst (pa_cons pe_str (pa_cons (pe_un un_neg pe_int) (pa_cons pe_bl (pa_cons pe_bl pa_nil))))) (nomark _)) (pss_one (ps_ret pe_bl)) pss_nil))
      (pss_cons (PS.nrm (ps_set (i := 12) nd rfl (.inl rfl) (pe_call F1 r1 (by rfl) m1 kp1 b1 .nil pass0 (pa_cons (pv 0) (pa_cons (pe_callB call_len_seq (by rfl) T.b_len PySem.boot_len (pa_cons (pv 2) pa_nil)) pa_nil)))))
      (pss_cons (PS.nrm (ps_set (i := 13) nd rfl (.inl rfl) (pe_op op_cat (pe_op op_cat (pe_slice sl_list (pv 2) po_none (po_some (pv 12))) (pe_lst (pa_cons (pe_ix ix_list (pe_lst (pa_cons pe_non (pa_cons pe_bl (pa_cons pe_str pa_nil)))) (pe_call F1 r1 (by rfl) m1 kp1 b1 .nil pass0 (pa_cons (pv 0) (pa_cons pe_int pa_nil))) (fun _ _ => rfl)) pa_nil))) (pe_slice sl_list (pv 2) (po_some (pe_op op_add (pv 12) pe_int)) po_none))))
      (pss_cons (PS.nrm (ps_if (pt_cmpR (op_neD hu) (pe_call F2 r6 (by rfl) m2 kp2 b2 .nil pass0 (pa_cons (pv 1) (pa_cons (pv 13) (pa_cons (pv 7) pa_nil)))) (pe_lst (pa_cons pe_str (pa_cons (pv 12) (pa_cons pe_bl (pa_cons pe_bl pa_nil))))) (nomark _)) (pss_one (ps_ret pe_bl)) pss_nil))
      (pss_cons (PS.nrm (ps_set (i := 14) nd rfl (.inl rfl) (pe_ix ix_list (pe_lst (pa_cons pe_non (pa_cons pe_bl (pa_cons (pe_op op_cat (pv 2) (pe_lst (pa_cons pe_int pa_nil))) (pa_cons (pe_op op_cat (pe_slice sl_list (pv 2) (po_some pe_int) po_none) (pe_lst (pa_cons pe_int (pa_cons pe_int pa_nil)))) pa_nil))))) (pe_call F1 r1 (by rfl) m1 kp1 b1 .nil pass0 (pa_cons (pv 0) (pa_cons pe_int pa_nil))) (fun _ _ => rfl))))
      (pss_cons (PS.nrm (ps_if (pt_not (pt_val (pe_call F3 hr (by rfl) m3 kp3 b3 .nil pass0 (pa_cons (pv 1) (pa_cons (pv 2) (pa_cons (pv 13) (pa_cons (pv 12) (pa_cons (pv 14) (pa_cons (pv 7) (pa_cons (pv 5) pa_nil)))))))))) (pss_one (ps_ret pe_bl)) pss_nil))
      (pss_one (ps_ret (pe_cmpR (op_eqD hu) (pe_call F2 r6 (by rfl) m2 kp2 b2 .nil pass0 (pa_cons (pv 1) (pa_cons (pv 14) (pa_cons (pv 3) pa_nil)))) (pe_lst (pa_cons pe_str (pa_cons (pe_un un_neg pe_int) (pa_cons pe_bl (pa_cons pe_bl pa_nil))))) (nomark _))))))))))))))), ?_⟩
    case c1 =>
      rintro De σ H1 ⟨wh, wv, S, rfl, hwl, k1, d1, kk⟩
      have hA1 := k1 _ _ hAD hA
      refine ⟨_, rfl, A, _, rfl, .inl (SqL.of hA1), _, _, rfl, rfl, _, rfl, ?_⟩
      by_cases c : (0 : Int) < ((ps.map V.int).length : Nat)
      · refine iteT' (decide_eq_true c) ?_
        rw [List.length_map] at c
        refine ⟨_, rfl, _, rfl, A, _, rfl, .inl (SqL.of hA1), D, _, rfl, d1, by rw [List.length_map]; omega, fun a3 H3 a0 a1 k3 d3 => ?_⟩
        rw [List.length_map] at a1
        obtain ⟨ag, rfl⟩ : ∃ n : Nat, a3 = (n : Int) := ⟨a3.toNat, by omega⟩
        have hagl : ag < ps.length := by omega
        obtain ⟨z, hz⟩ : ∃ z, ps[ag]? = some z := ⟨_, List.getElem?_eq_getElem hagl⟩
        have hA3 := k3 _ _ hAD hA1
        have k13 := k1.trans k3
        refine ⟨_, rfl, _, rfl, _, rfl, A, _, rfl, SqL.of hA3, fun p1 hp1 => ?_⟩
        rw [cut_take _ _ (by rw [List.length_map]; exact hwl)]
        have g1 := Ex.new (o := .lst ((ps.map V.int).take wh)) hp1
        refine ⟨_, rfl, _, rfl, A, _, _, _, rfl, rfl, SqL.of (g1 _ _ hA3), atI_nat (j := ag) (by rw [List.getElem?_map, hz]; rfl), (by show 1 ≤ sizeLine; decide), fun p2 hp2 => ?_⟩
        have g2 := Ex.new (o := .lst [V.int z]) hp2
        refine ⟨p1, p2, _, _, rfl, rfl, g2 _ _ upd_same, upd_same, sz1000 (by rw [List.length_take, List.length_map]; show _ + 1 ≤ 1000; omega), fun p3 hp3 => ?_⟩
        have g3 := Ex.new (o := .lst ((ps.map V.int).take wh ++ [V.int z])) hp3
        have g13 := (g1.trans g2).trans g3
        refine ⟨_, rfl, _, rfl, _, rfl, A, _, rfl, SqL.of (g13 _ _ hA3), fun p4 hp4 => ?_⟩
        rw [cut_drop _ _ (by rw [List.length_map]; exact hwl)]
        have g4 := Ex.new (o := .lst ((ps.map V.int).drop wh)) hp4
        refine ⟨p3, p4, _, _, rfl, rfl, g4 _ _ upd_same, upd_same, sz1000 (by rw [List.length_append, List.length_take, List.length_drop, List.length_map]; show _ + 1 + _ ≤ 1000; omega), fun p5 hp5 => ?_⟩
        have g5 := Ex.new (o := .lst ((ps.map V.int).take wh ++ [V.int z] ++ (ps.map V.int).drop wh)) hp5
        have e4 := (g13.trans g4).trans g5
        have h5 : (upd (upd (upd (upd (upd H3 p1 (.lst ((ps.map V.int).take wh))) p2 (.lst [V.int z])) p3 (.lst ((ps.map V.int).take wh ++ [V.int z]))) p4 (.lst ((ps.map V.int).drop wh))) p5 (.lst ((ps.map V.int).take wh ++ [V.int z] ++ (ps.map V.int).drop wh))) p5 = some (.lst ((ps.take wh).map V.int ++ V.int z :: (ps.drop wh).map V.int)) := by rw [upd_same]; simp [List.map_take, List.map_drop]
        generalize upd (upd (upd (upd (upd H3 p1 (.lst ((ps.map V.int).take wh))) p2 (.lst [V.int z])) p3 (.lst ((ps.map V.int).take wh ++ [V.int z]))) p4 (.lst ((ps.map V.int).drop wh))) p5 (.lst ((ps.map V.int).take wh ++ [V.int z] ++ (ps.map V.int).drop wh)) = H4 at *
        have d4 := d3.ex e4
        have M4 := (kp_mkt hD k13 M).ex e4
        have hR4 := e4 _ _ (k13 _ _ hRD hR)
        have zm := List.mem_of_getElem? hz
        have hb2 : ¬ wh ≤ ag → SetBad H4 us.length (.ref p5) (wh : Int) := fun c2 => by
          refine .inl ⟨p5, ps.take wh, .int z, (ps.drop wh).map V.int, rfl, h5, ⟨ndp.sublist (List.take_sublist _ _), fun n hn => inn n (List.mem_of_mem_take hn), by rw [List.length_take]; omega⟩, kd_ints, .int z, .inr ⟨z, ?_, rfl⟩, by rw [List.length_take, Nat.min_eq_left hwl]⟩
          refine List.mem_of_getElem? (i := ag) ?_
          rw [List.getElem?_take_of_lt (by omega), hz]
        have hb1 : wh ≤ ag → SetBad H4 us.length (.ref p5) ((ag + 1 : Nat) : Int) := fun c2 => by
          obtain ⟨ns, ys, e, nn, zn, nl, nin, yin⟩ := dup_after ndp hz c2
          have em : (ps.take wh).map V.int ++ V.int z :: (ps.drop wh).map V.int = ns.map V.int ++ V.int z :: ys.map V.int := by
            have := congrArg (List.map V.int) e
            simpa using this
          refine .inl ⟨p5, ns, .int z, ys.map V.int, rfl, by rw [h5, em], ⟨nn, fun n hn => inn n (nin n hn), by omega⟩, kd_ints, .int z, .inr ⟨z, zn, rfl⟩, by rw [nl]⟩
        refine ⟨_, rfl, _, rfl, _, rfl, _, _, rfl, rfl, _, rfl, ?_⟩
        by_cases c2 : wh ≤ ag
        · refine iteT' (decide_eq_true (by omega)) ⟨_, rfl, _, _, rfl, rfl, ?_⟩
          refine ⟨_, rfl, _, rfl, _, rfl, x, kd, s, us, rs, gs, _, _, "set", (((ag + 1 : Nat) : Int) : Int), rfl, M4, hs50, hF, by omega, .inr ⟨rfl, ds, .inr ⟨⟨R, rfl, .inl hR4⟩, hdl⟩, hb1 c2⟩, fun H5 q5 e5 hq5 => ?_⟩
          refine ⟨_, rfl, (by show 4 ≤ sizeLine; decide), fun l hl => ?_⟩
          have e6 := Ex.new (o := .lst [V.str "set", .int (((ag + 1 : Nat) : Int) : Int), .bl true, .bl false]) hl
          refine ⟨flD _, flD _, dp_fl (e6 _ _ hq5) rfl, dp_fl upd_same rfl, shaped_fl _, shaped_fl _, _, rfl, iteF' (eqf _) ?_⟩
          exact kk _ _ _ _ ((k3.trans (Kp.of e4)).trans (Kp.of (e5.trans e6))) ((d3.ex e4).ex (e5.trans e6))
        · refine iteF' (decide_eq_false (by omega)) ?_
          refine ⟨_, rfl, _, rfl, _, rfl, x, kd, s, us, rs, gs, _, _, "set", ((wh : Int) : Int), rfl, M4, hs50, hF, by omega, .inr ⟨rfl, ds, .inr ⟨⟨R, rfl, .inl hR4⟩, hdl⟩, hb2 c2⟩, fun H5 q5 e5 hq5 => ?_⟩
          refine ⟨_, rfl, (by show 4 ≤ sizeLine; decide), fun l hl => ?_⟩
          have e6 := Ex.new (o := .lst [V.str "set", .int ((wh : Int) : Int), .bl true, .bl false]) hl
          refine ⟨flD _, flD _, dp_fl (e6 _ _ hq5) rfl, dp_fl upd_same rfl, shaped_fl _, shaped_fl _, _, rfl, iteF' (eqf _) ?_⟩
          exact kk _ _ _ _ ((k3.trans (Kp.of e4)).trans (Kp.of (e5.trans e6))) ((d3.ex e4).ex (e5.trans e6))
      · exact iteF' (decide_eq_false c) (kk none none none H1 (Kp.refl _ _) d1)
    refine ⟨_, rfl, _, rfl, A, _, rfl, .inl (SqL.of hA), _, _, rfl, rfl, D, _, rfl, hD, by rw [List.length_map]; omega, fun w3 H1 w0 w1 k1 d1 => ?_⟩
    rw [List.length_map] at w1
    obtain ⟨wh, rfl⟩ : ∃ n : Nat, w3 = (n : Int) := ⟨w3.toNat, by omega⟩
    have hwl : wh ≤ ps.length := by omega
    refine ⟨[some (.ref D), some (.ref x), some (.ref R), some (.ref A), some (.int (us.length : Nat)), some (.int (wh : Int)), none, none, none, none, none, none, none, none, none], rfl, ?_⟩
    refine ⟨_, rfl, _, rfl, _, rfl, _, _, rfl, rfl, (by show 6 ≤ sizeLine; decide), fun l hl => ⟨_, rfl, D, 6, rfl, d1.ex (Ex.new hl), by decide, fun j H2 j0 j1 k2 d2 => ?_⟩⟩
    obtain ⟨wv, hat, hin, hkw⟩ : ∃ wv : V, atI [V.int (us.length : Nat), .int (-1), .bl true, .non, .str "0", .int ((us.length : Nat) + 3)] j = some wv ∧ inB wv 0 ((us.length : Int) - 1) = false ∧ ∀ H, Kd H wv := by
      have hj : j = 0 ∨ j = 1 ∨ j = 2 ∨ j = 3 ∨ j = 4 ∨ j = 5 := by omega
      rcases hj with rfl | rfl | rfl | rfl | rfl | rfl
      · exact ⟨_, atI_nat (j := 0) rfl, (by show decide ((0 : Int) ≤ (us.length : Nat) ∧ ((us.length : Nat) : Int) ≤ (us.length : Int) - 1) = false; exact decide_eq_false (by omega)), fun _ => .int _⟩
      · exact ⟨_, atI_nat (j := 1) rfl, (by show decide ((0 : Int) ≤ -1 ∧ (-1 : Int) ≤ (us.length : Int) - 1) = false; exact decide_eq_false (by omega)), fun _ => .int _⟩
      · exact ⟨_, atI_nat (j := 2) rfl, rfl, fun _ => .bl _⟩
      · exact ⟨_, atI_nat (j := 3) rfl, rfl, fun _ => .non⟩
      · exact ⟨_, atI_nat (j := 4) rfl, rfl, fun _ => .str _⟩
      · exact ⟨_, atI_nat (j := 5) rfl, (by show decide ((0 : Int) ≤ (us.length : Nat) + 3 ∧ ((us.length : Nat) : Int) + 3 ≤ (us.length : Int) - 1) = false; exact decide_eq_false (by omega)), fun _ => .int _⟩
    refine ⟨l, _, j, wv, rfl, rfl, SqL.of (k2 _ _ (Kp.ne d1 hl) upd_same), hat, ?_⟩
    have k12 := (k1.trans (Kp.of (Ex.new (o := .lst [V.int (us.length : Nat), .int (-1), .bl true, .non, .str "0", .int ((us.length : Nat) + 3)]) hl))).trans k2
    have hA2 := k12 _ _ hAD hA
    refine ⟨[some (.ref D), some (.ref x), some (.ref R), some (.ref A), some (.int (us.length : Nat)), some (.int (wh : Int)), some wv, none, none, none, none, none, none, none, none], rfl, ?_⟩
    refine ⟨_, rfl, _, rfl, _, rfl, A, _, rfl, SqL.of hA2, fun p1 hp1 => ?_⟩
    rw [cut_take _ _ (by rw [List.length_map]; exact hwl)]
    have g1 := Ex.new (o := .lst ((ps.map V.int).take wh)) hp1
    refine ⟨_, rfl, (by show 1 ≤ sizeLine; decide), fun p2 hp2 => ?_⟩
    have g2 := Ex.new (o := .lst [wv]) hp2
    refine ⟨p1, p2, _, _, rfl, rfl, g2 _ _ upd_same, upd_same, sz1000 (by rw [List.length_take, List.length_map]; show _ + 1 ≤ 1000; omega), fun p3 hp3 => ?_⟩
    have g3 := Ex.new (o := .lst ((ps.map V.int).take wh ++ [wv])) hp3
    have g13 := (g1.trans g2).trans g3
    refine ⟨_, rfl, _, rfl, _, rfl, A, _, rfl, SqL.of (g13 _ _ hA2), fun p4 hp4 => ?_⟩
    rw [cut_drop _ _ (by rw [List.length_map]; exact hwl)]
    have g4 := Ex.new (o := .lst ((ps.map V.int).drop wh)) hp4
    refine ⟨p3, p4, _, _, rfl, rfl, g4 _ _ upd_same, upd_same, sz1000 (by rw [List.length_append, List.length_take, List.length_drop, List.length_map]; show _ + 1 + _ ≤ 1000; omega), fun S hp5 => ?_⟩
    have g5 := Ex.new (o := .lst ((ps.map V.int).take wh ++ [wv] ++ (ps.map V.int).drop wh)) hp5
    have e4 := (g13.trans g4).trans g5
    have h5 : (upd (upd (upd (upd (upd H2 p1 (.lst ((ps.map V.int).take wh))) p2 (.lst [wv])) p3 (.lst ((ps.map V.int).take wh ++ [wv]))) p4 (.lst ((ps.map V.int).drop wh))) S (.lst ((ps.map V.int).take wh ++ [wv] ++ (ps.map V.int).drop wh))) S = some (.lst ((ps.take wh).map V.int ++ wv :: (ps.drop wh).map V.int)) := by rw [upd_same]; simp [List.map_take, List.map_drop]
    have hSD : S ≠ D := Kp.ne (d2.ex (g13.trans g4)) hp5
    generalize upd (upd (upd (upd (upd H2 p1 (.lst ((ps.map V.int).take wh))) p2 (.lst [wv])) p3 (.lst ((ps.map V.int).take wh ++ [wv]))) p4 (.lst ((ps.map V.int).drop wh))) S (.lst ((ps.map V.int).take wh ++ [wv] ++ (ps.map V.int).drop wh)) = H4 at *
    have k14 := k12.trans (Kp.of e4)
    have d4 := d2.ex e4
    have M4 := kp_mkt hD k14 M
    have hR4 := k14 _ _ hRD hR
    have sbad : ∀ H', Kp D H4 H' → SetBad H' us.length (.ref S) (wh : Int) := fun H' k' =>
      .inl ⟨S, ps.take wh, wv, (ps.drop wh).map V.int, rfl, k' _ _ hSD h5, ⟨ndp.sublist (List.take_sublist _ _), fun n hn => inn n (List.mem_of_mem_take hn), by rw [List.length_take]; omega⟩, kd_ints, hkw _, .inl hin, by rw [List.length_take, Nat.min_eq_left hwl]⟩
    clear g1 g2 g3 g13 g4 g5 e4 hat hA2 k12 k1 k2 d1 d2 h5
    refine ⟨[some (.ref D), some (.ref x), some (.ref R), some (.ref A), some (.int (us.length : Nat)), some (.int (wh : Int)), some wv, some (.ref S), none, none, none, none, none, none, none], rfl, ?_⟩
    refine ⟨_, rfl, _, rfl, _, rfl, x, kd, s, us, rs, gs, _, _, "set", (wh : Int), rfl, M4, hs50, hF, by omega, .inr ⟨rfl, ds, .inr ⟨⟨R, rfl, .inl hR4⟩, hdl⟩, sbad H4 (Kp.refl _ _)⟩, fun H5 q5 e5 hq5 => ?_⟩
    refine ⟨_, rfl, (by show 4 ≤ sizeLine; decide), fun l1 hl1 => ?_⟩
    have e6 := Ex.new (o := .lst [V.str "set", .int (wh : Int), .bl true, .bl false]) hl1
    refine ⟨flD _, flD _, dp_fl (e6 _ _ hq5) rfl, dp_fl upd_same rfl, shaped_fl _, shaped_fl _, _, rfl, iteF' (eqf _) ?_⟩
    have e46 := e5.trans e6
    generalize upd H5 l1 (.lst [V.str "set", .int (wh : Int), .bl true, .bl false]) = H6 at *
    refine ⟨wh, wv, S, rfl, hwl, k14.trans (Kp.of e46), d4.ex e46, fun v8 v9 v10 H7 k7 d7 => ?_⟩
    have k47 := (Kp.of (D := D) e46).trans k7
    clear e5 e6 e46 hq5 k7
    -- nothing
    refine ⟨[some (.ref D), some (.ref x), some (.ref R), some (.ref A), some (.int (us.length : Nat)), some (.int (wh : Int)), some wv, some (.ref S), v8, v9, v10, none, none, none, none], rfl, ?_⟩
    refine ⟨(by show 3 ≤ sizeLine; decide), fun l2 hl2 => ⟨_, rfl, D, 3, rfl, d7.ex (Ex.new hl2), by decide, fun j2 H8 j20 j21 k8 d8 => ?_⟩⟩
    obtain ⟨nv, hat2, hkn, hrn⟩ : ∃ nv : V, atI [V.non, .int 3, .str "01"] j2 = some nv ∧ (∀ H, Kd H nv) ∧ isR nv = false := by
      have hj : j2 = 0 ∨ j2 = 1 ∨ j2 = 2 := by omega
      rcases hj with rfl | rfl | rfl
      · exact ⟨_, atI_nat (j := 0) rfl, fun _ => .non, rfl⟩
      · exact ⟨_, atI_nat (j := 1) rfl, fun _ => .int _, rfl⟩
      · exact ⟨_, atI_nat (j := 2) rfl, fun _ => .str _, rfl⟩
    refine ⟨l2, _, j2, nv, rfl, rfl, SqL.of (k8 _ _ (Kp.ne d7 hl2) upd_same), hat2, ?_⟩
    have k48 := (k47.trans (Kp.of (Ex.new (o := .lst [V.non, .int 3, .str "01"]) hl2))).trans k8
    clear k8 k47 d7
    have M8 := kp_mkt d4 k48 M4
    have hR8 := k48 _ _ hRD hR4
    refine ⟨[some (.ref D), some (.ref x), some (.ref R), some (.ref A), some (.int (us.length : Nat)), some (.int (wh : Int)), some wv, some (.ref S), v8, v9, v10, some nv, none, none, none], rfl, ?_⟩
    refine ⟨_, rfl, _, rfl, _, rfl, x, kd, s, us, rs, gs, _, _, "set", -1, rfl, M8, hs50, hF, by omega, .inr ⟨rfl, ds, .inr ⟨⟨R, rfl, .inl hR8⟩, hdl⟩, .inr ⟨hkn _, hrn, rfl⟩⟩, fun H9 q9 e9 hq9 => ?_⟩
    refine ⟨_, rfl, (by show 4 ≤ sizeLine; decide), fun l3 hl3 => ?_⟩
    have e10 := Ex.new (o := .lst [V.str "set", .int (-1), .bl true, .bl false]) hl3
    refine ⟨flD _, flD _, dp_fl (e10 _ _ hq9) rfl, dp_fl upd_same rfl, shaped_fl _, shaped_fl _, _, rfl, iteF' (eqf _) ?_⟩
    have e810 := e9.trans e10
    generalize upd H9 l3 (.lst [V.str "set", .int (-1), .bl true, .bl false]) = Ha at *
    have da := d8.ex e810
    have ka := k48.trans (Kp.of e810)
    have hRa := e810 _ _ hR8
    clear e9 e10 e810 hq9 d8 k48 M8 hR8
    -- at
    refine ⟨[some (.ref D), some (.ref x), some (.ref R), some (.ref A), some (.int (us.length : Nat)), some (.int (wh : Int)), some wv, some (.ref S), v8, v9, v10, some nv, none, none, none], rfl, ?_⟩
    refine ⟨_, rfl, _, rfl, R, _, rfl, .inl (SqL.of hRa), D, _, rfl, da, by rw [List.length_map]; omega, fun a3 Hb b0 b1 kb db => ?_⟩
    rw [List.length_map] at b1
    obtain ⟨at_, rfl⟩ : ∃ n : Nat, a3 = (n : Int) := ⟨a3.toNat, by omega⟩
    have hatl : at_ < ds.length := by omega
    have k4b := ka.trans kb
    have hRb := kb _ _ hRD hRa
    refine ⟨[some (.ref D), some (.ref x), some (.ref R), some (.ref A), some (.int (us.length : Nat)), some (.int (wh : Int)), some wv, some (.ref S), v8, v9, v10, some nv, some (.int (at_ : Int)), none, none], rfl, ?_⟩
    refine ⟨_, rfl, _, rfl, _, rfl, R, _, rfl, SqL.of hRb, fun p1 hp1 => ?_⟩
    rw [cut_take _ _ (by rw [List.length_map]; omega)]
    have g1 := Ex.new (o := .lst ((ds.map V.int).take at_)) hp1
    have hp1D : p1 ≠ D := Kp.ne db hp1
    have hg1 : upd Hb p1 (.lst ((ds.map V.int).take at_)) p1 = some (.lst ((ds.map V.int).take at_)) := upd_same
    generalize upd Hb p1 (.lst ((ds.map V.int).take at_)) = Hc at *
    have dc := db.ex g1
    refine ⟨(by show 3 ≤ sizeLine; decide), fun l4 hl4 => ⟨_, rfl, D, 3, rfl, dc.ex (Ex.new hl4), by decide, fun j3 Hd j30 j31 kd3 dd => ?_⟩⟩
    obtain ⟨yv, hat3, hky, hiy⟩ : ∃ yv : V, atI [V.non, .bl true, .str "1"] j3 = some yv ∧ (∀ H, Kd H yv) ∧ isI yv = false := by
      have hj : j3 = 0 ∨ j3 = 1 ∨ j3 = 2 := by omega
      rcases hj with rfl | rfl | rfl
      · exact ⟨_, atI_nat (j := 0) rfl, fun _ => .non, rfl⟩
      · exact ⟨_, atI_nat (j := 1) rfl, fun _ => .bl _, rfl⟩
      · exact ⟨_, atI_nat (j := 2) rfl, fun _ => .str _, rfl⟩
    refine ⟨l4, _, j3, yv, rfl, rfl, SqL.of (kd3 _ _ (Kp.ne dc hl4) upd_same), hat3, (by show 1 ≤ sizeLine; decide), fun p2 hp2 => ?_⟩
    have kcd := (Kp.of (D := D) (Ex.new (o := .lst [V.non, .bl true, .str "1"]) hl4)).trans kd3
    have hg1d := kcd _ _ hp1D hg1
    have k4d := (k4b.trans (Kp.of g1)).trans kcd
    have g2 := Ex.new (o := .lst [yv]) hp2
    refine ⟨p1, p2, _, _, rfl, rfl, g2 _ _ hg1d, upd_same, sz1000 (by rw [List.length_take, List.length_map]; show _ + 1 ≤ 1000; omega), fun p3 hp3 => ?_⟩
    have k4e := k4d.trans (Kp.of g2)
    have de := dd.ex g2
    generalize upd Hd p2 (.lst [yv]) = H10 at *
    have hR10 := k4e _ _ hRD hR4
    have g3 := Ex.new (o := .lst ((ds.map V.int).take at_ ++ [yv])) hp3
    refine ⟨_, rfl, _, rfl, _, _, rfl, rfl, _, rfl, R, _, rfl, SqL.of (g3 _ _ hR10), fun p4 hp4 => ?_⟩
    rw [show ((at_ : Int) + 1) = ((at_ + 1 : Nat) : Int) by omega, cut_drop _ _ (by rw [List.length_map]; omega)]
    have g4 := Ex.new (o := .lst ((ds.map V.int).drop (at_ + 1))) hp4
    refine ⟨p3, p4, _, _, rfl, rfl, g4 _ _ upd_same, upd_same, sz1000 (by rw [List.length_append, List.length_take, List.length_drop, List.length_map]; show _ + 1 + _ ≤ 1000; omega), fun B hB => ?_⟩
    have g5 := Ex.new (o := .lst ((ds.map V.int).take at_ ++ [yv] ++ (ds.map V.int).drop (at_ + 1))) hB
    have g35 := (g3.trans g4).trans g5
    have hBB : (upd (upd (upd H10 p3 (.lst ((ds.map V.int).take at_ ++ [yv]))) p4 (.lst ((ds.map V.int).drop (at_ + 1)))) B (.lst ((ds.map V.int).take at_ ++ [yv] ++ (ds.map V.int).drop (at_ + 1)))) B = some (.lst ((ds.take at_).map V.int ++ yv :: (ds.drop (at_ + 1)).map V.int)) := by rw [upd_same]; simp [List.map_take, List.map_drop]
    have hBD : B ≠ D := Kp.ne (de.ex (g3.trans g4)) hB
    generalize upd (upd (upd H10 p3 (.lst ((ds.map V.int).take at_ ++ [yv]))) p4 (.lst ((ds.map V.int).drop (at_ + 1)))) B (.lst ((ds.map V.int).take at_ ++ [yv] ++ (ds.map V.int).drop (at_ + 1))) = Hf at *
    have k4f := k4e.trans (Kp.of g35)
    have df := de.ex g35
    have bbad : ∀ H', Kp D Hf H' → DemBad H' s (.ref B) (at_ : Int) := fun H' k' =>
      .inr (.inr ⟨B, ds.take at_, yv, (ds.drop (at_ + 1)).map V.int, rfl, k' _ _ hBD hBB, by rw [List.length_take, List.length_map, List.length_drop]; omega, hky _, hiy, kd_ints, by rw [List.length_take, Nat.min_eq_left (by omega)]⟩)
    clear g1 g2 g3 g4 g5 g35 hBB hg1 hg1d kcd kd3 k4d k4e dd de hR10 dc db da kb ka hRa hRb k4b hat2 hat3
    have Mf := kp_mkt d4 k4f M4
    have hRf := k4f _ _ hRD hR4
    refine ⟨[some (.ref D), some (.ref x), some (.ref R), some (.ref A), some (.int (us.length : Nat)), some (.int (wh : Int)), some wv, some (.ref S), v8, v9, v10, some nv, some (.int (at_ : Int)), some (.ref B), none], rfl, ?_⟩
    refine ⟨_, rfl, _, rfl, _, rfl, x, kd, s, us, rs, gs, _, _, "demand", (at_ : Int), rfl, Mf, hs50, hF, by omega, .inl ⟨rfl, bbad Hf (Kp.refl _ _)⟩, fun H11 q9 e9 hq9 => ?_⟩
    refine ⟨_, rfl, (by show 4 ≤ sizeLine; decide), fun l3 hl3 => ?_⟩
    have e10 := Ex.new (o := .lst [V.str "demand", .int (at_ : Int), .bl true, .bl false]) hl3
    refine ⟨flD _, flD _, dp_fl (e10 _ _ hq9) rfl, dp_fl upd_same rfl, shaped_fl _, shaped_fl _, _, rfl, iteF' (eqf _) ?_⟩
    have ef := e9.trans e10
    generalize upd H11 l3 (.lst [V.str "demand", .int (at_ : Int), .bl true, .bl false]) = Hg at *
    have dg := df.ex ef
    have hRg := ef _ _ hRf
    -- formless
    refine ⟨[some (.ref D), some (.ref x), some (.ref R), some (.ref A), some (.int (us.length : Nat)), some (.int (wh : Int)), some wv, some (.ref S), v8, v9, v10, some nv, some (.int (at_ : Int)), some (.ref B), none], rfl, ?_⟩
    refine ⟨_, rfl, (by show 1 ≤ sizeLine; decide), fun q1 hq1 => ?_⟩
    have g1 := Ex.new (o := .lst [V.int 1]) hq1
    refine ⟨R, q1, _, _, rfl, rfl, g1 _ _ hRg, upd_same, sz1000 (by rw [List.length_map]; show _ + 1 ≤ 1000; omega), fun q2 hq2 => ?_⟩
    have g2 := Ex.new (o := .lst (ds.map V.int ++ [V.int 1])) hq2
    have hq2l : upd (upd Hg q1 (.lst [V.int 1])) q2 (.lst (ds.map V.int ++ [V.int 1])) q2 = some (.lst (ds.map V.int ++ [V.int 1])) := upd_same
    have hq2D : q2 ≠ D := Kp.ne (dg.ex g1) hq2
    have g12 := g1.trans g2
    generalize upd (upd Hg q1 (.lst [V.int 1])) q2 (.lst (ds.map V.int ++ [V.int 1])) = Hh at *
    refine ⟨_, rfl, _, rfl, R, _, rfl, SqL.of (g12 _ _ hRg), fun q3 hq3 => ?_⟩
    rw [show (1 : Int) = ((1 : Nat) : Int) from rfl, cut_drop _ _ (by rw [List.length_map]; omega)]
    have g3 := Ex.new (o := .lst ((ds.map V.int).drop 1)) hq3
    refine ⟨(by show 2 ≤ sizeLine; decide), fun q4 hq4 => ?_⟩
    have g4 := Ex.new (o := .lst [V.int 0, .int 0]) hq4
    refine ⟨q3, q4, _, _, rfl, rfl, g4 _ _ upd_same, upd_same, sz1000 (by rw [List.length_drop, List.length_map]; show _ + 2 ≤ 1000; omega), fun q6 hq6 => ?_⟩
    have g5 := Ex.new (o := .lst ((ds.map V.int).drop 1 ++ [V.int 0, .int 0])) hq6
    have hq6D : q6 ≠ D := Kp.ne (((dg.ex g12).ex g3).ex g4) hq6
    have hq6l : upd (upd (upd Hh q3 (.lst ((ds.map V.int).drop 1))) q4 (.lst [V.int 0, .int 0])) q6 (.lst ((ds.map V.int).drop 1 ++ [V.int 0, .int 0])) q6 = some (.lst ((ds.map V.int).drop 1 ++ [V.int 0, .int 0])) := upd_same
    have g35 := (g3.trans g4).trans g5
    generalize upd (upd (upd Hh q3 (.lst ((ds.map V.int).drop 1))) q4 (.lst [V.int 0, .int 0])) q6 (.lst ((ds.map V.int).drop 1 ++ [V.int 0, .int 0])) = Hi at *
    have hq2i := g35 _ _ hq2l
    have g15 := g12.trans g35
    have di := dg.ex g15
    refine ⟨(by show 4 ≤ sizeLine; decide), fun l5 hl5 => ⟨_, rfl, D, 4, rfl, di.ex (Ex.new hl5), by decide, fun j4 Hj j40 j41 kj dj => ?_⟩⟩
    have kij := (Kp.of (D := D) (Ex.new (o := .lst [V.non, .bl true, .ref q2, .ref q6]) hl5)).trans kj
    obtain ⟨fv, hat4, hfv⟩ : ∃ fv : V, atI [V.non, .bl true, .ref q2, .ref q6] j4 = some fv ∧ ∀ H', Ex Hj H' → DemBad H' s fv (-1) := by
      have hj : j4 = 0 ∨ j4 = 1 ∨ j4 = 2 ∨ j4 = 3 := by omega
      rcases hj with rfl | rfl | rfl | rfl
      · exact ⟨_, atI_nat (j := 0) rfl, fun _ _ => .inl ⟨.non, rfl, rfl, rfl⟩⟩
      · exact ⟨_, atI_nat (j := 1) rfl, fun _ _ => .inl ⟨.bl _, rfl, rfl, rfl⟩⟩
      · exact ⟨_, atI_nat (j := 2) rfl, fun _ e => .inr (.inl ⟨q2, _, rfl, e _ _ (kij _ _ hq2D hq2i), by rw [List.length_append, List.length_map]; show _ + 1 ≠ s; omega, rfl⟩)⟩
      · exact ⟨_, atI_nat (j := 3) rfl, fun _ e => .inr (.inl ⟨q6, _, rfl, e _ _ (kij _ _ hq6D hq6l), by rw [List.length_append, List.length_drop, List.length_map]; show _ + 2 ≠ s; omega, rfl⟩)⟩
    refine ⟨l5, _, j4, fv, rfl, rfl, SqL.of (kj _ _ (Kp.ne di hl5) upd_same), hat4, ?_⟩
    have kfj := ((Kp.of (D := D) ef).trans (Kp.of g15)).trans kij
    have k4j := k4f.trans kfj
    have Mj := kp_mkt d4 k4j M4
    have hRj := k4j _ _ hRD hR4
    refine ⟨[some (.ref D), some (.ref x), some (.ref R), some (.ref A), some (.int (us.length : Nat)), some (.int (wh : Int)), some wv, some (.ref S), v8, v9, v10, some nv, some (.int (at_ : Int)), some (.ref B), some fv], rfl, ?_⟩
    refine ⟨_, rfl, _, rfl, _, rfl, _, rfl, _, rfl, _, rfl, _, rfl, x, R, kd, s, us, rs, gs, ds, _, _, _, _, _, rfl, Mj, hs1, hs50, hF, by omega, hRj, hdl, bbad Hj kfj, hfv Hj (Ex.refl _), sbad Hj k4j, fun Hk ek => ⟨_, rfl, iteF ?_⟩⟩
    refine ⟨_, rfl, _, rfl, _, rfl, x, kd, s, us, rs, gs, _, _, "demand", -1, rfl, Mj.ex ek, hs50, hF, by omega, .inl ⟨rfl, hfv Hk ek⟩, fun Hl q9 el hq9 => ?_⟩
    refine ⟨_, rfl, (by show 4 ≤ sizeLine; decide), fun l3 hl3 => ?_⟩
    have em := Ex.new (o := .lst [V.str "demand", .int (-1), .bl true, .bl false]) hl3
    refine ⟨flD [V.str "demand", .int (-1), .bl true, .bl false], flD [V.str "demand", .int (-1), .bl true, .bl false], dp_fl (em _ _ hq9) rfl, dp_fl upd_same rfl, shaped_fl _, shaped_fl _, ?_⟩
    rw [eqv_fl]
    have kfin := (ek.trans el).trans em
    exact k _ ((k14.trans k4j).trans (Kp.of kfin)) (dj.ex kfin)
end
end K00


set_option Elab.async false
set_option linter.all false
set_option maxRecDepth 100000
set_option maxHeartbeats 4000000
namespace K00
open PySem PySem.Spec PyProof.Rows L2 RZ StX
open Evl (Ex)
open IsE
theorem sum_snoc (xs : List Int) (a : Int) : (xs ++ [a]).sum = xs.sum + a := by simp
theorem total_snoc (os : List (Option Int)) (o : Option Int) : totalO (os ++ [o]) = plusO (totalO os) o := by
  unfold totalO
  cases o with
  | none =>
    rw [if_pos (by simp)]
    split <;> rfl
  | some b =>
    by_cases c : none ∈ os
    · rw [if_pos c, if_pos (by simp [c])]
      rfl
    · rw [if_neg c, if_neg (by simp [c]), List.map_append, List.map_cons, List.map_nil, sum_snoc]
      rfl
theorem least_none (os : List (Option Int)) : leastO (os ++ [none]) = leastO os := by
  unfold leastO wholes
  rw [List.filterMap_append]
  simp
theorem least_some (os : List (Option Int)) (b : Int) : leastO (os ++ [some b]) = match leastO os with
    | none => some b
    | some m => some (if b < m then b else m) := by
  have e : wholes (os ++ [some b]) = wholes os ++ [b] := by unfold wholes; rw [List.filterMap_append]; rfl
  unfold leastO
  rw [e]
  cases wholes os with
  | nil => rfl
  | cons n ms =>
    show some ((ms ++ [b]).foldl min n) = some (if b < ms.foldl min n then b else ms.foldl min n)
    rw [List.foldl_append]
    show some (min (ms.foldl min n) b) = _
    congr 1
    split <;> omega
theorem scal_am (a b : Option Int) : scal (amV a) (amV b) = true := by cases a <;> cases b <;> rfl
theorem am_inj {a b : Option Int} : amV a = amV b ↔ a = b := ⟨fun h => by cases a <;> cases b <;> (first | rfl | (injection h with h1; rw [h1]) | (cases h)), fun h => by rw [h]⟩
/-- the method of a built-in value, the fragment told -/
theorem pe_bmK {X : Cx} {K : PySem.W.Frag} {o e : Expr} {es : List Expr} {to : TE} {t : TA} {name : Str} {apos cpos : Pos} {T id : String} {r : V → List V → Hp → VK → Prop} (h : X.K = K) (pa : PlainAttrs T) (slot : Slot T name id) (hty : typeOf (.builtin id) = pure (.type "method_descriptor")) (hm : MtR X id r) (ho : PE X o to) (ha : PA X (e :: es) t)
    (hbase : attributeBase o name X.env (eval o X.env) = eval o X.env := by rfl)
    (hfew : ((backTo cpos (starEach (e :: es) X.env)).all (fun x => !x.1) && (backToKw cpos (keywordEach [] X.env)).all (fun x => x.1.isSome)
      && decide ((e :: es).length + ([] : List Keyword).length + (if ([] : List Keyword).isEmpty then 0 else 1) < 30)) = true := by rfl)
    (hline : (apos.endLine == cpos.line) = true := by rfl) (hs : starEach (e :: es) X.env = (false, eval e X.env) :: starEach es X.env := by rfl) (hplain : (backTo cpos (starEach es X.env)).any (·.1) = false := by rfl) :
    PE X (.Call (.Attribute o name apos) (e :: es) [] cpos) (tBM K T r to t) := by
  subst h
  exact pe_bm pa slot hty hm ho ha hbase hfew hline hs hplain
section
variable {w : World} {K : PySem.W.Frag} {mg : Str → Option Value} {base : Heap}
def spAmR : Sp := fun vs H Q _ => ∃ (D : Addr), vs = [.ref D] ∧ Dr D H ∧ ∀ H', Q (.bl true) H'
theorem sc_amr : FnScope ["_law_draws_here", "_law_row", "_law_whole", "_law_best", "_law_value", "_law_one", "_law_other", "_law_added", "_law_told", "error", "_law_k"] ["_law_draws_here"] (defScope s__law_amounts_right) := ⟨rfl, rfl, rfl, by decide +kernel, rfl, by decide +kernel, by decide +kernel⟩
theorem has_amr (T : Ctx K mg) : Has w K mg base CX0 "_law_amounts_right" 5 ["_law_draws_here"] spAmR := by
  obtain ⟨f1, fd1, m1, kp1, F1, b1⟩ := has_take (w := w) (base := base) T
  obtain ⟨f2, fd2, m2, kp2, F2, b2⟩ := has_total (w := w) (base := base) T
  obtain ⟨f3, fd3, m3, kp3, F3, b3⟩ := has_least (w := w) (base := base) T
  obtain ⟨f4, fd4, m4, kp4, F4, b4⟩ := has_plus (w := w) (base := base) T
  obtain ⟨f5, fd5, m5, kp5, F5, b5⟩ := has_at_most (w := w) (base := base) T
  obtain ⟨f6, fd6, m6, kp6, F6, b6⟩ := has_gap (w := w) (base := base) T
  refine has_of (st := s__law_amounts_right) (f := He.ga K "_law_amounts_right") T.d__law_amounts_right T.g__law_amounts_right (fun _ _ _ _ _ _ us hl => match us, hl with | [_], _ => rfl) fun fd F => ?_
  refine okZ F sc_amr (fun vs H Q E h => ?_) (fun cdv A0 outer s0 H vs Q E hr h => ?_)
  · obtain ⟨D, rfl, _⟩ := h
    rfl
  · obtain ⟨D, rfl, hD, k⟩ := h
    have nd := sc_amr.nd
    have hu := hr.units
    have r1 := hr.mono (show 1 ≤ 4 by decide)
    refine ⟨_, pss_cons (ps_setLc (own := [("_law_k", 10)]) (i := 1) (g := gName 10) (tt := tYes) rfl nd rfl rfl rfl (pi_range1 (by rfl) T.b_range (pa_cons (pe_call F1 r1 (by rfl) m1 kp1 b1 .nil pass0 (pa_cons (pv 0) (pa_cons pe_int pa_nil))) pa_nil)) (blkOk_by (own := [("_law_k", 10)]) (N := ["_law_draws_here", "_law_row", "_law_whole", "_law_best", "_law_value", "_law_one", "_law_other", "_law_added", "_law_told", "error", "_law_k"]) (sc := defScope s__law_amounts_right) (by decide +kernel)) (fun _ _ _ _ _ => pg_name (i := 10) nd rfl (Or.inl rfl)) (fun _ _ _ _ _ => pts_nil)
          (fun _ _ _ _ _ => pe_ix (ix_listK (K := K) rfl) (pe_lst (pa_cons pe_non (pa_cons pe_int (pa_cons (pe_un un_neg pe_int) (pa_cons pe_int pa_nil))))) (pe_call F1 r1 (by rfl) m1 kp1 b1 .nil pass0 (pa_cons (pv 0) (pa_cons pe_int pa_nil))) (fun _ _ => rfl)))
      (pss_cons (ps_set (i := 2) nd rfl (.inl rfl) pe_int)
      (pss_cons (ps_set (i := 3) nd rfl (.inl rfl) pe_non)
      (pss_cons (PS.nrm (ps_for (passes_of rfl) rfl (pi_list (pv 1)) (pg_name (i := 4) nd rfl (.inl rfl))
        (pss_cons ((ps_if (pt_cmpR op_notN (pv 2) pe_non (nomark _)) (pss_one (ps_set (i := 2) nd rfl (.inl rfl) (pe_ifExp (pt_cmpR op_isN (pv 4) pe_non (nomark _)) pe_non (pe_op op_add (pv 2) (pv 4))))) pss_nil).imp
            (t' := fun De σ H' => ∃ (v0 v1 v3 v10 : Option V) (a o : Option Int), σ = [v0, v1, some (amV a), v3, some (amV o), none, none, none, none, none, v10] ∧ De.nx [v0, v1, some (amV (plusO a o)), v3, some (amV o), none, none, none, none, none, v10] H') ?c1)
        (pss_one (ps_if (PW.pt (pw_and (pt_cmpR op_notN (pv 4) pe_non (nomark _)) (pw_and1 (PW.pt (pw_or (pt_cmpR op_isN (pv 3) pe_non (nomark _)) (pw_or1 (pt_cmpR op_lt (pv 4) (pv 3) (nomark _)))))))) (pss_one (ps_set (i := 3) nd rfl (.inl rfl) (pv 4))) pss_nil)))))
      (pss_cons (PS.nrm (ps_if (PW.pt (pw_or (pt_cmpR op_ne (pe_call F2 hr (by rfl) m2 kp2 b2 .nil (E := E0) (pass_none rfl rfl) (pa_cons (pv 1) pa_nil)) (pv 2) (nomark _)) (pw_or1 (pt_cmpR op_ne (pe_call F3 hr (by rfl) m3 kp3 b3 .nil (E := E0) (pass_none rfl rfl) (pa_cons (pe_callTy call_tuple_of (by rfl) T.b_tuple (by decide +kernel) (pa_cons (pv 1) pa_nil)) pa_nil)) (pv 3) (nomark _))))) (pss_one (ps_ret pe_bl)) pss_nil))
      (pss_cons (PS.nrm (ps_set (i := 5) nd rfl (.inl rfl) (pe_ix ix_list (pe_lst (pa_cons pe_non (pa_cons (pe_op op_sub (pe_call F1 r1 (by rfl) m1 kp1 b1 .nil pass0 (pa_cons (pv 0) (pa_cons pe_int pa_nil))) pe_int) pa_nil))) (pe_call F1 r1 (by rfl) m1 kp1 b1 .nil pass0 (pa_cons (pv 0) (pa_cons pe_int pa_nil))) (fun _ _ => rfl))))
      (pss_cons (PS.nrm (ps_set (i := 6) nd rfl (.inl rfl) (pe_ix ix_list (pe_lst (pa_cons pe_non (pa_cons (pe_op op_sub (pe_call F1 r1 (by rfl) m1 kp1 b1 .nil pass0 (pa_cons (pv 0) (pa_cons pe_int pa_nil))) pe_int) pa_nil))) (pe_call F1 r1 (by rfl) m1 kp1 b1 .nil pass0 (pa_cons (pv 0) (pa_cons pe_int pa_nil))) (fun _ _ => rfl))))
      (pss_cons ((ps_set (i := 7) nd rfl (.inl rfl) (pe_ifExp (PW.pt (pw_or (pt_cmpR op_isN (pv 5) pe_non (nomark _)) (pw_or1 (pt_cmpR op_isN (pv 6) pe_non (nomark _))))) pe_non (pe_op op_add (pv 5) (pv 6)))).imp
            (t' := fun De σ H' => ∃ (v0 v1 v2 v3 v4 v10 : Option V) (a o : Option Int), σ = [v0, v1, v2, v3, v4, some (amV a), some (amV o), none, none, none, v10] ∧ De.nx [v0, v1, v2, v3, v4, some (amV a), some (amV o), some (amV (plusO a o)), none, none, v10] H') ?c2)
      (pss_cons (PS.nrm ((ps_if (PW.pt (pw_or (pt_cmpR op_ne (pe_call F4 hr (by rfl) m4 kp4 b4 .nil (E := E0) (pass_none rfl rfl) (pa_cons (pv 5) (pa_cons (pv 6) pa_nil))) (pv 7) (nomark _)) (pw_or1 (pt_cmpR op_ne (pe_call F5 hr (by rfl) m5 kp5 b5 .nil (E := E0) (pass_none rfl rfl) (pa_cons (pv 5) (pa_cons (pv 6) pa_nil)))
            (pe_or (pe_cmpR op_isN (pv 6) pe_non (nomark _)) (pe_one (pe_and (pe_cmpR op_notN (pv 5) pe_non (nomark _)) (pe_one (pe_cmpR op_le (pv 5) (pv 6) (nomark _)))))) (nomark _))))) (pss_one (ps_ret pe_bl)) pss_nil).imp
            (t' := fun De σ H' => ∃ (v0 v1 v2 v3 v4 v8 v9 v10 : Option V) (a o : Option Int), σ = [v0, v1, v2, v3, v4, some (amV a), some (amV o), some (amV (plusO a o)), v8, v9, v10] ∧ De.nx [v0, v1, v2, v3, v4, some (amV a), some (amV o), some (amV (plusO a o)), v8, v9, v10] H') ?c3))
      (pss_cons ((ps_if (PW.pt (pw_or (pt_cmpR op_isnot_bl (pe_call F5 hr (by rfl) m5 kp5 b5 .nil (E := E0) (pass_none rfl rfl) (pa_cons (pv 5) (pa_cons (pv 5) pa_nil))) pe_bl (nomark _)) (pw_or1 (pt_cmpR op_ne (pe_call F6 hr (by rfl) m6 kp6 b6 .nil (E := E0) (pass_none rfl rfl) (pa_cons (pv 5) (pa_cons pe_int pa_nil)))
            (pe_ifExp (pt_cmpR op_isN (pv 5) pe_non (nomark _)) pe_non (pe_op op_sub (pv 5) pe_int)) (nomark _))))) (pss_one (ps_ret pe_bl)) pss_nil).imp
            (t' := fun De σ H' => ∃ (v0 v1 v2 v3 v4 v6 v7 v8 v9 v10 : Option V) (a : Option Int), σ = [v0, v1, v2, v3, v4, some (amV a), v6, v7, v8, v9, v10] ∧ De.nx [v0, v1, v2, v3, v4, some (amV a), v6, v7, v8, v9, v10] H') ?c4)
      (pss_cons (PS.nrm (ps_set (i := 8) nd rfl (.inl rfl) (pe_lst pa_nil)))
      (pss_cons (ps_try_as (i := 9) (c := .ref (He.ga K "BadNumber")) (Wout := fun _ _ _ _ => False) rfl rfl nd rfl rfl ⟨by rfl, by decide, .inl T.g_BadNumber⟩ takes0
        (fun W pn xe tk hp => pss_one (ps_expr (pe_bmK (K := K) rfl PySem.F.plainAttrs_list PySem.F.slot_list_append PySem.F.type_list_append mt_append (pv 8) (pa_cons (pe_callS F4 hr (by rfl) m4 kp4 b4 (fun σ => passAt tk σ) (pa_cons pe_str (pa_cons pe_bl pa_nil))) pa_nil))))
        (fun a oe cls d pn hz hf => pss_one (ps_expr (pe_bmK (K := K) rfl PySem.F.plainAttrs_list PySem.F.slot_list_append PySem.F.type_list_append mt_append (pv 8) (pa_cons (pe_xf T.xf_BadNumber T.xnn_BadNumber hz hf (pv 9)) pa_nil)))))
      (pss_cons (ps_try_as (i := 9) (c := .ref (He.ga K "BadNumber")) (Wout := fun _ _ _ _ => False) rfl rfl nd rfl rfl ⟨by rfl, by decide, .inl T.g_BadNumber⟩ takes0
        (fun W pn xe tk hp => pss_one (ps_expr (pe_bmK (K := K) rfl PySem.F.plainAttrs_list PySem.F.slot_list_append PySem.F.type_list_append mt_append (pv 8) (pa_cons (pe_callS F6 hr (by rfl) m6 kp6 b6 (fun σ => passAt tk σ) (pa_cons pe_non (pa_cons pe_non pa_nil))) pa_nil))))
        (fun a oe cls d pn hz hf => pss_one (ps_expr (pe_bmK (K := K) rfl PySem.F.plainAttrs_list PySem.F.slot_list_append PySem.F.type_list_append mt_append (pv 8) (pa_cons (pe_xf T.xf_BadNumber T.xnn_BadNumber hz hf (pv 9)) pa_nil)))))
      (pss_cons (ps_try_as (i := 9) (c := .ref (He.ga K "BadNumber")) (Wout := fun _ _ _ _ => False) rfl rfl nd rfl rfl ⟨by rfl, by decide, .inl T.g_BadNumber⟩ takes0
        (fun W pn xe tk hp => pss_one (ps_expr (pe_bmK (K := K) rfl PySem.F.plainAttrs_list PySem.F.slot_list_append PySem.F.type_list_append mt_append (pv 8) (pa_cons (pe_callS F2 hr (by rfl) m2 kp2 b2 (fun σ => passAt tk σ) (pa_cons (pe_lst (pa_cons pe_int (pa_cons pe_str pa_nil))) pa_nil)) pa_nil))))
        (fun a oe cls d pn hz hf => pss_one (ps_expr (pe_bmK (K := K) rfl PySem.F.plainAttrs_list PySem.F.slot_list_append PySem.F.type_list_append mt_append (pv 8) (pa_cons (pe_xf T.xf_BadNumber T.xnn_BadNumber hz hf (pv 9)) pa_nil)))))
      (pss_one (ps_ret (pe_cmpR (op_eqD hu) (pv 8) (pe_lst (pa_cons pe_str (pa_cons pe_str (pa_cons pe_str pa_nil)))) (nomark _))))))))))))))))), ?_⟩
    case c1 =>
      rintro De σ H' ⟨v0, v1, v3, v10, a, o, rfl, kk⟩
      cases a with
      | none => exact ⟨_, rfl, rfl, _, rfl, iteF' rfl kk⟩
      | some a =>
        refine ⟨_, rfl, rfl, _, rfl, iteT' rfl ⟨_, rfl, rfl, _, rfl, ?_⟩⟩
        cases o with
        | none => exact iteT' rfl kk
        | some o => exact iteF' rfl ⟨_, rfl, _, rfl, _, _, rfl, rfl, kk⟩
    case c2 =>
      rintro De σ H' ⟨v0, v1, v2, v3, v4, v10, a, o, rfl, kk⟩
      cases a with
      | none => exact ⟨_, rfl, rfl, _, rfl, iteT' rfl (iteT' rfl kk)⟩
      | some a =>
        refine ⟨_, rfl, rfl, _, rfl, iteF' rfl ⟨_, rfl, rfl, _, rfl, ?_⟩⟩
        cases o with
        | none => exact iteT' rfl kk
        | some o => exact iteF' rfl ⟨_, rfl, _, rfl, _, _, rfl, rfl, kk⟩
    case c3 =>
      rintro De σ H' ⟨v0, v1, v2, v3, v4, v8, v9, v10, a, o, rfl, kk⟩
      refine ⟨_, rfl, _, rfl, _, _, rfl, kd_am a, kd_am o, .inr (.inr ⟨a, o, rfl, rfl, ?_⟩)⟩
      refine ⟨_, rfl, scal_am _ _, _, rfl, iteF' (by rw [decide_eq_true rfl]; rfl) ?_⟩
      refine ⟨_, rfl, _, rfl, a, o, rfl, ?_⟩
      refine ⟨_, rfl, rfl, ?_⟩
      cases o with
      | none =>
        refine ⟨_, rfl, iteT' rfl ⟨rfl, _, rfl, iteF' ?_ kk⟩⟩
        cases a <;> rfl
      | some o =>
        refine ⟨_, rfl, iteF' rfl ⟨_, rfl, rfl, ?_⟩⟩
        cases a with
        | none => exact ⟨_, rfl, iteF' rfl ⟨rfl, _, rfl, iteF' rfl kk⟩⟩
        | some a =>
          refine ⟨_, rfl, iteT' rfl ⟨_, rfl, _, rfl, _, _, rfl, rfl, rfl, _, rfl, iteF' ?_ kk⟩⟩
          show (!decide (V.bl (decide (a ≤ o)) = V.bl (decide (a ≤ o)))) = false
          rw [decide_eq_true rfl]
          rfl
    case c4 =>
      rintro De σ H' ⟨v0, v1, v2, v3, v4, v6, v7, v8, v9, v10, a, rfl, kk⟩
      refine ⟨_, rfl, _, rfl, a, a, rfl, ?_⟩
      have e : atMostO a a = true := by
        cases a with
        | none => rfl
        | some a => exact decide_eq_true (Int.le_refl _)
      rw [e]
      refine ⟨_, _, rfl, rfl, _, rfl, iteF' rfl ?_⟩
      refine ⟨_, rfl, a, _, rfl, .int _, .inr ⟨_, rfl, ?_⟩⟩
      refine ⟨_, rfl, rfl, _, rfl, ?_⟩
      cases a with
      | none => exact iteT' rfl ⟨rfl, _, rfl, iteF' rfl kk⟩
      | some a =>
        refine iteF' rfl ⟨_, rfl, _, _, rfl, rfl, rfl, _, rfl, iteF' ?_ kk⟩
        show (!decide (V.int (a - 4) = V.int (a - 4))) = false
        rw [decide_eq_true rfl]
        rfl
    refine ⟨_, rfl, D, 5, rfl, hD, by decide, fun n H1 n0 n1 k1 d1 => ⟨_, rfl, by omega, by omega, fun P hP => lc_it walk_range (fun i H' => Kp D H1 H' ∧ Dr D H' ∧ ∃ os : List (Option Int), H' P = some (.lst (os.map amV)) ∧ os.length = i) ⟨Kp.of (Ex.new hP), d1.ex (Ex.new hP), [], upd_same, rfl⟩ (fun _ _ _ _ => trivial) ?_ ?_⟩⟩
    · rintro i x H2 H3 hi ⟨k2, d2, os, hP2, hl2⟩ ⟨rfl, rfl⟩
      have hi5 : i < 5 := by omega
      have hPD : P ≠ D := Kp.ne d1 hP
      refine ⟨rfl, tYesI ?_⟩
      refine ⟨_, rfl, (by show 4 ≤ sizeLine; decide), fun l hl => ⟨_, rfl, D, 4, rfl, d2.ex (Ex.new hl), by decide, fun j H4 j0 j1 k4 d4 => ?_⟩⟩
      obtain ⟨o, hat⟩ : ∃ o : Option Int, atI [V.non, .int 0, .int (-3), .int 7] j = some (amV o) := by
        have hj : j = 0 ∨ j = 1 ∨ j = 2 ∨ j = 3 := by omega
        rcases hj with rfl | rfl | rfl | rfl
        · exact ⟨none, atI_nat (j := 0) rfl⟩
        · exact ⟨some 0, atI_nat (j := 1) rfl⟩
        · exact ⟨some (-3), atI_nat (j := 2) rfl⟩
        · exact ⟨some 7, atI_nat (j := 3) rfl⟩
      have e3 := Ex.new (o := .lst [V.non, .int 0, .int (-3), .int 7]) hl
      have hP4 := k4 _ _ hPD (e3 _ _ hP2)
      refine ⟨l, _, j, amV o, rfl, rfl, SqL.of (k4 _ _ (Kp.ne d2 hl) upd_same), hat, _, hP4, by rw [List.length_map]; exact small1000 (by omega), ((k2.trans (Kp.of e3)).trans k4).mut hP, ?_, os ++ [o], ?_, by rw [List.length_append, hl2]; rfl⟩
      · obtain ⟨ms, hms⟩ := d4
        exact ⟨ms, by rw [upd_ne (Ne.symm hPD)]; exact hms⟩
      · rw [upd_same, List.map_append]
        rfl
    rintro H2 ⟨k2, d2, os, hP2, hl2⟩
    have hl5 : os.length ≤ 5 := by omega
    have t0 : totalO (os.take 0) = some 0 := by rw [List.take_zero]; rfl
    have u0 : leastO (os.take 0) = none := by rw [List.take_zero]; rfl
    refine ⟨[some (.ref D), some (.ref P), some (.int 0), some .non, none, none, none, none, none, none, none], rfl, ?_⟩
    refine ⟨_, rfl, P, rfl, ⟨_, SqL.of hP2⟩, for_it walk_list (fun i σ H' => (∃ v4 : Option V, σ = [some (.ref D), some (.ref P), some (amV (totalO (os.take i))), some (amV (leastO (os.take i))), v4, none, none, none, none, none, none]) ∧ H' = H2) ⟨⟨none, by rw [t0, u0]; rfl⟩, rfl⟩ (fun i σ H' _ ⟨_, e⟩ => by rw [e]; exact SqL.of hP2) ?_ ?_⟩
    · rintro i y σ H3 H4 hi ⟨⟨v4, rfl⟩, hH⟩ ⟨rfl, hy⟩
      obtain ⟨o, ho, rfl⟩ := am_get hy
      have ht : os.take (i + 1) = os.take i ++ [o] := by rw [List.take_add_one, ho]; rfl
      rw [ht, total_snoc]
      refine ⟨_, _, _, _, totalO (os.take i), o, rfl, ?_⟩
      cases o with
      | none =>
        rw [least_none]
        exact ⟨_, rfl, rfl, _, rfl, iteF' rfl (iteF' rfl ⟨⟨_, rfl⟩, hH⟩)⟩
      | some b =>
        rw [least_some]
        refine ⟨_, rfl, rfl, _, rfl, iteT' rfl ⟨_, rfl, rfl, _, rfl, ?_⟩⟩
        cases leastO (os.take i) with
        | none => exact iteT' rfl (iteT' rfl ⟨_, rfl, ⟨_, rfl⟩, hH⟩)
        | some m =>
          refine iteF' rfl ⟨_, rfl, _, rfl, _, _, rfl, rfl, _, rfl, ?_⟩
          by_cases c : b < m
          · refine iteT' (decide_eq_true c) ⟨_, rfl, ⟨some (amV (some b)), ?_⟩, hH⟩
            show _ = [_, _, _, some (amV (some (if b < m then b else m))), _, _, _, _, _, _, _]
            rw [if_pos c]
            rfl
          · refine iteF' (decide_eq_false c) ⟨⟨some (amV (some b)), ?_⟩, hH⟩
            show _ = [_, _, _, some (amV (some (if b < m then b else m))), _, _, _, _, _, _, _]
            rw [if_neg c]
    rintro σ H3 ⟨⟨v4, rfl⟩, hH⟩
    subst hH
    rw [List.length_map, List.take_length]
    refine ⟨[some (.ref D), some (.ref P), some (amV (totalO os)), some (amV (leastO os)), v4, none, none, none, none, none, none], rfl, ?_⟩
    refine ⟨_, rfl, P, _, rfl, hP2, am_kd os, by rw [List.length_map]; omega, .inl ⟨os, rfl, fun H4 e4 => ?_⟩⟩
    refine ⟨_, rfl, scal_am _ _, _, rfl, iteF' (by rw [decide_eq_true rfl]; rfl) ?_⟩
    refine ⟨_, rfl, P, _, rfl, .inl ⟨SqL.of (e4 _ _ hP2), fun t1 ht1 => ?_⟩⟩
    refine ⟨t1, os, rfl, upd_same, by omega, fun H5 e5 => ?_⟩
    refine ⟨_, rfl, scal_am _ _, _, rfl, iteF' (by rw [decide_eq_true rfl]; rfl) ?_⟩
    have d5 := (d2.ex e4).ex ((Ex.new (o := .tup (os.map amV)) ht1).trans e5)
    have two : ∀ (y j : Int), 0 ≤ j → j < 2 → ∃ a : Option Int, atI [V.non, .int y] j = some (amV a) := fun y j j0 j1 => by
      have hj : j = 0 ∨ j = 1 := by omega
      rcases hj with rfl | rfl
      · exact ⟨none, atI_nat (j := 0) rfl⟩
      · exact ⟨some y, atI_nat (j := 1) rfl⟩
    refine ⟨[some (.ref D), some (.ref P), some (amV (totalO os)), some (amV (leastO os)), v4, none, none, none, none, none, none], rfl, ?_⟩
    refine ⟨_, rfl, D, 24, rfl, d5, by decide, fun y1 H6 _ _ k6 d6 => ⟨_, _, rfl, rfl, (by show 2 ≤ sizeLine; decide), fun l1 hl1 => ⟨_, rfl, D, 2, rfl, d6.ex (Ex.new hl1), by decide, fun j1 H7 j10 j11 k7 d7 => ?_⟩⟩⟩
    obtain ⟨a, ha⟩ := two (y1 - 9) j1 j10 j11
    refine ⟨l1, _, j1, amV a, rfl, rfl, SqL.of (k7 _ _ (Kp.ne d6 hl1) upd_same), ha, ?_⟩
    refine ⟨[some (.ref D), some (.ref P), some (amV (totalO os)), some (amV (leastO os)), v4, some (amV a), none, none, none, none, none], rfl, ?_⟩
    refine ⟨_, rfl, D, 24, rfl, d7, by decide, fun y2 H8 _ _ k8 d8 => ⟨_, _, rfl, rfl, (by show 2 ≤ sizeLine; decide), fun l2 hl2 => ⟨_, rfl, D, 2, rfl, d8.ex (Ex.new hl2), by decide, fun j2 H9 j20 j21 k9 d9 => ?_⟩⟩⟩
    obtain ⟨o, ho⟩ := two (y2 - 9) j2 j20 j21
    refine ⟨l2, _, j2, amV o, rfl, rfl, SqL.of (k9 _ _ (Kp.ne d8 hl2) upd_same), ho, ?_⟩
    refine ⟨_, _, _, _, _, _, a, o, rfl, ?_⟩
    refine ⟨_, rfl, ?_⟩
    refine ⟨_, _, _, _, _, _, _, _, a, o, rfl, ?_⟩
    refine ⟨_, _, _, _, _, _, _, _, _, _, a, rfl, ?_⟩
    refine ⟨_, rfl, ?_⟩
    refine ⟨(by show 0 ≤ sizeLine; decide), fun S hS => ?_⟩
    have hS1 : upd H9 S (.lst []) S = some (.lst []) := upd_same
    generalize upd H9 S (.lst []) = Ha at *
    -- plus
    refine ⟨_, rfl, .inl ⟨rfl, _, SqL.of hS1⟩, ?_⟩
    simp only [tNil]
    refine ⟨_, _, rfl, .str _, .bl _, .inl ⟨rfl, ?_⟩⟩
    rintro Hb d2' eb hd hq
    refine ⟨true, T.te_BadNumber, fun _ a0 ha0 => ?_, fun q => Bool.noConfusion q⟩
    have hSb := eb _ _ hS1
    refine ⟨_, rfl, .inl ⟨rfl, _, SqL.of hSb⟩, _, rfl, rfl, rfl, d2', _, .str "one", rfl, hq, rfl, S, _, _, rfl, rfl, hSb, small1000 (by decide), ?_⟩
    have hS2 : upd Hb S (.lst ([] ++ [V.str "one"])) S = some (.lst [V.str "one"]) := upd_same
    generalize upd Hb S (.lst ([] ++ [V.str "one"])) = Hc at *
    -- gap
    refine ⟨_, rfl, .inl ⟨rfl, _, SqL.of hS2⟩, ?_⟩
    simp only [tNil]
    refine ⟨none, .non, rfl, .non, .inl ⟨rfl, ?_⟩⟩
    rintro Hd d3' ed hd3 hq3
    refine ⟨true, T.te_BadNumber, fun _ a0 ha0 => ?_, fun q => Bool.noConfusion q⟩
    have hSd := ed _ _ hS2
    refine ⟨_, rfl, .inl ⟨rfl, _, SqL.of hSd⟩, _, rfl, rfl, rfl, d3', _, .str "other", rfl, hq3, rfl, S, _, _, rfl, rfl, hSd, small1000 (by decide), ?_⟩
    have hS3 : upd Hd S (.lst ([V.str "one"] ++ [V.str "other"])) S = some (.lst [V.str "one", .str "other"]) := upd_same
    generalize upd Hd S (.lst ([V.str "one"] ++ [V.str "other"])) = He at *
    -- total
    refine ⟨_, rfl, .inl ⟨rfl, _, SqL.of hS3⟩, ?_⟩
    simp only [tNil]
    refine ⟨(by show 2 ≤ sizeLine; decide), fun l3 hl3 => ?_⟩
    have e6 := Ex.new (o := .lst [V.int 0, .str "1"]) hl3
    refine ⟨l3, _, rfl, upd_same, ?_, (by show 2 ≤ 100; decide), .inr ⟨rfl, ?_⟩⟩
    · intro z hz
      rcases List.mem_cons.mp hz with rfl | hz
      · exact .int _
      · rw [List.mem_singleton.mp hz]
        exact .str _
    rintro Hf d4' ef hd4 hq4
    refine ⟨true, T.te_BadNumber, fun _ a0 ha0 => ?_, fun q => Bool.noConfusion q⟩
    have hSf := (e6.trans ef) _ _ hS3
    refine ⟨_, rfl, .inl ⟨rfl, _, SqL.of hSf⟩, _, rfl, rfl, rfl, d4', _, .str "row", rfl, hq4, rfl, S, _, _, rfl, rfl, hSf, small1000 (by decide), ?_⟩
    have hS4 : upd Hf S (.lst ([V.str "one", .str "other"] ++ [V.str "row"])) S = some (.lst [V.str "one", .str "other", .str "row"]) := upd_same
    generalize upd Hf S (.lst ([V.str "one", .str "other"] ++ [V.str "row"])) = Hg at *
    refine ⟨_, rfl, (by show 3 ≤ sizeLine; decide), fun l4 hl4 => ?_⟩
    have e7 := Ex.new (o := .lst [V.str "one", .str "other", .str "row"]) hl4
    refine ⟨flD _, flD _, dp_fl (e7 _ _ hS4) rfl, dp_fl upd_same rfl, shaped_fl _, shaped_fl _, ?_⟩
    rw [eqv_fl]
    exact k _
end
end K00


set_option Elab.async false
set_option linter.all false
set_option maxRecDepth 100000
set_option maxHeartbeats 4000000
namespace IsE
open PySem PySem.Spec PyProof.Rows L2
/-- isinstance(e, c), e the exception that the suite holds, without a dict -/
def rIsN (K : PySem.W.Frag) (D a : Addr) (cls : Value) (d : Option Addr) : List V → Hp → VK → Prop := fun xs H Q => cls = .ref D ∧ d = none ∧ rIsE K D a xs H Q
theorem call_isN {X : Cx} {a D : Addr} {oe : Obj} {cls : Value} {d : Option Addr} {pn : List (Addr × Obj)} (C : ExcC X.K D) (hz : Zc cls d oe) (hf : ∃ vs, oe.data = .fields vs) : CallR (X.suite a ((a, oe) :: pn)) (.builtin "isinstance") (rIsN X.K D a cls d) := by
  intro pins s σ H xs us Q I r h
  obtain ⟨rfl, rfl, h⟩ := h
  exact call_isE C hz hf pins s σ H xs us Q I r h
end IsE
namespace K00
open PySem PySem.Spec PyProof.Rows L2 RZ StX
open Evl (Ex)
open IsE
def sI (n : Int) : Str := Str.ofString (toString n)
theorem sI_len {n : Int} (h : 0 ≤ n ∧ n ≤ 100) : (sI n).length ≤ 102 := by
  have := PyProof.Rows.len_str_of_int n
  unfold sI
  omega
theorem log_small {n : Int} (h : 0 ≤ n ∧ n ≤ 100) : n.natAbs.log2 < 1920 := by
  have h1 : n.natAbs < 2 ^ 1920 := Nat.lt_of_le_of_lt (show n.natAbs ≤ 100 by omega) (by decide)
  by_cases c : n.natAbs = 0
  · rw [c]; decide
  · exact (Nat.log2_lt c).mpr h1
theorem empty_app (x : Str) : ("" : Str) ++ x = x := by
  obtain ⟨c⟩ := x
  show (⟨("" : Str).cps ++ c⟩ : Str) = ⟨c⟩
  have e : ("" : Str).cps = #[] := by decide +kernel
  rw [e]
  simp
def rLenX (K : PySem.W.Frag) : List V → Hp → VK → Prop := fun xs H Q => ∃ p ys, xs = [.ref p] ∧ (SqL K H p ys ∨ SqT K H p ys) ∧ Q (.int ys.length) H
theorem call_lenX {X : Cx} {K : PySem.W.Frag} (h : X.K = K) : CallR X (.builtin "len") (rLenX K) := by
  subst h
  exact call_len_seq
section
variable {w : World} {K : PySem.W.Frag} {mg : Str → Option Value} {base : Heap}
def kindV (kd : Str) : V := if kd = "join" then .non else .bl true
def spChecks (K : PySem.W.Frag) : Sp := fun vs H Q _ => ∃ (x R G : Addr) (kd : Str) (s : Nat) (us us0 : List V) (rs : List (Int × Int)) (gs : List Int) (wd : Int), vs = [.ref x, .str kd, .int s, .ref R, .ref G, .int wd] ∧ Mkt K H x kd (s : Int) us rs gs ∧ (kd = "join" ∨ kd = "lap") ∧ 1 ≤ s ∧ s ≤ 50 ∧ us.length < 50 ∧
  H R = some (.lst us0) ∧ us0.length = us.length ∧ H G = some (.lst (gs.map V.int)) ∧ ∀ H', Ex H H' → Q (.bl true) H'
theorem sc_checks : FnScope ["_law_market_here", "_law_kind_here", "_law_size", "_law_runs", "_law_absent", "_law_wanted", "_law_told", "error", "_law_part", "_law_found", "_law_place"] ["_law_market_here", "_law_kind_here", "_law_size", "_law_runs", "_law_absent", "_law_wanted"] (defScope s__law_checks_right) := ⟨rfl, rfl, rfl, by decide +kernel, rfl, by decide +kernel, by decide +kernel⟩
theorem has_checks (T : Ctx K mg) : Has w K mg base CX0 "_law_checks_right" 6 ["_law_market_here", "_law_kind_here", "_law_size", "_law_runs", "_law_absent", "_law_wanted"] (spChecks K) := by
  obtain ⟨f1, fd1, m1, kp1, F1, b1⟩ := has_check_join (w := w) (base := base) T
  obtain ⟨f2, fd2, m2, kp2, F2, b2⟩ := has_check_run (w := w) (base := base) T
  obtain ⟨f3, fd3, m3, kp3, F3, b3⟩ := has_part_there (w := w) (base := base) T
  obtain ⟨f4, fd4, m4, kp4, F4, b4⟩ := has_demand_of (w := w) (base := base) T
  refine has_of (st := s__law_checks_right) (f := He.ga K "_law_checks_right") T.d__law_checks_right T.g__law_checks_right (fun _ _ _ _ _ _ us hl => match us, hl with | [_, _, _, _, _, _], _ => rfl) fun fd F => ?_
  refine okZ F sc_checks (fun vs H Q E h => ?_) (fun cdv A0 outer s0 H vs Q E hr h => ?_)
  · obtain ⟨x, R, G, kd, s, us, us0, rs, gs, wd, rfl, _⟩ := h
    rfl
  · obtain ⟨x, R, G, kd, s, us, us0, rs, gs, wd, rfl, M, hkd, hs1, hs50, hu50, hR, hl0, hG, k⟩ := h
    have nd := sc_checks.nd
    have hu := hr.units
    have r2 := hr.mono (show 2 ≤ 5 by decide)
    have r4 := hr.mono (show 4 ≤ 5 by decide)
    refine ⟨_, pss_cons (ps_set (i := 6) nd rfl (.inl rfl) (pe_lst pa_nil))
      (pss_cons ((ps_try_as (i := 7) (c := .ref (He.ga K "NotJoin")) (Wout := fun _ _ _ _ => False) rfl rfl nd rfl rfl ⟨by rfl, by decide, .inl T.g_NotJoin⟩ takes0
        (fun W pn xe tk hp => pss_one (ps_expr (pe_bmK (K := K) rfl PySem.F.plainAttrs_list PySem.F.slot_list_append PySem.F.type_list_append mt_append (pv 6) (pa_cons (pe_callS F1 r2 (by rfl) m1 kp1 b1 (fun σ => passAt tk σ) (pa_cons (pv 0) pa_nil)) pa_nil))))
        (fun a oe cls d pn hz hf => pss_one (ps_expr (pe_bmK (K := K) rfl PySem.F.plainAttrs_list PySem.F.slot_list_append PySem.F.type_list_append mt_append (pv 6) (pa_cons (pe_callB (call_isN T.ec_NotJoin hz hf) (by rfl) T.b_isinstance (by decide +kernel) (pa_cons (pv 7) (pa_cons (pe_glob (v := .ref (He.ga K "PartsError")) (by rfl) T.g_PartsError (by rfl)) pa_nil))) pa_nil))))).imp
            (t' := fun De σ H' => ∃ S : Addr, σ = [some (.ref x), some (.str kd), some (.int s), some (.ref R), some (.ref G), some (.int wd), some (.ref S), none, none, none, none] ∧ H S = none ∧ Ex H H' ∧ H' S = some (.lst []) ∧ ∀ H2, Ex H H2 → H2 S = some (.lst [kindV kd]) → De.nx [some (.ref x), some (.str kd), some (.int s), some (.ref R), some (.ref G), some (.int wd), some (.ref S), none, none, none, none] H2) ?c1)
      (pss_cons (ps_try_as (i := 7) (c := .ref (He.ga K "BadRun")) (Wout := fun _ _ _ _ => False) rfl rfl nd rfl rfl ⟨by rfl, by decide, .inl T.g_BadRun⟩ takes0
        (fun W pn xe tk hp => pss_one (ps_expr (pe_bmK (K := K) rfl PySem.F.plainAttrs_list PySem.F.slot_list_append PySem.F.type_list_append mt_append (pv 6) (pa_cons (pe_callS F2 r4 (by rfl) m2 kp2 b2 (fun σ => passAt tk σ) (pa_cons (pv 0) (pa_cons (pe_tup (pa_cons (pv 2) (pa_cons (pv 2) pa_nil))) pa_nil))) pa_nil))))
        (fun a oe cls d pn hz hf => pss_one (ps_expr (pe_bmK (K := K) rfl PySem.F.plainAttrs_list PySem.F.slot_list_append PySem.F.type_list_append mt_append (pv 6) (pa_cons (pe_xf T.xf_BadRun T.xnn_BadRun hz hf (pv 7)) pa_nil)))))
      (pss_cons (ps_try_as (i := 7) (c := .ref (He.ga K "BadPart")) (Wout := fun _ _ _ _ => False) rfl rfl nd rfl rfl ⟨by rfl, by decide, .inl T.g_BadPart⟩ takes0
        (fun W pn xe tk hp => pss_one (ps_expr (pe_bmK (K := K) rfl PySem.F.plainAttrs_list PySem.F.slot_list_append PySem.F.type_list_append mt_append (pv 6) (pa_cons (pe_callS F3 r4 (by rfl) m3 kp3 b3 (fun σ => passAt tk σ) (pa_cons (pv 0) (pa_cons (pe_callB (call_lenX (K := K) rfl) (by rfl) T.b_len PySem.boot_len (pa_cons (pv 3) pa_nil)) pa_nil))) pa_nil))))
        (fun a oe cls d pn hz hf => pss_one (ps_expr (pe_bmK (K := K) rfl PySem.F.plainAttrs_list PySem.F.slot_list_append PySem.F.type_list_append mt_append (pv 6) (pa_cons (pe_xf T.xf_BadPart T.xnn_BadPart hz hf (pv 7)) pa_nil)))))
      (pss_cons ((ps_if (PW.pt (pw_or (pt_cmpR (op_neD hu) (pv 6) (pe_lst (pa_cons (pe_ifExp (pt_cmpR op_eq (pv 1) pe_str (nomark _)) pe_non pe_bl) (pa_cons (pe_un un_neg pe_int) (pa_cons (pe_callB call_len_seq (by rfl) T.b_len PySem.boot_len (pa_cons (pv 3) pa_nil)) pa_nil)))) (nomark _)) (pw_or1 (pt_cmpR (op_neD hu) (pe_call F2 r4 (by rfl) m2 kp2 b2 .nil (E := E0) (pass_none rfl rfl) (pa_cons (pv 0) (pa_cons (pe_lst (pa_cons pe_int (pa_cons (pv 2) pa_nil))) pa_nil))) (pe_tup (pa_cons pe_int (pa_cons (pv 2) pa_nil))) (nomark _))))) (pss_one (ps_ret pe_bl)) pss_nil).imp
            (t' := fun De σ H' => ∃ S : Addr, σ = [some (.ref x), some (.str kd), some (.int s), some (.ref R), some (.ref G), some (.int wd), some (.ref S), none, none, none, none] ∧ Ex H H' ∧ H' S = some (.lst [kindV kd, .int (-1), .int (us0.length : Nat)]) ∧ ∀ H2, Ex H H2 → De.nx [some (.ref x), some (.str kd), some (.int s), some (.ref R), some (.ref G), some (.int wd), some (.ref S), none, none, none, none] H2) ?c2)
      (pss_cons (ps_if (pt_cmpR (op_neD hu) (pe_call F4 r2 (by rfl) m4 kp4 b4 .nil (E := E0) (pass_none rfl rfl) (pa_cons (pv 0) (pa_cons (pv 5) pa_nil))) (pe_callTy call_tuple_of (by rfl) T.b_tuple (by decide +kernel) (pa_cons
          (pe_lc (own := [("_law_place", 10)]) (g := gName 10) (tt := tYes) rfl nd (pi_range1 (by rfl) T.b_range (pa_cons (pv 2) pa_nil)) (blkOk_by (own := [("_law_place", 10)]) (N := ["_law_market_here", "_law_kind_here", "_law_size", "_law_runs", "_law_absent", "_law_wanted", "_law_told", "error", "_law_part", "_law_found", "_law_place"]) (sc := defScope s__law_checks_right) (by decide +kernel)) (fun _ _ _ _ _ => pg_name (i := 10) nd rfl (Or.inl rfl)) (fun _ _ _ _ _ => pts_nil) (fun _ _ _ _ _ => pv 5)) pa_nil)) (nomark _)) (pss_one (ps_ret pe_bl)) pss_nil)
      (pss_cons (PS.nrm (ps_for (passes_of rfl) rfl (pi_range1 (by rfl) T.b_range (pa_cons (pe_callB call_len_seq (by rfl) T.b_len PySem.boot_len (pa_cons (pv 3) pa_nil)) pa_nil)) (pg_name (i := 8) nd rfl (.inl rfl))
        (pss_cons (ps_set (i := 9) nd rfl (.inl rfl) pe_str)
        (pss_cons (ps_try_as (i := 7) (c := .ref (He.ga K "IsGone")) (Wout := fun _ _ _ _ => False) rfl rfl nd rfl rfl ⟨by rfl, by decide, .inl T.g_IsGone⟩ takes0
          (fun W pn xe tk hp => pss_one (ps_set (i := 9) nd rfl (.inl rfl) (pe_callTy call_str_int (by rfl) T.b_str (by decide +kernel) (pa_cons (pe_callS F3 r4 (by rfl) m3 kp3 b3 (fun σ => passAt tk σ) (pa_cons (pv 0) (pa_cons (pv 8) pa_nil))) pa_nil))))
          (fun a oe cls d pn hz hf => pss_one (ps_set (i := 9) nd rfl (.inl rfl) (pe_op op_add_str pe_str (pe_callTy call_str_int (by rfl) T.b_str (by decide +kernel) (pa_cons (pe_xf T.xf_IsGone T.xnn_IsGone hz hf (pv 7)) pa_nil))))))
        (pss_one (ps_if (pt_cmpR op_ne (pv 9) (pe_op op_add_str (pe_ix ix_list (pe_lst (pa_cons pe_str (pa_cons pe_str pa_nil))) (pe_callTy call_int1 (by rfl) T.b_int (by decide +kernel) (pa_cons (pe_cmpR op_in_seq (pv 8) (pv 4) (by rfl)) pa_nil)) (fun _ _ => rfl)) (pe_callTy call_str_int (by rfl) T.b_str (by decide +kernel) (pa_cons (pv 8) pa_nil))) (nomark _)) (pss_one (ps_ret pe_bl)) pss_nil))))))
      (pss_one (ps_ret pe_bl)))))))), ?_⟩
    case c1 =>
      rintro De σ H1 ⟨S, rfl, hS, e1, hS1, kk⟩
      refine ⟨_, rfl, .inl ⟨rfl, _, SqL.of hS1⟩, ?_⟩
      refine ⟨_, rfl, ?_⟩
      simp only [tNil]
      rcases hkd with rfl | rfl
      · refine ⟨x, _, s, us, rs, gs, rfl, M.ex e1, .inl ⟨rfl, S, _, _, rfl, rfl, hS1, small1000 (by decide), ?_⟩⟩
        exact kk _ (Evl.Ex.mut e1 hS) (by rw [upd_same]; rfl)
      · refine ⟨x, _, s, us, rs, gs, rfl, M.ex e1, .inr ⟨by decide +kernel, ?_⟩⟩
        refine ⟨true, T.te_NotJoin, fun _ a0 ha0 => ?_, fun q => Bool.noConfusion q⟩
        refine ⟨_, rfl, .inl ⟨rfl, _, SqL.of hS1⟩, _, rfl, rfl, rfl, _, _, true, rfl, fun u r => r, T.ki_NotJoin_PartsError, S, _, _, rfl, rfl, hS1, small1000 (by decide), ?_⟩
        exact kk _ (Evl.Ex.mut e1 hS) (by rw [upd_same]; rfl)
    case c2 =>
      rintro De σ H1 ⟨S, rfl, e1, hS1, kk⟩
      rcases hkd with rfl | rfl
      · refine ⟨_, rfl, _, rfl, rfl, _, rfl, iteT' (decide_eq_true rfl) ?_⟩
        refine ⟨_, rfl, _, rfl, R, _, rfl, .inl (SqL.of (e1 _ _ hR)), (by show 3 ≤ sizeLine; decide), fun l hl => ?_⟩
        have e2 := Ex.new (o := .lst [V.non, V.int (-1), .int (us0.length : Nat)]) hl
        refine ⟨flD [V.non, V.int (-1), .int (us0.length : Nat)], flD [V.non, V.int (-1), .int (us0.length : Nat)], dp_fl (e2 _ _ hS1) rfl, dp_fl upd_same rfl, shaped_fl _, shaped_fl _, _, rfl, iteF' (by rw [eqv_fl]; rfl) ?_⟩
        have e12 := e1.trans e2
        refine ⟨_, rfl, _, rfl, (by show 2 ≤ sizeLine; decide), fun l2 hl2 => ?_⟩
        have e3 := Ex.new (o := .lst [V.int 0, .int s]) hl2
        refine ⟨x, l2, _, s, us, rs, gs, (0, s), rfl, M.ex (e12.trans e3), .inl upd_same, .inl ⟨⟨Int.le_refl _, by show (0 : Int) < s; omega, Int.le_refl _⟩, fun H4 q e4 hq => ?_⟩⟩
        refine ⟨_, rfl, (by show 2 ≤ sizeLine; decide), fun t3 ht3 => ?_⟩
        have e5 := Ex.new (o := .tup [V.int 0, .int s]) ht3
        refine ⟨itD [0, s], itD [0, s], dp_it (e5 _ _ hq), dp_it upd_same, shaped_it _, shaped_it _, _, rfl, iteF' (by rw [eqv_itB, decide_eq_true rfl]; rfl) ?_⟩
        exact kk _ (((e12.trans e3).trans e4).trans e5)
      · refine ⟨_, rfl, _, rfl, rfl, _, rfl, iteF' (by decide +kernel) ?_⟩
        refine ⟨_, rfl, _, rfl, R, _, rfl, .inl (SqL.of (e1 _ _ hR)), (by show 3 ≤ sizeLine; decide), fun l hl => ?_⟩
        have e2 := Ex.new (o := .lst [V.bl true, V.int (-1), .int (us0.length : Nat)]) hl
        refine ⟨flD [V.bl true, V.int (-1), .int (us0.length : Nat)], flD [V.bl true, V.int (-1), .int (us0.length : Nat)], dp_fl (e2 _ _ hS1) rfl, dp_fl upd_same rfl, shaped_fl _, shaped_fl _, _, rfl, iteF' (by rw [eqv_fl]; rfl) ?_⟩
        have e12 := e1.trans e2
        refine ⟨_, rfl, _, rfl, (by show 2 ≤ sizeLine; decide), fun l2 hl2 => ?_⟩
        have e3 := Ex.new (o := .lst [V.int 0, .int s]) hl2
        refine ⟨x, l2, _, s, us, rs, gs, (0, s), rfl, M.ex (e12.trans e3), .inl upd_same, .inl ⟨⟨Int.le_refl _, by show (0 : Int) < s; omega, Int.le_refl _⟩, fun H4 q e4 hq => ?_⟩⟩
        refine ⟨_, rfl, (by show 2 ≤ sizeLine; decide), fun t3 ht3 => ?_⟩
        have e5 := Ex.new (o := .tup [V.int 0, .int s]) ht3
        refine ⟨itD [0, s], itD [0, s], dp_it (e5 _ _ hq), dp_it upd_same, shaped_it _, shaped_it _, _, rfl, iteF' (by rw [eqv_itB, decide_eq_true rfl]; rfl) ?_⟩
        exact kk _ (((e12.trans e3).trans e4).trans e5)
    refine ⟨(by show 0 ≤ sizeLine; decide), fun S hS => ?_⟩
    have e0 : Ex H (upd H S (.lst [])) := Ex.new hS
    refine ⟨S, rfl, hS, e0, upd_same, fun H1 e1 hS1 => ?_⟩
    -- a wrong run
    refine ⟨_, rfl, .inl ⟨rfl, _, SqL.of hS1⟩, ?_⟩
    refine ⟨_, rfl, _, rfl, _, rfl, (by show 2 ≤ sizeLine; decide), fun t ht => ?_⟩
    have e2 := Ex.new (o := .tup [V.int s, .int s]) ht
    simp only [tNil]
    refine ⟨x, t, kd, s, us, rs, gs, (s, s), rfl, M.ex (e1.trans e2), .inr upd_same, .inr ⟨fun z => Int.lt_irrefl _ z.2.1, ?_⟩⟩
    rintro H3 d' e3 hd hq
    refine ⟨true, T.te_BadRun, fun _ a0 ha0 => ?_, fun q => Bool.noConfusion q⟩
    have hS3 := (e2.trans e3) _ _ hS1
    have e13 := (e1.trans e2).trans e3
    refine ⟨_, rfl, .inl ⟨rfl, _, SqL.of hS3⟩, _, rfl, rfl, rfl, d', _, .int (-1), rfl, hq, rfl, S, _, _, rfl, rfl, hS3, small1000 (by show 1 ≤ 1000; decide), ?_⟩
    have e4 := Evl.Ex.mut (o := .lst ([kindV kd] ++ [V.int (-1)])) e13 hS
    have hS4 : upd H3 S (.lst ([kindV kd] ++ [V.int (-1)])) S = some (.lst [kindV kd, .int (-1)]) := upd_same
    generalize upd H3 S (.lst ([kindV kd] ++ [V.int (-1)])) = H4 at *
    -- a wrong part
    refine ⟨_, rfl, .inl ⟨rfl, _, SqL.of hS4⟩, ?_⟩
    refine ⟨_, rfl, _, rfl, R, _, rfl, .inl (SqL.of (e4 _ _ hR)), ?_⟩
    simp only [tNil]
    refine ⟨x, kd, s, us, rs, gs, _, rfl, M.ex e4, .inr ⟨by omega, ?_⟩⟩
    rintro H5 d5' e5 hd5 hq5
    refine ⟨true, T.te_BadPart, fun _ a0 ha0 => ?_, fun q => Bool.noConfusion q⟩
    have hS5 := e5 _ _ hS4
    refine ⟨_, rfl, .inl ⟨rfl, _, SqL.of hS5⟩, _, rfl, rfl, rfl, d5', _, .int (us0.length : Nat), rfl, hq5, rfl, S, _, _, rfl, rfl, hS5, small1000 (by show 2 ≤ 1000; decide), ?_⟩
    refine ⟨S, rfl, Evl.Ex.mut (e4.trans e5) hS, upd_same, fun H6 e6 => ?_⟩
    -- the demand
    refine ⟨_, rfl, _, rfl, x, kd, s, us, rs, gs, .int wd, rfl, M.ex e6, hs50, .inl ⟨List.replicate s wd, .inl ⟨wd, rfl, rfl⟩, fun H7 q e7 hq => ?_⟩⟩
    refine ⟨_, rfl, _, rfl, by omega, by omega, fun P hP => lc_it walk_range (fun i H' => Ex H7 H' ∧ H' P = some (.lst ((List.replicate i wd).map V.int))) ⟨Ex.new hP, upd_same⟩ (fun _ _ _ _ => trivial) ?_ ?_⟩
    · rintro i y H8 H9 hi ⟨e8, hP8⟩ ⟨rfl, rfl⟩
      refine ⟨rfl, tYesI ⟨_, rfl, _, hP8, by rw [List.length_map, List.length_replicate]; exact small1000 (by omega), Evl.Ex.mut e8 hP, ?_⟩⟩
      rw [upd_same, List.replicate_succ', List.map_append]
      rfl
    rintro H8 ⟨e8, hP8⟩
    rw [Int.toNat_natCast] at hP8
    refine ⟨P, _, rfl, .inl ⟨SqL.of hP8, fun t2 ht2 => ?_⟩⟩
    have e9 := Ex.new (o := .tup ((List.replicate s wd).map V.int)) ht2
    refine ⟨itD (List.replicate s wd), itD (List.replicate s wd), dp_it ((e8.trans e9) _ _ hq), dp_it upd_same, shaped_it _, shaped_it _, _, rfl, iteF' (by rw [eqv_itB, decide_eq_true rfl]; rfl) ?_⟩
    have e10 := ((e6.trans e7).trans e8).trans e9
    generalize upd H8 t2 (.tup ((List.replicate s wd).map V.int)) = Ha at *
    refine ⟨_, rfl, ?_⟩
    refine ⟨_, rfl, R, _, rfl, .inl (SqL.of (e10 _ _ hR)), _, rfl, by omega, by omega, for_it walk_range (fun i σ H' => (∃ v6 v7 v8 v9 v10 : Option V, σ = [some (.ref x), some (.str kd), some (.int s), some (.ref R), some (.ref G), some (.int wd), v6, v7, v8, v9, v10]) ∧ Ex H H') ⟨⟨_, _, _, _, _, rfl⟩, e10⟩ (fun _ _ _ _ _ => trivial) ?_ ?_⟩
    · rintro i y σ Hb Hc hi ⟨⟨v6, v7, v8, v9, v10, rfl⟩, eb⟩ ⟨rfl, rfl⟩
      have hiu : i < us.length := by omega
      show gName 8 (.int (0 + (i : Int))) _ Hc _
      rw [show (0 + (i : Int)) = (i : Int) by omega]
      have hl100 : (0 : Int) ≤ (i : Int) ∧ (i : Int) ≤ 100 := by omega
      have slen := sI_len hl100
      refine ⟨_, rfl, _, rfl, ?_⟩
      simp only [tNil]
      refine ⟨x, kd, s, us, rs, gs, (i : Int), rfl, M.ex eb, .inl ⟨by omega, ?_⟩⟩
      by_cases c : (i : Int) ∈ gs
      · refine .inr ⟨c, ?_⟩
        rintro Hd d6' ed hd6 hq6
        refine ⟨true, T.te_IsGone, fun _ a0 ha0 => ?_, fun q => Bool.noConfusion q⟩
        refine ⟨_, rfl, rfl, rfl, d6', _, .int (i : Int), rfl, hq6, rfl, (i : Int), rfl, log_small hl100, ?_⟩
        refine ⟨_, _, rfl, rfl, sz1000 (by have h3 : ("gone" : Str).length = 4 := (by decide +kernel); show ("gone" : Str).length + (sI (i : Int)).length ≤ 1000; omega), ?_⟩
        refine ⟨_, rfl, (by show 2 ≤ sizeLine; decide), fun l hl => ?_⟩
        have e11 := (eb.trans ed).trans (Ex.new (o := .lst [V.str "", .str "gone"]) hl)
        refine ⟨_, rfl, _, rfl, G, _, rfl, .inl (SqL.of (e11 _ _ hG)), rfl, flat_ints gs, .inr ⟨true, by rw [inV_ints, decide_eq_true c]; rfl, ?_⟩⟩
        refine ⟨l, _, 1, _, rfl, rfl, SqL.of upd_same, atI_nat (j := 1) rfl, ?_⟩
        refine ⟨_, rfl, (i : Int), rfl, log_small hl100, ?_⟩
        refine ⟨_, _, rfl, rfl, sz1000 (by have h3 : ("gone" : Str).length = 4 := (by decide +kernel); show ("gone" : Str).length + (sI (i : Int)).length ≤ 1000; omega), ?_⟩
        refine ⟨rfl, _, rfl, iteF' (by rw [decide_eq_true rfl]; rfl) ⟨⟨_, _, _, _, _, rfl⟩, e11⟩⟩
      · refine .inl ⟨c, fun Hd ed => ⟨_, rfl, log_small hl100, ?_⟩⟩
        refine ⟨_, rfl, (by show 2 ≤ sizeLine; decide), fun l hl => ?_⟩
        have e11 := (eb.trans ed).trans (Ex.new (o := .lst [V.str "", .str "gone"]) hl)
        refine ⟨_, rfl, _, rfl, G, _, rfl, .inl (SqL.of (e11 _ _ hG)), rfl, flat_ints gs, .inr ⟨false, by rw [inV_ints, decide_eq_false c]; rfl, ?_⟩⟩
        refine ⟨l, _, 0, _, rfl, rfl, SqL.of upd_same, atI_nat (j := 0) rfl, ?_⟩
        refine ⟨_, rfl, (i : Int), rfl, log_small hl100, ?_⟩
        refine ⟨_, _, rfl, rfl, sz1000 (by have h3 : ("" : Str).length = 0 := (by decide +kernel); show ("" : Str).length + (sI (i : Int)).length ≤ 1000; omega), ?_⟩
        refine ⟨rfl, _, rfl, iteF' (by show (!decide (V.str (sI (i : Int)) = V.str (("" : Str) ++ sI (i : Int)))) = false; rw [empty_app, decide_eq_true rfl]; rfl) ⟨⟨_, _, _, _, _, rfl⟩, e11⟩⟩
    · rintro σ Hb ⟨_, eb⟩
      exact k _ eb
end
end K00


set_option Elab.async false
set_option linter.all false
set_option maxRecDepth 100000
set_option maxHeartbeats 1000000
/-! a < b of data that are alike: (number, tuple of numbers) pairs. -/
namespace L2
open PySem PySem.Spec PyProof.Rows
open PySem.W (dataLt alike)
def rLtD (K : PySem.W.Frag) : R2 := fun x y H Q => ∃ d e, Dp K H x d ∧ Dp K H y e ∧ alike d e = true ∧ d ≠ .none ∧ d.depth ≤ 60 ∧ Q (.bl (dataLt d e)) H
theorem op_ltD {X : Cx} (hu : X.A.units + 64 < cLine) : OpR X (compareOp .Lt) (rLtD X.K) := by
  intro pins s σ H x y v u Q I rx ry h
  obtain ⟨d, e, hd, he, ha, hn, hdp, q⟩ := h
  obtain ⟨as, r1⟩ := Dp.reads I d x v hd rx
  obtain ⟨bs, r2⟩ := Dp.reads I e y u he ry
  exact PySem.W.lt_data r1 r2 ha hn (by have := Nat.min_le_left d.depth e.depth; omega) ⟨.bl _, H, I, rfl, q⟩
/-- (n, a tuple of numbers) -/
def plD (n : Int) (xs : List Int) : PyData := .tuple [.int n, .tuple (xs.map .int)]
theorem listLt_ints : ∀ xs ys : List Int, PySem.W.listLt xs ys = HT.lexLt xs ys
  | [], [] => rfl
  | [], _ :: _ => rfl
  | _ :: _, [] => rfl
  | x :: xs, y :: ys => by
    rw [PySem.W.listLt, HT.lexLt_cons, listLt_ints xs ys]
    rfl
theorem plD_to (n : Int) (xs : List Int) : plD n xs = PySem.W.Datum.toD ((n, ⟨xs⟩) : Int × PySem.W.Tup Int) := rfl
theorem lt_pl (n m : Int) (xs ys : List Int) : dataLt (plD n xs) (plD m ys) = if n = m then HT.lexLt xs ys else decide (n < m) := by
  rw [plD_to, plD_to, PySem.W.DatumOrd.lt_eq]
  show (if n = m then PySem.W.listLt xs ys else decide (n < m)) = _
  rw [listLt_ints]
theorem alike_pl (n m : Int) (xs ys : List Int) : alike (plD n xs) (plD m ys) = true := by
  rw [plD_to, plD_to]
  exact PySem.W.DatumOrd.alike _ _
theorem depth_pl (n : Int) (xs : List Int) : (plD n xs).depth ≤ 60 := by
  rw [plD_to]
  exact Nat.le_trans (PySem.W.Datum.depth_le _) (by decide)
end L2


set_option Elab.async false
set_option linter.all false
set_option maxRecDepth 100000
set_option maxHeartbeats 1000000
/-! the rows of ascending places, one behind another: pure. -/
namespace SubM
open PySem PySem.Spec PyProof.Rows L2
/-- from the places k - 1, k - 2, .. the first that can be raised -/
def nextPl (ps : List Int) (m : Int) : Nat → Option (List Int)
  | 0 => none
  | k + 1 => if ps.getD k 0 < m - (ps.length : Nat) + (k : Nat) then some (ps.take k ++ (List.range (ps.length - k)).map fun j => ps.getD k 0 + 1 + (j : Nat)) else nextPl ps m k
def chainPl (m : Int) : Nat → List Int → List (List Int)
  | 0, _ => []
  | f + 1, ps => ps :: (match nextPl ps m ps.length with | none => [] | some q => chainPl m f q)
def sizeRow (s : Nat) : List Int := (List.range s).map fun i => ((i : Nat) : Int)
def rowsOf (m s : Nat) : List (List Int) := chainPl m 20 (sizeRow s)
def allRows (m : Nat) : List (List Int) := (List.range (m + 1)).flatMap (rowsOf m)
theorem rows_next : ∀ m, m < 5 → ∀ s, s < m + 1 → ∀ j, j < (rowsOf m s).length → nextPl ((rowsOf m s).getD j []) m ((rowsOf m s).getD j []).length = (rowsOf m s)[j + 1]? := by decide +kernel
theorem rows_size : ∀ m, m < 5 → ∀ s, s < m + 1 → ∀ j, j < (rowsOf m s).length → ((rowsOf m s).getD j []).length ≤ 4 := by decide +kernel
theorem rows_head : ∀ m, m < 5 → ∀ s, s < m + 1 → (rowsOf m s)[0]? = some (sizeRow s) := by decide +kernel
theorem rows_in : ∀ m, m < 5 → ∀ s, s < m + 1 → ∀ j, j < (rowsOf m s).length → ∀ x, x ∈ (rowsOf m s).getD j [] → 0 ≤ x ∧ x < m := by decide +kernel
theorem all_len : ∀ m, m < 5 → (allRows m).length = [1, 2, 4, 8, 16].getD m 0 := by decide +kernel
theorem all_head : ∀ m, m < 5 → (allRows m)[0]? = some [] := by decide +kernel
theorem all_in : ∀ m, m < 5 → ∀ j, j < (allRows m).length → ∀ x, x ∈ (allRows m).getD j [] → 0 ≤ x ∧ x < m := by decide +kernel
theorem all_asc : ∀ m, m < 5 → ∀ j, j < (allRows m).length → ((allRows m).getD j []).length ≤ 4 := by decide +kernel
theorem all_rise : ∀ m, m < 5 → ∀ i, i + 1 < (allRows m).length → (((allRows m).getD i []).length < ((allRows m).getD (i + 1) []).length ∨
    ((allRows m).getD i []).length = ((allRows m).getD (i + 1) []).length ∧ HT.lexLt ((allRows m).getD i []) ((allRows m).getD (i + 1) []) = true) := by
  have h : ∀ m, m < 5 → ∀ i, i < (allRows m).length - 1 → (((allRows m).getD i []).length < ((allRows m).getD (i + 1) []).length ∨
    ((allRows m).getD i []).length = ((allRows m).getD (i + 1) []).length ∧ HT.lexLt ((allRows m).getD i []) ((allRows m).getD (i + 1) []) = true) := by decide +kernel
  exact fun m hm i hi => h m hm i (by omega)
theorem all_step (m s : Nat) : (List.range (s + 1)).flatMap (rowsOf m) = (List.range s).flatMap (rowsOf m) ++ rowsOf m s := by
  rw [List.range_succ, List.flatMap_append]
  simp
/-- the values at the places -/
def valsAt (ns ps : List Int) : List Int := ps.map fun i => ns.getD i.toNat 0
theorem lex_map (f : Int → Int) : ∀ xs ys : List Int, (∀ x ∈ xs, ∀ y ∈ ys, x < y → f x < f y) → (∀ x ∈ xs, ∀ y ∈ ys, f x = f y → x = y) → HT.lexLt xs ys = true → HT.lexLt (xs.map f) (ys.map f) = true
  | [], [], _, _, h => h
  | [], _ :: _, _, _, h => h
  | _ :: _, [], _, _, h => h
  | x :: xs, y :: ys, h1, h2, h => by
    rw [HT.lexLt_cons] at h
    rw [List.map_cons, List.map_cons, HT.lexLt_cons]
    by_cases e : x = y
    · rw [if_pos e] at h
      rw [if_pos (by rw [e])]
      exact lex_map f xs ys (fun a ha b hb => h1 a (List.mem_cons_of_mem _ ha) b (List.mem_cons_of_mem _ hb)) (fun a ha b hb => h2 a (List.mem_cons_of_mem _ ha) b (List.mem_cons_of_mem _ hb)) h
    · rw [if_neg e] at h
      rw [if_neg fun z => e (h2 x List.mem_cons_self y List.mem_cons_self z)]
      exact decide_eq_true (h1 x List.mem_cons_self y List.mem_cons_self (of_decide_eq_true h))
theorem getD_lt {ns : List Int} (h : ns.Pairwise (· < ·)) {i j : Int} (hi : 0 ≤ i) (hj : j < ns.length) (hij : i < j) : ns.getD i.toNat 0 < ns.getD j.toNat 0 := by
  have a1 : i.toNat < ns.length := by omega
  have a2 : j.toNat < ns.length := by omega
  rw [List.getD_eq_getElem?_getD, List.getD_eq_getElem?_getD, List.getElem?_eq_getElem a1, List.getElem?_eq_getElem a2]
  exact List.pairwise_iff_getElem.mp h _ _ a1 a2 (by omega)
theorem vals_lt {ns xs ys : List Int} (h : ns.Pairwise (· < ·)) (hx : ∀ x ∈ xs, 0 ≤ x ∧ x < ns.length) (hy : ∀ x ∈ ys, 0 ≤ x ∧ x < ns.length) (hl : HT.lexLt xs ys = true) : HT.lexLt (valsAt ns xs) (valsAt ns ys) = true :=
  lex_map _ xs ys (fun x mx y my e => getD_lt h (hx x mx).1 (hy y my).2 e) (fun x mx y my e => by
    have b1 := hx x mx
    have b2 := hy y my
    rcases Int.lt_trichotomy x y with c | c | c
    · have := getD_lt h b1.1 b2.2 c; omega
    · exact c
    · have := getD_lt h b2.1 b1.2 c; omega) hl
theorem vals_in {ns ps : List Int} (hp : ∀ x ∈ ps, 0 ≤ x ∧ x < ns.length) : ∀ x ∈ valsAt ns ps, x ∈ ns := fun x hx => by
  obtain ⟨i, hi, rfl⟩ := List.mem_map.mp hx
  have b := hp i hi
  have a1 : i.toNat < ns.length := by omega
  rw [List.getD_eq_getElem?_getD, List.getElem?_eq_getElem a1]
  exact List.getElem_mem a1
/-- what the list ys of tuples holds -/
def Lsd (H : Hp) (ns : List Int) (ys : List V) (rows : List (List Int)) : Prop := ys.length = rows.length ∧ ∀ (i : Nat) (l : List Int), rows[i]? = some l → ∃ q : PySem.Addr, ys[i]? = some (V.ref q) ∧ H q = some (.tup ((valsAt ns l).map V.int))
theorem Lsd.nil {H : Hp} {ns : List Int} : Lsd H ns [] [] := ⟨rfl, fun i l h => by simp at h⟩
theorem Lsd.mono {H H' : Hp} {ns : List Int} {ys : List V} {rows : List (List Int)} (e : Evl.Ex H H') (h : Lsd H ns ys rows) : Lsd H' ns ys rows := ⟨h.1, fun i l hi => by
  obtain ⟨q, h1, h2⟩ := h.2 i l hi
  exact ⟨q, h1, e _ _ h2⟩⟩
theorem Lsd.snoc {H : Hp} {ns : List Int} {ys : List V} {rows : List (List Int)} {l : List Int} {q : PySem.Addr} (h : Lsd H ns ys rows) (hq : H q = some (.tup ((valsAt ns l).map V.int))) : Lsd H ns (ys ++ [V.ref q]) (rows ++ [l]) := by
  refine ⟨by rw [List.length_append, List.length_append, h.1]; rfl, fun i l' hi => ?_⟩
  by_cases c : i < rows.length
  · rw [List.getElem?_append_left c] at hi
    obtain ⟨q', h1, h2⟩ := h.2 i l' hi
    exact ⟨q', by rw [List.getElem?_append_left (by rw [h.1]; exact c)]; exact h1, h2⟩
  · rw [List.getElem?_append_right (by omega)] at hi
    have e : i = rows.length := by
      by_cases c2 : i - rows.length = 0
      · omega
      · rw [List.getElem?_eq_none_iff.mpr (by show [l].length ≤ _; simp; omega)] at hi
        cases hi
    subst e
    rw [Nat.sub_self] at hi
    cases hi
    exact ⟨q, by rw [← h.1, List.getElem?_append_right (Nat.le_refl _), Nat.sub_self]; rfl, hq⟩
end SubM


set_option Elab.async false
set_option linter.all false
set_option maxRecDepth 100000
set_option maxHeartbeats 1000000
namespace L2
open PySem PySem.Spec PyProof.Rows GenW
section
variable {X : Cx}
/-- for in a generator: W's letters are the turn, a measure, what is out so far -/
def tGFor (wi : TI) (g : TG) (tb : TGn) : TGn := fun D ys σ H => wi σ H fun J H1 => ∃ W : Nat → Nat → List V → L2.St → Hp → Prop, (∃ m, W 0 m ys σ H1) ∧ ∀ i m ys σ H, W i m ys σ H →
  (J.stop i H ∧ D.nx ys σ H) ∨ (J.go i H ∧ ∃ N : List V → L2.St → Hp → Prop, (∀ ys' σ' H', N ys' σ' H' → ∃ m', m' < m ∧ W (i + 1) m' ys' σ' H') ∧ ∀ x H', J.yld i H x H' → g x σ H' fun σ2 H2 => tb { D with nx := N, ct := N, bk := D.nx } ys σ2 H2)
theorem seg_runOwn {M : Model} {A : Around} {R : GenEnd} {Y : Protocol} {n : Nat} {s₀ : Shared} {c code : Code} {fs : List Frame} {s : Shared} {env : Env} {K : Flow → Sem PySem.Fin} {J : Value → Sem PySem.Fin} {gd : Bool → Bool} {lv : List Value → List Value}
    (h : ∀ p, Seg M A R Y n s₀ code (M.den code) (.ret (fun r => ((match r with | .ok f => (.pure f : Sem Flow) | .error e => .raise e).onRaise (cameBack env)).wrap K J gd lv) none (gd false) (lv []) c p [] :: fs) s) :
    Seg M A R Y n s₀ c ((runOwn code env).wrap K J gd lv) fs s := seg_call h
theorem gs_for {tg iter : Expr} {body : List Stmt} {wi : TI} {g : TG} {tb : TGn} {pos : Pos} (hp : PassesOwn (model X.prog X.w) X.A X.env X.xe) (hc : X.calm = true) (hi : PI X tg iter wi) (hg : PG X tg g) (hb : GSs X body tb)
    (hs : ∀ x, foldedSetIterable iter X.env x = pure x := by intro _; rfl) : GS X (.For tg iter body [] pos) (tGFor wi g tb) := by
  refine ⟨fun A S ip R n ys s₀ c fs K J gd lv s σ H D g0 hn k hI ht => ?_⟩
  obtain ⟨acc, cc, r, I⟩ := hI
  rw [exec_For]
  refine seg_bind_wrap (wpAny_standAt ?_)
  refine seg_bind_wrap ?_
  rw [g0.over]
  refine wpAny_mono (hi.run _ s σ H _ I ht) (fun v s1 h1 => ?_) fun x s' hx => k.exc n s₀ x s' hx
  refine seg_bind_wrap (wpAny_of_eq (hs v) ?_)
  refine seg_bind_wrap (wpAny_standAt ?_)
  refine seg_bind_wrap (wpAny_holding ?_)
  rw [g0.over]
  refine wpAny_mono h1 (fun itv s2 h2 => ?_) fun x s' hx => k.exc n s₀ x s' hx
  obtain ⟨it, fp, tn, J', H2, e, I2, T, st2, f2, W, ⟨m0, w0⟩, turn⟩ := h2
  subst e
  refine seg_runOwn fun p => ?_
  have hfS : ∀ b ∈ fp, S ≠ b := fun b hb z => (f2 b hb).2.2.2.2.2 (S, lstObj acc cc) (List.mem_append_right _ List.mem_cons_self) z
  have stat : ∀ {H' : Hp} {acc' : Array Value} {cc' : Nat}, (∀ b ∈ fp, H' b = none) → ∀ b ∈ fp, FpOk X ((S, lstObj acc' cc') :: ip) H' b := fun {H' acc' cc'} hn b hb => by
    obtain ⟨_, q1, q2, q3, q4, q5⟩ := f2 b hb
    refine ⟨hn b hb, q1, q2, q3, q4, fun p hp => ?_⟩
    rcases List.mem_append.mp hp with z | z
    · exact q5 p (List.mem_append_left _ z)
    · rcases List.mem_cons.mp z with z | z
      · rw [z]; exact hfS b hb
      · exact q5 p (List.mem_append_right _ (List.mem_cons_of_mem _ z))
  have gl := fun (kk : Result → Sem PySem.Fin) => gc_loop (k := kk) (c' := .forLoop tg (.ref it) body [] X.env) (l := lv []) (kp := []) (p := p) g0 rfl rfl
  have loop : ∀ (m i n : Nat) (ys : List V) (s₀ s : Shared) (σ : L2.St) (H : Hp), n + ys.length = sizeLine → W i m ys σ H → GI X S ip ys σ H s → tn i s.heap → (∀ b ∈ fp, H b = none) →
      Seg (model X.prog X.w) A R (GY X S) n s₀ (.forLoop tg (.ref it) body [] X.env) ((model X.prog X.w).den (.forLoop tg (.ref it) body [] X.env))
        (.ret (fun r => ((match r with | .ok f => (.pure f : Sem Flow) | .error e => .raise e).onRaise (cameBack X.env)).wrap K J gd lv) none (gd false) (lv []) c p [] :: fs) s := by
    intro m
    induction m using Nat.strongRecOn with
    | ind m ih =>
      intro i n ys s₀ s σ H hn w hI st fr
      have ee : ∀ (n : Nat) (s₀ : Shared) (x : Value) (s' : Shared), X.xe x s' → Seg (model X.prog X.w) A R (GY X S) n s₀ (.forLoop tg (.ref it) body [] X.env)
          ((do noteFrame x X.env; theTreesLotGoes x : Sem Unit).bind (fun _ => .raise x))
          (.ret (fun r => ((match r with | .ok f => (.pure f : Sem Flow) | .error e => .raise e).onRaise (cameBack X.env)).wrap K J gd lv) none (gd false) (lv []) c p [] :: fs) s' := fun n s₀ x s' hx => by
        rw [Sem.bind_eq_wrap]
        refine seg_wrap ?_
        rw [(gl _).over]
        refine wpAny_bind (wpAny_mono (hp x s' hx) (fun _ s'' hcb => wpAny_theTreesLotGoes ?_) fun y s'' hcb => ?_)
        · exact seg_leaf (.error x) (seg_cameBack g0 k hcb)
        · exact seg_leaf (.error y) (seg_cameBack g0 k hcb)
      obtain ⟨acc, cc, r, I⟩ := hI
      show Seg _ A R _ n s₀ _ ((forTurn tg (.ref it) body [] X.env).onRaise (fun x => do noteFrame x X.env; theTreesLotGoes x)) _ s
      rw [Sem.onRaise_eq_wrap]
      unfold forTurn
      refine seg_bind_wrap (wpAny_standAt ?_)
      refine seg_bind_wrap (wpAny_onRaise ?_)
      rw [(gl _).over]
      rcases turn i m ys σ H w with ⟨stop, qn⟩ | ⟨go, N, hN, step⟩
      · refine wpAny_mono (T.done X rfl rfl rfl hc i _ s σ H X.xe I (stat fr) st stop) (fun r4 s4 h4 => ?_) fun x s' hx => wpAny_standAt (ee _ _ x s' hx)
        obtain ⟨hr, I4⟩ := h4
        subst hr
        refine seg_again (c' := .block [] X.env) rfl ?_
        exact seg_leaf (.ok .next) (k.ok n ys s₀ s4 .next hn ⟨σ, H, ⟨acc, cc, r, I4⟩, qn⟩)
      · refine wpAny_mono (T.item X rfl rfl rfl hc i _ s σ H X.xe I (stat fr) st go) (fun r4 s4 h4 => ?_) fun x s' hx => wpAny_standAt (ee _ _ x s' hx)
        obtain ⟨u, hr, h4⟩ := h4
        subst hr
        refine seg_bind_wrap ?_
        rw [(gl _).over]
        refine wpAny_mono h4 (fun _ s5 h5 => ?_) fun x s' hx => ee _ _ x s' hx
        obtain ⟨x, H5, I5, r5, y5, st5, fr5⟩ := h5
        have I5' := I5.pinned (stat fr5) (T.obj _ _ st5)
        refine seg_bind_wrap ?_
        rw [(gl _).over]
        refine wpAny_mono (hg.run _ s5 σ H5 x u _ I5' r5 (step x H5 y5)) (fun _ s6 h6 => ?_) fun x s' hx => ee _ _ x s' hx
        obtain ⟨σ6, H6, I6, q6⟩ := h6
        have gb : GC X S (ip ++ pinsAt fp s5.heap) A (.forLoop tg (.ref it) body [] X.env) (.ret (fun r => ((match r with | .ok f => (.pure f : Sem Flow) | .error e => .raise e).onRaise (cameBack X.env)).wrap K J gd lv) none (gd false) (lv []) c p [] :: fs) id := { gl _ with
          ip := fun q hq => by
            rcases List.mem_append.mp hq with z | z
            · exact g0.ip q z
            · exact fun e => hfS q.1 (of_pinsAt z).1 e.symm }
        rw [Sem.bind_eq_wrap', Sem.wrap_wrap]
        refine hb.run A S (ip ++ pinsAt fp s5.heap) R n ys s₀ _ _ _ _ _ _ s6 σ6 H6 { D with nx := N, ct := N, bk := D.nx } ⟨gb.pn, gb.ip, gb.apart, gb.over, gb.split, gb.guard, rfl⟩ hn ⟨fun n' ys' s₀' s7 f hn' hs => ?_, fun n' s₀' x s7 hx => ee n' s₀' x s7 hx⟩ ⟨acc, cc, r, I6⟩ q6
        have un : ∀ {ys : List V} {σ7 : L2.St} {H7 : Hp}, GI X S (ip ++ pinsAt fp s5.heap) ys σ7 H7 s7 → GI X S ip ys σ7 H7 s7 ∧ tn (i + 1) s7.heap ∧ ∀ b ∈ fp, H7 b = none := fun {ys σ7 H7} hG => by
          obtain ⟨acc7, cc7, r7, I7⟩ := hG
          refine ⟨⟨acc7, cc7, r7, I7.pins_of fun q hq => I7.pin q ?_⟩, T.keep _ _ _ st5 fun b hb o e => (I7.pin (b, o) ?_).1, fun b hb => ?_⟩
          · rcases List.mem_cons.mp hq with z | z
            · exact List.mem_append_right _ (by rw [z]; exact List.mem_cons_self)
            · exact List.mem_append_right _ (List.mem_cons_of_mem _ (List.mem_append_left _ z))
          · exact List.mem_append_right _ (List.mem_cons_of_mem _ (List.mem_append_right _ (mem_pinsAt hb e)))
          · obtain ⟨o, e, d⟩ := T.obj _ _ st5 b hb
            exact (I7.pin (b, o) (List.mem_append_right _ (List.mem_cons_of_mem _ (List.mem_append_right _ (mem_pinsAt hb e))))).2.1
        cases f with
        | next =>
          obtain ⟨σ7, H7, I7, n7⟩ := hs
          obtain ⟨J1, J2, J3⟩ := un I7
          obtain ⟨m', hm, w7⟩ := hN ys' σ7 H7 n7
          exact seg_again rfl (ih m' hm (i + 1) n' ys' s₀' s7 σ7 H7 hn' w7 J1 J2 J3)
        | cont =>
          obtain ⟨σ7, H7, I7, n7⟩ := hs
          obtain ⟨J1, J2, J3⟩ := un I7
          obtain ⟨m', hm, w7⟩ := hN ys' σ7 H7 n7
          exact seg_again rfl (ih m' hm (i + 1) n' ys' s₀' s7 σ7 H7 hn' w7 J1 J2 J3)
        | brk =>
          obtain ⟨σ7, H7, I7, q7⟩ := hs
          exact seg_leaf (.ok .next) (k.ok n' ys' s₀' s7 .next hn' ⟨σ7, H7, (un I7).1, q7⟩)
        | ret v =>
          obtain ⟨x7, σ7, H7, I7, r7, q7⟩ := hs
          exact seg_leaf (.ok (.ret v)) (k.ok n' ys' s₀' s7 (.ret v) hn' ⟨x7, σ7, H7, (un I7).1, r7, q7⟩)
  exact loop m0 0 n ys s₀ s2 σ H2 hn w0 ⟨acc, cc, r, I2⟩ st2 fun b hb => (f2 b hb).1
/-- over a range -/
theorem gfor_range {lo : Int} {n : Nat} {g : TG} {tb : TGn} {D : GEnds} {ys : List V} {σ : L2.St} {H : Hp} (Pv : Nat → List V → L2.St → Hp → Prop) (h0 : Pv 0 ys σ H)
    (hs : ∀ i ys σ H, i < n → Pv i ys σ H → g (.int (lo + i)) σ H fun σ2 H2 => tb { D with nx := Pv (i + 1), ct := Pv (i + 1), bk := D.nx } ys σ2 H2) (hd : ∀ ys σ H, Pv n ys σ H → D.nx ys σ H) :
    ∃ W : Nat → Nat → List V → L2.St → Hp → Prop, (∃ m, W 0 m ys σ H) ∧ ∀ i m ys σ H, W i m ys σ H →
      ((Itr lo n).stop i H ∧ D.nx ys σ H) ∨ ((Itr lo n).go i H ∧ ∃ N : List V → L2.St → Hp → Prop, (∀ ys' σ' H', N ys' σ' H' → ∃ m', m' < m ∧ W (i + 1) m' ys' σ' H') ∧ ∀ x H', (Itr lo n).yld i H x H' → g x σ H' fun σ2 H2 => tb { D with nx := N, ct := N, bk := D.nx } ys σ2 H2) := by
  refine ⟨fun i m ys σ H => m = n - i ∧ i ≤ n ∧ Pv i ys σ H, ⟨n, by simp, Nat.zero_le _, h0⟩, ?_⟩
  rintro i m ys σ H ⟨rfl, hi, p⟩
  by_cases hlt : i < n
  · refine .inr ⟨hlt, Pv (i + 1), fun ys' σ' H' p' => ⟨n - (i + 1), by omega, rfl, hlt, p'⟩, fun x H' y => ?_⟩
    obtain ⟨e, y⟩ := y
    subst e y
    exact hs i ys σ _ hlt p
  · have e : i = n := by omega
    subst e
    exact .inl ⟨Nat.le_refl _, hd ys σ H p⟩
end
end L2


set_option Elab.async false
set_option linter.all false
set_option maxRecDepth 100000
set_option maxHeartbeats 4000000
namespace K00
open PySem PySem.Spec PyProof.Rows L2 RZ StX
open Evl (Ex)
open IsE SubM
theorem next_stay (ps : List Int) (m : Int) (k : Nat) (h : ¬ ps.getD k 0 < m - (ps.length : Nat) + (k : Nat)) : nextPl ps m (k + 1) = nextPl ps m k := by
  show (if _ then _ else _) = _
  rw [if_neg h]
theorem next_hit (ps : List Int) (m : Int) (k : Nat) (h : ps.getD k 0 < m - (ps.length : Nat) + (k : Nat)) : nextPl ps m (k + 1) = some (ps.take k ++ (List.range (ps.length - k)).map fun j => ps.getD k 0 + 1 + (j : Nat)) := by
  show (if _ then _ else _) = _
  rw [if_pos h]
theorem pre_len : ∀ m, m < 5 → ∀ s, s < m + 1 → ((List.range s).flatMap (rowsOf m)).length + (rowsOf m s).length ≤ 16 := by decide +kernel
section
variable {w : World} {K : PySem.W.Frag} {mg : Str → Option Value} {base : Heap}
def spNext : Sp := fun vs H Q _ => ∃ (P : Addr) (ps : List Int) (m : Int), vs = [.ref P, .int m] ∧ H P = some (.lst (ps.map V.int)) ∧ ps.length ≤ 10 ∧ 0 ≤ m ∧ m < 100 ∧ (∀ x ∈ ps, 0 ≤ x ∧ x < 100) ∧
  (nextPl ps m ps.length = none → ∀ H', Ex H H' → Q .non H') ∧ ∀ q, nextPl ps m ps.length = some q → ∀ H' p, Ex H H' → H' p = some (.lst (q.map V.int)) → Q (.ref p) H'
theorem sc_next : FnScope ["places", "many", "size", "k", "first"] ["places", "many"] (defScope s_next_places) := ⟨rfl, rfl, rfl, by decide +kernel, rfl, by decide +kernel, by decide +kernel⟩
theorem has_next (T : Ctx K mg) : Has w K mg base CX0 "next_places" 1 ["places", "many"] spNext := by
  refine has_of (st := s_next_places) (f := He.ga K "next_places") T.d_next_places T.g_next_places (fun _ _ _ _ _ _ us hl => match us, hl with | [_, _], _ => rfl) fun fd F => ?_
  refine ok0 F sc_next (fun vs H Q E h => ?_) (fun cdv A0 outer s0 H vs Q E hr h => ?_)
  · obtain ⟨P, ps, m, rfl, _⟩ := h
    rfl
  · obtain ⟨P, ps, m, rfl, hP, hl, hm0, hm1, hin, k0, k1⟩ := h
    have nd := sc_next.nd
    refine ⟨_, pss_cons (ps_set (i := 2) nd rfl (.inl rfl) (pe_callB call_len_seq (by rfl) T.b_len PySem.boot_len (pa_cons (pv 0) pa_nil)))
      (pss_cons (ps_for PassesOwn.never rfl (pi_range3 (by rfl) T.b_range (pa_cons (pe_op op_sub (pv 2) pe_int) (pa_cons (pe_un un_neg pe_int) (pa_cons (pe_un un_neg pe_int) pa_nil)))) (pg_name (i := 3) nd rfl (.inl rfl))
        (pss_one (ps_if (pt_cmpR op_lt (pe_ix ix_list (pv 0) (pv 3) (fun _ _ => rfl)) (pe_op op_add (pe_op op_sub (pv 1) (pv 2)) (pv 3)) (nomark _))
          (pss_cons (ps_set (i := 4) nd rfl (.inl rfl) (pe_op op_add (pe_ix ix_list (pv 0) (pv 3) (fun _ _ => rfl)) pe_int))
          (pss_one (ps_ret (pe_op op_cat (pe_slice sl_list (pv 0) po_none (po_some (pv 3))) (pe_listRg rfl (by rfl) T.b_list (prg_2 (by rfl) T.b_range (pv 4) (pe_op op_sub (pe_op op_add (pv 4) (pv 2)) (pv 3))))))))
          pss_nil)))
      (pss_one (ps_ret pe_non))), ?_⟩
    refine ⟨_, rfl, P, _, rfl, .inl (SqL.of hP), ?_⟩
    rw [List.length_map]
    refine ⟨_, rfl, _, _, rfl, rfl, _, rfl, _, rfl, _, _, _, _, rfl, RgC.neg (by omega) (by omega) (by omega) (by omega), ?_⟩
    refine for_rangeC (fun i σ H' => (∃ v3 : Option V, σ = [some (.ref P), some (.int m), some (.int (ps.length : Nat)), v3, none]) ∧ Ex H H' ∧ nextPl ps m ps.length = nextPl ps m (ps.length - i)) ⟨⟨none, rfl⟩, fun _ _ z => z, rfl⟩ ?_ ?_
    · rintro i σ H1 hi ⟨⟨v3, rfl⟩, e1, en⟩
      have hil : i < ps.length := by omega
      obtain ⟨k, hk⟩ : ∃ k, ps.length - i = k + 1 := ⟨ps.length - i - 1, by omega⟩
      have hki : (ps.length : Int) - 1 + (i : Nat) * (-1) = (k : Nat) := by omega
      have hkl : k < ps.length := by omega
      have hP1 := e1 _ _ hP
      have hx : (ps.map V.int)[k]? = some (.int (ps.getD k 0)) := by
        rw [List.getElem?_map, List.getD_eq_getElem?_getD, List.getElem?_eq_getElem hkl]
        rfl
      have hxb := hin _ (List.getElem_mem hkl)
      have hxe : ps.getD k 0 = ps[k] := by rw [List.getD_eq_getElem?_getD, List.getElem?_eq_getElem hkl]; rfl
      rw [← hxe] at hxb
      rw [hk] at en
      show gName 3 (.int ((ps.length : Int) - 1 + (i : Nat) * (-1))) _ H1 _
      rw [hki]
      refine ⟨_, rfl, _, rfl, P, _, _, _, rfl, rfl, SqL.of hP1, atI_nat hx, _, rfl, _, rfl, _, _, rfl, rfl, _, rfl, _, _, rfl, rfl, _, _, rfl, rfl, _, rfl, ?_⟩
      by_cases c : ps.getD k 0 < m - (ps.length : Nat) + (k : Nat)
      · refine iteT' (decide_eq_true c) ?_
        rw [next_hit ps m k c] at en
        refine ⟨_, rfl, _, rfl, P, _, _, _, rfl, rfl, SqL.of hP1, atI_nat hx, _, _, rfl, rfl, ?_⟩
        refine ⟨_, rfl, _, rfl, _, rfl, P, _, rfl, SqL.of hP1, fun p1 hp1 => ?_⟩
        have g1 := Ex.new (o := .lst (cutV (ps.map V.int) none (some ((k : Nat) : Int)))) hp1
        refine ⟨_, rfl, _, rfl, _, rfl, _, _, rfl, rfl, _, rfl, _, _, rfl, rfl, _, _, rfl, rfl, RgOk.of_le (by omega) (by omega) (by omega) (by omega), fun p2 hp2 => ?_⟩
        have g2 := Ex.new (o := .lst (rgV (ps.getD k 0 + 1) (ps.getD k 0 + 1 + (ps.length : Nat) - (k : Nat)))) hp2
        have hc1 : cutV (ps.map V.int) none (some ((k : Nat) : Int)) = (ps.take k).map V.int := by
          rw [cut_take _ _ (by rw [List.length_map]; omega), List.map_take]
        have hc2 : rgV (ps.getD k 0 + 1) (ps.getD k 0 + 1 + (ps.length : Nat) - (k : Nat)) = ((List.range (ps.length - k)).map fun j => ps.getD k 0 + 1 + ((j : Nat) : Int)).map V.int := by
          unfold rgV
          rw [show (ps.getD k 0 + 1 + (ps.length : Nat) - (k : Nat) - (ps.getD k 0 + 1)).toNat = ps.length - k by omega, List.map_map]
          rfl
        rw [hc1] at g1 hp2 ⊢
        rw [hc1] at g2
        rw [hc2] at g2 ⊢
        refine ⟨p1, p2, _, _, rfl, rfl, g2 _ _ upd_same, upd_same, sz1000 (by simp; omega), fun p3 hp3 => ?_⟩
        refine k1 _ en _ _ (((e1.trans g1).trans g2).trans (Ex.new hp3)) ?_
        rw [upd_same, List.map_append]
      · refine iteF' (decide_eq_false c) ?_
        rw [next_stay ps m k c] at en
        exact ⟨⟨_, rfl⟩, e1, by rw [en]; congr 1; omega⟩
    · rintro σ H1 ⟨⟨v3, rfl⟩, e1, en⟩
      exact k0 (by rw [en, show ps.length - ((ps.length : Int) - 1 - -1).toNat = 0 by omega]; rfl) _ e1
end
end K00


set_option Elab.async false
set_option linter.all false
set_option maxRecDepth 100000
set_option maxHeartbeats 4000000
namespace K00
open PySem PySem.Spec PyProof.Rows L2 RZ StX
open Evl (Ex)
open IsE SubM
section
variable {w : World} {K : PySem.W.Frag} {mg : Str → Option Value} {base : Heap}
def HasG (w : World) (K : PySem.W.Frag) (mg : Str → Option Value) (base : Heap) (x : Str) (k : Nat) (ps : List Str) (sp : SpG) : Prop :=
  ∃ (f : Addr) (fd : FuncData), mg x = some (.ref f) ∧ PySem.W.keepIn K (.ref f) = true ∧ GFn PP w K mg base k f fd ps sp ∧ Binds K fd ps []
theorem has_ofG {x : Str} {st : Stmt} {f : Addr} {N : List Str} {k : Nat} {ps : List Str} {sp : SpG} (d : ∃ fd, FunD K x x (defArgs st) (defBody st) (defScope st) [] [] f fd) (g : mg x = some (.ref f))
    (h : ∀ (kV doc pm : Value) (an : Option Addr) (cdv ct : Value) (us : List Value), us.length = ps.length → bindArgs (PySem.W.fnOf x x (defArgs st) (defBody st) (defScope st) .none kV doc pm an cdv ct) ⟨us, []⟩ = pure (ps.zip us))
    (S : GScope N ps (defScope st)) (len : ∀ vs H Q E, sp vs H Q E → vs.length = ps.length)
    (hbody : ∀ (cdv : Value) (A : Around) (outer : List Env) (s : Shared) (H : Hp) (vs : List V) (Q : List V → Hp → Prop) (E : XK) (pn : List (Addr × Obj)), Room k (A.deeper (envOfC x (defScope st) s.heap.objs.size f cdv)) → sp vs H Q E →
      ∃ t, GSs (gcxOf PP w K mg base N x (defScope st) f cdv A outer s H E pn) (defBody st) t ∧ t { nx := fun ys _ H' => Q ys H', rt := fun ys v H' => v = .non ∧ Q ys H' } [] (start N vs) H) : HasG w K mg base x (k + 1) ps sp := by
  obtain ⟨fd, F⟩ := d
  refine ⟨f, fd, g, F.kp, ?_, F.bindsN h⟩
  obtain ⟨oc, od, dV, kV, doc, pm, an, cdv, ct, osl, rfl, lk, hcd, _, _⟩ := F.ex
  exact gfn_of lk hcd S len fun A outer s H vs Q E pn hr hsp => hbody cdv A outer s H vs Q E pn hr hsp
def spSubs : SpG := fun vs H Q E => ∃ (p : Addr) (ns : List Int), vs = [.ref p] ∧ H p = some (.tup (ns.map V.int)) ∧ ns.length ≤ 4 ∧ ∀ H' ys, Ex H H' → Lsd H' ns ys (allRows ns.length) → Q ys H'
theorem gsc_subs : GScope ["parts", "size", "places", "place"] ["parts"] (defScope s_subsets) := ⟨rfl, rfl, rfl, by decide +kernel, rfl, by decide +kernel, by decide +kernel⟩
theorem has_subsets (T : Ctx K mg) : HasG w K mg base "subsets" 3 ["parts"] spSubs := by
  obtain ⟨f1, fd1, m1, kp1, F1, b1⟩ := has_next (w := w) (base := base) T
  refine has_ofG (st := s_subsets) (f := He.ga K "subsets") T.d_subsets T.g_subsets (fun _ _ _ _ _ _ us hl => match us, hl with | [_], _ => rfl) gsc_subs (fun vs H Q E h => ?_) fun cdv A0 outer s0 H vs Q E pn hr h => ?_
  · obtain ⟨p, ns, rfl, _⟩ := h
    rfl
  · obtain ⟨p, ns, rfl, hp, hl4, k⟩ := h
    have nd := gsc_subs.nd
    have r1 := hr.mono (show 1 ≤ 2 by decide)
    refine ⟨_, gss_cons (gs_for owns_gcx rfl (pi_range1 (by rfl) T.b_range (pa_cons (pe_op op_add (pe_callB call_len_seq (by rfl) T.b_len PySem.boot_len (pa_cons (pv 0) pa_nil)) pe_int) pa_nil)) (pg_name (i := 1) nd rfl (.inl rfl))
      (gss_cons (gs_ps (ps_set (i := 2) nd rfl (.inl rfl) (pe_listRg rfl (by rfl) T.b_list (prg_1 (by rfl) T.b_range (pv 1)))))
      (gss_cons (gs_while owns_gcx (pt_cmpR op_notN (pv 2) pe_non (nomark _))
        (gss_cons (gs_yield (pe_callTy call_tuple_of (by rfl) T.b_tuple (by decide +kernel) (pa_cons (pe_lc (own := [("place", 3)]) (g := gName 3) (tt := tYes) rfl nd (pi_list (pv 2)) (blkOk_by (own := [("place", 3)]) (N := ["parts", "size", "places", "place"]) (sc := defScope s_subsets) (by decide +kernel)) (fun _ _ _ _ _ => pg_name (i := 3) nd rfl (Or.inl rfl)) (fun _ _ _ _ _ => pts_nil) (fun _ _ _ _ _ => pe_ix (ix_tupK (K := K) rfl) (pv 0) (pv 3) (fun _ _ => rfl))) pa_nil)))
        (gss_cons (gs_ps (ps_set (i := 2) nd rfl (.inl rfl) (pe_call F1 r1 (by rfl) m1 kp1 b1 .nil pass0 (pa_cons (pv 2) (pa_cons (pe_callB call_len_seq (by rfl) T.b_len PySem.boot_len (pa_cons (pv 0) pa_nil)) pa_nil))))) gss_nil)))
      gss_nil))) gss_nil, ?_⟩
    refine ⟨_, rfl, p, _, rfl, .inr (SqT.of hp), ?_⟩
    rw [List.length_map]
    refine ⟨_, _, rfl, rfl, _, rfl, by omega, by omega, gfor_range (fun i ys σ H' => (∃ v1 v2 v3 : Option V, σ = [some (.ref p), v1, v2, v3]) ∧ Ex H H' ∧ Lsd H' ns ys ((List.range i).flatMap (rowsOf ns.length))) ⟨⟨_, _, _, rfl⟩, fun _ _ z => z, Lsd.nil⟩ ?_ ?_⟩
    · rintro i ys σ H1 hi ⟨⟨v1, v2, v3, rfl⟩, e1, L1⟩
      have hi5 : i < ns.length + 1 := by omega
      have hm5 : ns.length < 5 := by omega
      show gName 1 (.int (0 + (i : Int))) _ H1 _
      rw [show (0 + (i : Int)) = (i : Int) by omega]
      refine ⟨_, rfl, _, rfl, RgOk.of_le (by omega) (by omega) (by omega) (by omega), fun A hA => ?_⟩
      have hrg : rgV 0 ((i : Nat) : Int) = (sizeRow i).map V.int := by
        unfold rgV sizeRow
        rw [show (((i : Nat) : Int) - 0).toNat = i by omega, List.map_map]
        refine List.map_congr_left fun j _ => ?_
        show V.int (0 + (j : Int)) = V.int (j : Int)
        rw [Int.zero_add]
      rw [hrg]
      have e2 := Ex.new (o := .lst ((sizeRow i).map V.int)) hA
      have hA2 : upd H1 A (.lst ((sizeRow i).map V.int)) A = some (.lst ((sizeRow i).map V.int)) := upd_same
      have L2 := L1.mono e2
      have e12 := e1.trans e2
      generalize upd H1 A (.lst ((sizeRow i).map V.int)) = H2 at *
      have hh := rows_head ns.length hm5 i hi5
      have hlen0 : 0 < (rowsOf ns.length i).length := (List.getElem?_eq_some_iff.mp hh).1
      refine ⟨fun m ys σ H' => ∃ j, m = (rowsOf ns.length i).length - j ∧ j ≤ (rowsOf ns.length i).length ∧ Ex H H' ∧ Lsd H' ns ys ((List.range i).flatMap (rowsOf ns.length) ++ (rowsOf ns.length i).take j) ∧
        ((j < (rowsOf ns.length i).length ∧ ∃ (P : Addr) (v3 : Option V), σ = [some (.ref p), some (.int (i : Nat)), some (.ref P), v3] ∧ H' P = some (.lst (((rowsOf ns.length i).getD j []).map V.int))) ∨
         (j = (rowsOf ns.length i).length ∧ ∃ v3 : Option V, σ = [some (.ref p), some (.int (i : Nat)), some .non, v3])), ⟨_, 0, rfl, Nat.zero_le _, e12, by rw [List.take_zero, List.append_nil]; exact L2, .inl ⟨hlen0, A, v3, rfl, ?_⟩⟩, ?_⟩
      · rw [List.getD_eq_getElem?_getD, hh]
        exact hA2
      · rintro m ys2 σ2 H3 ⟨j, rfl, hj, e3, L3, ⟨hjl, P, v4, rfl, hP⟩ | ⟨rfl, v4, rfl⟩⟩
        · refine ⟨_, rfl, rfl, _, rfl, ?_⟩
          refine iteT' (by rw [decide_eq_false (fun z => by cases z)]; rfl) ?_
          refine ⟨fun ys' σ' H' => ∃ m', m' < (rowsOf ns.length i).length - j ∧ ∃ j, m' = (rowsOf ns.length i).length - j ∧ j ≤ (rowsOf ns.length i).length ∧ Ex H H' ∧ Lsd H' ns ys' ((List.range i).flatMap (rowsOf ns.length) ++ (rowsOf ns.length i).take j) ∧
            ((j < (rowsOf ns.length i).length ∧ ∃ (P : Addr) (v3 : Option V), σ' = [some (.ref p), some (.int (i : Nat)), some (.ref P), v3] ∧ H' P = some (.lst (((rowsOf ns.length i).getD j []).map V.int))) ∨
             (j = (rowsOf ns.length i).length ∧ ∃ v3 : Option V, σ' = [some (.ref p), some (.int (i : Nat)), some .non, v3])), fun _ _ _ z => z, ?_⟩
          have hpre := pre_len ns.length hm5 i hi5
          have hin := rows_in ns.length hm5 i hi5 j hjl
          have hsz := rows_size ns.length hm5 i hi5 j hjl
          have hnx := rows_next ns.length hm5 i hi5 j hjl
          have hrow : (rowsOf ns.length i)[j]? = some ((rowsOf ns.length i).getD j []) := by rw [List.getD_eq_getElem?_getD, List.getElem?_eq_getElem hjl]; rfl
          generalize (rowsOf ns.length i).getD j [] = ps at *
          refine ⟨small1000 (by rw [L3.1, List.length_append, List.length_take]; omega), ?_⟩
          refine ⟨_, rfl, P, rfl, ⟨_, SqL.of hP⟩, fun D hD => ?_⟩
          refine lc_list (K := K) (a := P) (xs := ps.map V.int) (fun n H' => Ex H3 H' ∧ H' D = some (.lst ((valsAt ns (ps.take n)).map V.int))) ⟨Ex.new hD, upd_same⟩ (fun n H' _ z => SqL.of (z.1 _ _ hP)) ?_ ?_
          · rintro n y H4 hy ⟨e4, hD4⟩
            have hnl : n < ps.length := by
              have := (List.getElem?_eq_some_iff.mp hy).1
              rwa [List.length_map] at this
            obtain ⟨z, hz⟩ : ∃ z, ps[n]? = some z := ⟨_, List.getElem?_eq_getElem hnl⟩
            rw [List.getElem?_map, hz] at hy
            cases hy
            have zb := hin z (List.mem_of_getElem? hz)
            have hzn : z.toNat < ns.length := by omega
            have hx : (ns.map V.int)[z.toNat]? = some (.int (ns.getD z.toNat 0)) := by
              rw [List.getElem?_map, List.getD_eq_getElem?_getD, List.getElem?_eq_getElem hzn]
              rfl
            have hzz : atI (ns.map V.int) z = some (.int (ns.getD z.toNat 0)) := by
              have := atI_nat hx
              rwa [show ((z.toNat : Nat) : Int) = z by omega] at this
            refine ⟨rfl, tYesI ⟨_, rfl, _, rfl, p, _, _, _, rfl, rfl, SqT.of (e4 _ _ (e3 _ _ hp)), hzz, _, hD4, by rw [List.length_map]; unfold valsAt; rw [List.length_map, List.length_take]; exact small1000 (by omega), Evl.Ex.mut e4 hD, ?_⟩⟩
            rw [upd_same, List.take_add_one, hz]
            unfold valsAt
            simp
          · rintro H4 ⟨e4, hD4⟩
            rw [List.length_map, List.take_length] at hD4
            refine ⟨D, _, rfl, .inl ⟨SqL.of hD4, fun t ht => ?_⟩⟩
            have e5 := Ex.new (o := .tup ((valsAt ns ps).map V.int)) ht
            have e45 := e4.trans e5
            have L5 := (L3.mono e45).snoc (q := t) (l := ps) upd_same
            have hP5 := e45 _ _ hP
            have e35 := e3.trans e45
            generalize upd H4 t (.tup ((valsAt ns ps).map V.int)) = H5 at *
            rw [List.append_assoc, show (rowsOf ns.length i).take j ++ [ps] = (rowsOf ns.length i).take (j + 1) by rw [List.take_add_one, hrow]; rfl] at L5
            refine ⟨_, rfl, _, rfl, p, _, rfl, .inr (SqT.of (e35 _ _ hp)), ?_⟩
            rw [List.length_map]
            refine ⟨P, ps, _, rfl, hP5, by omega, by omega, by omega, fun x hx => by have := hin x hx; omega, fun hn H6 e6 => ?_, fun q hq H6 p6 e6 hp6 => ?_⟩
            · have hj1 : j + 1 = (rowsOf ns.length i).length := by
                rw [hn] at hnx
                have := List.getElem?_eq_none_iff.mp hnx.symm
                omega
              exact ⟨_, by omega, j + 1, rfl, by omega, e35.trans e6, L5.mono e6, .inr ⟨hj1, _, rfl⟩⟩
            · rw [hq] at hnx
              have hj1 := (List.getElem?_eq_some_iff.mp hnx.symm).1
              refine ⟨_, by omega, j + 1, rfl, by omega, e35.trans e6, L5.mono e6, .inl ⟨hj1, p6, _, rfl, ?_⟩⟩
              rw [List.getD_eq_getElem?_getD, ← hnx]
              exact hp6
        · refine ⟨_, rfl, rfl, _, rfl, ?_⟩
          refine iteF' (by decide) ?_
          refine ⟨⟨_, _, _, rfl⟩, e3, ?_⟩
          rw [List.take_length] at L3
          rw [all_step]
          exact L3
    · rintro ys σ H1 ⟨⟨v1, v2, v3, rfl⟩, e1, L1⟩
      refine k _ _ e1 ?_
      rw [show ((ns.length : Int) + 1).toNat = ns.length + 1 by omega] at L1
      exact L1
end
end K00


set_option Elab.async false
set_option linter.all false
set_option maxRecDepth 100000
set_option maxHeartbeats 4000000
namespace K00
open PySem PySem.Spec PyProof.Rows L2 RZ StX
open Evl (Ex)
open IsE SubM
theorem op_notInK {K : PySem.W.Frag} {X : Cx} (h : X.K = K) : OpR X (compareOp .NotIn) (rIn K true) := by
  subst h
  exact op_notIn_seq
theorem filt_eq {f : Bool → Bool → Bool} {ns ms rs xs : List Int} (h : Filt f ns ms rs) (ha : xs.Pairwise (· < ·)) (hm : ∀ k, k ∈ xs ↔ f (decide (k ∈ ns)) (decide (k ∈ ms)) = true) : rs = xs :=
  asc_eq h.1 ha fun k => (h.2 k).trans (hm k).symm
def upto (n : Nat) : List Int := (List.range n).map fun i => ((i : Nat) : Int)
theorem upto_succ (n : Nat) : upto (n + 1) = upto n ++ [(n : Int)] := by
  unfold upto
  rw [List.range_succ, List.map_append]
  rfl
theorem upto_mem {n : Nat} {k : Int} : k ∈ upto n ↔ 0 ≤ k ∧ k < n := by
  unfold upto
  constructor
  · intro h
    obtain ⟨i, hi, rfl⟩ := List.mem_map.mp h
    have := List.mem_range.mp hi
    omega
  · rintro ⟨h0, h1⟩
    exact List.mem_map.mpr ⟨k.toNat, List.mem_range.mpr (by omega), by omega⟩
theorem upto_asc : ∀ n : Nat, (upto n).Pairwise (· < ·)
  | 0 => List.Pairwise.nil
  | n + 1 => by
    rw [upto_succ]
    refine List.pairwise_append.mpr ⟨upto_asc n, List.pairwise_singleton _ _, fun a ha b hb => ?_⟩
    have := (upto_mem.mp ha).2
    rw [List.mem_singleton.mp hb]
    exact this
section
variable {w : World} {K : PySem.W.Frag} {mg : Str → Option Value} {base : Heap}
def spSetsR : Sp := fun vs H Q _ => ∃ (A B : Addr) (ps qs : List Int) (n : Nat), vs = [.ref A, .ref B, .int (n : Nat)] ∧ n < 30 ∧ H A = some (.lst (ps.map V.int)) ∧ H B = some (.lst (qs.map V.int)) ∧ ps.Pairwise (· < ·) ∧ qs.Pairwise (· < ·) ∧ (∀ k ∈ ps, 0 ≤ k ∧ k < n) ∧ (∀ k ∈ qs, 0 ≤ k ∧ k < n) ∧ ∀ H', Ex H H' → Q (.bl true) H'
theorem sc_setsr : FnScope ["_law_parts_here", "_law_others", "_law_many", "_law_one", "_law_two", "_law_listed", "_law_k", "_law_before", "_law_part"] ["_law_parts_here", "_law_others", "_law_many"] (defScope s__law_sets_right) := ⟨rfl, rfl, rfl, by decide +kernel, rfl, by decide +kernel, by decide +kernel⟩
theorem has_setsr (T : Ctx K mg) : Has w K mg base CX0 "_law_sets_right" 7 ["_law_parts_here", "_law_others", "_law_many"] spSetsR := by
  obtain ⟨f1, fd1, m1, kp1, F1, b1⟩ := has_set (w := w) (base := base) T
  obtain ⟨f2, fd2, m2, kp2, F2, b2⟩ := has_both (w := w) (base := base) T
  obtain ⟨f3, fd3, m3, kp3, F3, b3⟩ := has_common (w := w) (base := base) T
  obtain ⟨f4, fd4, m4, kp4, F4, b4⟩ := has_minus (w := w) (base := base) T
  obtain ⟨f5, fd5, m5, kp5, F5, b5⟩ := has_subsets (w := w) (base := base) T
  refine has_of (st := s__law_sets_right) (f := He.ga K "_law_sets_right") T.d__law_sets_right T.g__law_sets_right (fun _ _ _ _ _ _ us hl => match us, hl with | [_, _, _], _ => rfl) fun fd F => ?_
  refine ok0 F sc_setsr (fun vs H Q E h => ?_) (fun cdv A0 outer s0 H vs Q E hr h => ?_)
  · obtain ⟨A, B, ps, qs, n, rfl, _⟩ := h
    rfl
  · obtain ⟨A, B, ps, qs, n, rfl, hn, hA, hB, pas, qas, pin, qin, k⟩ := h
    have nd := sc_setsr.nd
    have hu := hr.units
    have r1 := hr.mono (show 1 ≤ 6 by decide)
    have r3 := hr.mono (show 3 ≤ 6 by decide)
    refine ⟨_, pss_cons (ps_set (i := 3) nd rfl (.inr rfl) (pe_callTy call_tuple_of (by rfl) T.b_tuple (by decide +kernel) (pa_cons (pv 0) pa_nil)))
      (pss_cons (ps_set (i := 4) nd rfl (.inr rfl) (pe_callTy call_tuple_of (by rfl) T.b_tuple (by decide +kernel) (pa_cons (pv 1) pa_nil)))
      (pss_cons (ps_if (pt_cmpR (op_neD hu) (pe_call F1 r3 (by rfl) m1 kp1 b1 .nil (E := E0) (pass_none rfl rfl) (pa_cons (pv 2) (pa_cons
          (pe_lc (own := [("_law_k", 6)]) (g := gName 6) (tt := tYes) rfl nd (pi_range1 (by rfl) T.b_range (pa_cons (pe_callB call_len_seq (by rfl) T.b_len PySem.boot_len (pa_cons (pv 0) pa_nil)) pa_nil)) (blkOk_by (own := [("_law_k", 6)]) (N := ["_law_parts_here", "_law_others", "_law_many", "_law_one", "_law_two", "_law_listed", "_law_k", "_law_before", "_law_part"]) (sc := defScope s__law_sets_right) (by decide +kernel)) (fun _ _ _ _ _ => pg_name (i := 6) nd rfl (Or.inl rfl)) (fun _ _ _ _ _ => pts_nil)
            (fun _ _ _ _ _ => pe_ix (ix_listK (K := K) rfl) (pv 0) (pe_op op_sub (pe_op op_sub (pe_callB (call_lenX (K := K) rfl) (by rfl) T.b_len PySem.boot_len (pa_cons (pv 0) pa_nil)) pe_int) (pv 6)) (fun _ _ => rfl))) pa_nil))) (pv 3) (nomark _)) (pss_one (ps_ret pe_bl)) pss_nil)
      (pss_cons (ps_if (pt_cmpR (op_neD hu) (pe_call F2 r1 (by rfl) m2 kp2 b2 .nil pass0 (pa_cons (pv 3) (pa_cons (pv 4) pa_nil))) (pe_callTy call_tuple_of (by rfl) T.b_tuple (by decide +kernel) (pa_cons
          (pe_lc (own := [("_law_part", 8)]) (g := gName 8) rfl nd (pi_range1 (by rfl) T.b_range (pa_cons (pv 2) pa_nil)) (blkOk_by (own := [("_law_part", 8)]) (N := ["_law_parts_here", "_law_others", "_law_many", "_law_one", "_law_two", "_law_listed", "_law_k", "_law_before", "_law_part"]) (sc := defScope s__law_sets_right) (by decide +kernel)) (fun _ _ _ _ _ => pg_name (i := 8) nd rfl (Or.inl rfl))
            (fun _ _ _ _ _ => pts_one (PW.pt (pw_or (pt_cmpR (op_inK (K := K) rfl) (pv 8) (pv 3) (by rfl)) (pw_or1 (pt_cmpR (op_inK (K := K) rfl) (pv 8) (pv 4) (by rfl)))))) (fun _ _ _ _ _ => pv 8)) pa_nil)) (nomark _)) (pss_one (ps_ret pe_bl)) pss_nil)
      (pss_cons (ps_if (pt_cmpR (op_neD hu) (pe_call F3 r1 (by rfl) m3 kp3 b3 .nil pass0 (pa_cons (pv 3) (pa_cons (pv 4) pa_nil))) (pe_callTy call_tuple_of (by rfl) T.b_tuple (by decide +kernel) (pa_cons
          (pe_lc (own := [("_law_part", 8)]) (g := gName 8) rfl nd (pi_tup (pv 3)) (blkOk_by (own := [("_law_part", 8)]) (N := ["_law_parts_here", "_law_others", "_law_many", "_law_one", "_law_two", "_law_listed", "_law_k", "_law_before", "_law_part"]) (sc := defScope s__law_sets_right) (by decide +kernel)) (fun _ _ _ _ _ => pg_name (i := 8) nd rfl (Or.inl rfl))
            (fun _ _ _ _ _ => pts_one (pt_cmpR (op_inK (K := K) rfl) (pv 8) (pv 4) (by rfl))) (fun _ _ _ _ _ => pv 8)) pa_nil)) (nomark _)) (pss_one (ps_ret pe_bl)) pss_nil)
      (pss_cons (ps_if (pt_cmpR (op_neD hu) (pe_call F4 r1 (by rfl) m4 kp4 b4 .nil pass0 (pa_cons (pv 3) (pa_cons (pv 4) pa_nil))) (pe_callTy call_tuple_of (by rfl) T.b_tuple (by decide +kernel) (pa_cons
          (pe_lc (own := [("_law_part", 8)]) (g := gName 8) rfl nd (pi_tup (pv 3)) (blkOk_by (own := [("_law_part", 8)]) (N := ["_law_parts_here", "_law_others", "_law_many", "_law_one", "_law_two", "_law_listed", "_law_k", "_law_before", "_law_part"]) (sc := defScope s__law_sets_right) (by decide +kernel)) (fun _ _ _ _ _ => pg_name (i := 8) nd rfl (Or.inl rfl))
            (fun _ _ _ _ _ => pts_one (pt_cmpR (op_notInK (K := K) rfl) (pv 8) (pv 4) (by rfl))) (fun _ _ _ _ _ => pv 8)) pa_nil)) (nomark _)) (pss_one (ps_ret pe_bl)) pss_nil)
      (pss_cons ((ps_set (i := 5) nd rfl (.inl rfl) (pe_listG (pgen_call (E := E0) F5 r3 (by rfl) m5 kp5 b5 .nil (pa_cons (pe_slice sl_tupA (pv 3) po_none (po_some pe_int)) pa_nil)) (pass_none rfl rfl) (fun _ _ _ z => z.elim) hr (by rfl) T.b_list (by decide +kernel))).imp
            (t' := fun De σ H' => ∃ a9 b9 : Addr, σ = [some (.ref A), some (.ref B), some (.int (n : Nat)), some (.ref a9), some (.ref b9), none, none, none, none] ∧ H' a9 = some (.tup (ps.map V.int)) ∧ ∀ L H2 ys, Ex H' H2 → H2 L = some (.lst ys) → Lsd H2 (ps.take 4) ys (allRows (ps.take 4).length) → De.nx [some (.ref A), some (.ref B), some (.int (n : Nat)), some (.ref a9), some (.ref b9), some (.ref L), none, none, none] H2) ?c1)
      (pss_cons (ps_if (pt_cmpR op_ne (pe_callB call_len_seq (by rfl) T.b_len PySem.boot_len (pa_cons (pv 5) pa_nil)) (pe_ix ix_list (pe_lst (pa_cons pe_int (pa_cons pe_int (pa_cons pe_int (pa_cons pe_int (pa_cons pe_int pa_nil)))))) (pe_callB (call_min2 rfl) (by rfl) T.b_min (by decide +kernel) (pa_cons pe_int (pa_cons (pe_callB call_len_seq (by rfl) T.b_len PySem.boot_len (pa_cons (pv 3) pa_nil)) pa_nil))) (fun _ _ => rfl)) (nomark _)) (pss_one (ps_ret pe_bl)) pss_nil)
      (pss_cons (ps_for PassesOwn.never rfl (pi_range2 (by rfl) T.b_range (pa_cons pe_int (pa_cons (pe_callB call_len_seq (by rfl) T.b_len PySem.boot_len (pa_cons (pv 5) pa_nil)) pa_nil))) (pg_name (i := 6) nd rfl (.inl rfl))
        (pss_cons (ps_set (i := 7) nd rfl (.inl rfl) (pe_tup (pa_cons (pe_callB call_len_seq (by rfl) T.b_len PySem.boot_len (pa_cons (pe_ix ix_list (pv 5) (pe_op op_sub (pv 6) pe_int) (fun _ _ => rfl)) pa_nil)) (pa_cons (pe_ix ix_list (pv 5) (pe_op op_sub (pv 6) pe_int) (fun _ _ => rfl)) pa_nil))))
        (pss_one (ps_if (PW.pt (pw_or (pt_not (pt_cmpR (op_ltD hu) (pv 7) (pe_tup (pa_cons (pe_callB call_len_seq (by rfl) T.b_len PySem.boot_len (pa_cons (pe_ix ix_list (pv 5) (pv 6) (fun _ _ => rfl)) pa_nil)) (pa_cons (pe_ix ix_list (pv 5) (pv 6) (fun _ _ => rfl)) pa_nil))) (nomark _)))
            (pw_or1 (pt_cmpR (op_neD hu) (pe_call F4 r1 (by rfl) m4 kp4 b4 .nil pass0 (pa_cons (pe_ix ix_list (pv 5) (pv 6) (fun _ _ => rfl)) (pa_cons (pv 3) pa_nil))) (pe_tup pa_nil) (nomark _))))) (pss_one (ps_ret pe_bl)) pss_nil))))
      (pss_one (ps_ret (pe_cmpR (op_eqD hu) (pe_ix ix_list (pv 5) pe_int (fun _ _ => rfl)) (pe_tup pa_nil) (nomark _)))))))))))), ?_⟩
    case c1 =>
      rintro De σ H1 ⟨a9, b9, rfl, h9, kk⟩
      have key : ∀ p H2, Ex H1 H2 → H2 p = some (.tup ((ps.take 4).map V.int)) → spSubs [.ref p] H2 (fun out H3 => ∀ q, H3 q = none → De.nx [some (.ref A), some (.ref B), some (.int (n : Nat)), some (.ref a9), some (.ref b9), some (.ref q), none, none, none] (upd H3 q (.lst out))) E0 := fun p H2 e2 hp => by
        refine ⟨p, ps.take 4, rfl, hp, by rw [List.length_take]; omega, fun H3 ys e3 hl q hq => ?_⟩
        exact kk q _ ys ((e2.trans e3).trans (Ex.new hq)) upd_same (hl.mono (Ex.new hq))
      refine ⟨_, rfl, _, rfl, a9, _, rfl, SqT.of h9, fun hw => ?_, fun hw p hp => ?_⟩
      · refine key a9 _ (fun _ _ z => z) ?_
        rw [h9]
        have h2 := hw.2
        rw [show (4 : Int) = ((4 : Nat) : Int) from rfl, HT.sIx_nat, List.length_map] at h2
        rw [List.take_of_length_le (by omega)]
      · refine key p _ (Ex.new hp) ?_
        rw [upd_same, show (4 : Int) = ((4 : Nat) : Int) from rfl]
        unfold cutV
        rw [HT.sIx_nat, HT.sIx_none, List.drop_zero, Nat.sub_zero, List.length_map]
        rw [List.map_take]
        congr 2
        by_cases c : 4 ≤ ps.length
        · rw [Nat.min_eq_left c]
        · rw [Nat.min_eq_right (by omega), List.take_of_length_le (by rw [List.length_map]; exact Nat.le_refl _), List.take_of_length_le (by rw [List.length_map]; omega)]
    have pl := asc_few pas pin (by omega)
    have ql := asc_few qas qin (by omega)
    refine ⟨_, rfl, A, _, rfl, .inl ⟨SqL.of hA, fun a ha => ?_⟩⟩
    have e1 := Ex.new (o := .tup (ps.map V.int)) ha
    have ha1 : upd H a (.tup (ps.map V.int)) a = some (.tup (ps.map V.int)) := upd_same
    generalize upd H a (.tup (ps.map V.int)) = H1 at *
    refine ⟨_, rfl, B, _, rfl, .inl ⟨SqL.of (e1 _ _ hB), fun b hb => ?_⟩⟩
    have e2' := Ex.new (o := .tup (qs.map V.int)) hb
    have hb2 : upd H1 b (.tup (qs.map V.int)) b = some (.tup (qs.map V.int)) := upd_same
    have ha2 := e2' _ _ ha1
    have e2 := e1.trans e2'
    generalize upd H1 b (.tup (qs.map V.int)) = H2 at *
    have low1 : Low ps := ⟨fun z hz => by have := pin z hz; omega⟩
    have low2 : Low qs := ⟨fun z hz => by have := qin z hz; omega⟩
    have hA2 := e2 _ _ hA
    -- set_of
    refine ⟨_, rfl, _, rfl, A, _, rfl, .inl (SqL.of hA2), _, rfl, by rw [List.length_map]; omega, by rw [List.length_map]; omega, fun P hP => lc_it walk_range (fun i H' => Ex H2 H' ∧ H' P = some (.lst ((ps.reverse.take i).map V.int))) ⟨Ex.new hP, upd_same⟩ (fun _ _ _ _ => trivial) ?_ ?_⟩
    · rintro i y H8 H9 hi ⟨e8, hP8⟩ ⟨rfl, rfl⟩
      rw [List.length_map] at hi
      have hil : i < ps.length := by omega
      obtain ⟨z, hz⟩ : ∃ z, ps[ps.length - 1 - i]? = some z := ⟨_, List.getElem?_eq_getElem (by omega)⟩
      have hat : atI (ps.map V.int) (((ps.map V.int).length : Int) - 1 - (0 + (i : Int))) = some (.int z) := by
        rw [List.length_map, show (ps.length : Int) - 1 - (0 + (i : Int)) = ((ps.length - 1 - i : Nat) : Int) by omega]
        exact atI_nat (by rw [List.getElem?_map, hz]; rfl)
      refine ⟨rfl, tYesI ⟨_, rfl, _, rfl, A, _, rfl, .inl (SqL.of (e8 _ _ hA2)), _, _, rfl, rfl, _, rfl, _, _, rfl, rfl, A, _, _, _, rfl, rfl, SqL.of (e8 _ _ hA2), hat, _, hP8, by rw [List.length_map, List.length_take]; exact small1000 (by omega), Evl.Ex.mut e8 hP, ?_⟩⟩
      rw [upd_same, List.take_add_one, List.getElem?_reverse hil, hz, List.map_append]
      rfl
    rintro H3 ⟨e3, hP3⟩
    rw [List.length_map, Int.toNat_natCast, show ps.length = ps.reverse.length by simp, List.take_length] at hP3
    refine ⟨n, .ref P, rfl, by omega, .inl ⟨ps.reverse, ⟨P, rfl, .inl hP3⟩, ⟨(List.reverse_perm _).nodup_iff.mpr (asc_nodup pas), fun z hz => pin z (List.mem_reverse.mp hz), by simp; omega⟩, fun ms H4 p o e4 _ hp4 => ?_⟩⟩
    have hms : ms = ps := asc_eq o.asc pas fun z => (o.mem z).trans List.mem_reverse
    subst hms
    have e24 := e3.trans e4
    refine ⟨_, rfl, itD ms, itD ms, dp_it hp4, dp_it (e24 _ _ ha2), shaped_it _, shaped_it _, _, rfl, iteF' (by rw [eqv_itB, decide_eq_true rfl]; rfl) ?_⟩
    clear hP3 hp4 hP o e3 e4
    -- both
    have ha4 := e24 _ _ ha2
    have hb4 := e24 _ _ hb2
    refine ⟨_, rfl, _, rfl, a, b, ms, qs, rfl, ha4, hb4, low1, low2, by omega, fun rs H5 p hf e5 _ hp5 => ?_⟩
    have ha5 := e5 _ _ ha4
    have hb5 := e5 _ _ hb4
    refine ⟨_, rfl, _, rfl, by omega, by omega, fun P hP => lc_it walk_range (fun i H' => Ex H5 H' ∧ H' P = some (.lst (((upto i).filter fun z => decide (z ∈ ms) || decide (z ∈ qs)).map V.int))) ⟨Ex.new hP, upd_same⟩ (fun _ _ _ _ => trivial) ?_ ?_⟩
    · rintro i y H8 H9 hi ⟨e8, hP8⟩ ⟨rfl, rfl⟩
      have hup : (upto (i + 1)).filter (fun z => decide (z ∈ ms) || decide (z ∈ qs)) = (upto i).filter (fun z => decide (z ∈ ms) || decide (z ∈ qs)) ++ (if (decide ((i : Int) ∈ ms) || decide ((i : Int) ∈ qs)) = true then [(i : Int)] else []) := by
        rw [upto_succ, List.filter_append]
        congr 1
        rw [List.filter_cons, List.filter_nil]
      have hlen : ((upto i).filter fun z => decide (z ∈ ms) || decide (z ∈ qs)).length ≤ 1000 := Nat.le_trans (List.length_filter_le _ _) (by unfold upto; simp; omega)
      show _ ∧ _
      have e0i : (0 + (i : Int)) = (i : Int) := by omega
      refine ⟨rfl, ?_⟩
      refine ⟨_, rfl, _, rfl, a, _, rfl, .inr (SqT.of (e8 _ _ ha5)), rfl, flat_ints _, ?_⟩
      rw [inV_ints, e0i]
      refine ⟨_, rfl, ?_⟩
      by_cases c1 : (i : Int) ∈ ms
      · refine iteT' (decide_eq_true c1) ?_
        refine ⟨_, rfl, _, hP8, by rw [List.length_map]; exact small1000 hlen, Evl.Ex.mut e8 hP, ?_⟩
        rw [upd_same, hup, decide_eq_true c1, Bool.true_or, if_pos rfl, List.map_append]
        show some (HO.lst (_ ++ [V.int (0 + (i : Int))])) = _
        rw [e0i]
        rfl
      · refine iteF' (decide_eq_false c1) ?_
        refine ⟨_, rfl, _, rfl, b, _, rfl, .inr (SqT.of (e8 _ _ hb5)), rfl, flat_ints _, ?_⟩
        rw [inV_ints, e0i]
        refine ⟨_, rfl, ?_⟩
        by_cases c2 : (i : Int) ∈ qs
        · refine iteT' (decide_eq_true c2) ?_
          refine ⟨_, rfl, _, hP8, by rw [List.length_map]; exact small1000 hlen, Evl.Ex.mut e8 hP, ?_⟩
          rw [upd_same, hup, decide_eq_true c2, Bool.or_true, if_pos rfl, List.map_append]
          show some (HO.lst (_ ++ [V.int (0 + (i : Int))])) = _
          rw [e0i]
          rfl
        · refine iteF' (decide_eq_false c2) ⟨e8, ?_⟩
          rw [hup, decide_eq_false c1, decide_eq_false c2, Bool.or_self, if_neg Bool.false_ne_true, List.append_nil]
          exact hP8
    rintro H6 ⟨e6, hP6⟩
    rw [Int.toNat_natCast] at hP6
    refine ⟨P, _, rfl, .inl ⟨SqL.of hP6, fun t ht => ?_⟩⟩
    have e7 := Ex.new (o := .tup (((upto n).filter fun z => decide (z ∈ ms) || decide (z ∈ qs)).map V.int)) ht
    have hrs : rs = (upto n).filter fun z => decide (z ∈ ms) || decide (z ∈ qs) := filt_eq hf ((upto_asc n).filter _) fun z => by
      rw [List.mem_filter, upto_mem]
      constructor
      · exact fun h => h.2
      · intro h
        refine ⟨?_, h⟩
        rcases Bool.or_eq_true _ _ ▸ h with h | h
        · exact pin z (of_decide_eq_true h)
        · exact qin z (of_decide_eq_true h)
    refine ⟨itD rs, itD _, dp_it ((e6.trans e7) _ _ hp5), dp_it upd_same, shaped_it _, shaped_it _, _, rfl, iteF' (by rw [eqv_itB, decide_eq_true hrs]; rfl) ?_⟩
    have e27 := ((e24.trans e5).trans e6).trans e7
    generalize upd H6 t (.tup (((upto n).filter fun z => decide (z ∈ ms) || decide (z ∈ qs)).map V.int)) = H7 at *
    clear hP6 hp5 hP ht e6 e7 e5 e24 ha5 hb5 ha4 hb4 hf
    -- common
    have ha4 := e27 _ _ ha2
    have hb4 := e27 _ _ hb2
    refine ⟨_, rfl, _, rfl, a, b, ms, qs, rfl, ha4, hb4, low1, low2, by omega, fun rs H5 p hf e5 _ hp5 => ?_⟩
    have ha5 := e5 _ _ ha4
    have hb5 := e5 _ _ hb4
    refine ⟨_, rfl, a, rfl, ⟨_, SqT.of ha5⟩, fun P hP => lc_it walk_tup (fun i H' => Ex H5 H' ∧ H' P = some (.lst (((ms.take i).filter fun z => decide (z ∈ qs)).map V.int))) ⟨Ex.new hP, upd_same⟩ (fun _ _ _ q => SqT.of (q.1 _ _ ha5)) ?_ ?_⟩
    · rintro i y H8 H9 hi ⟨e8, hP8⟩ ⟨rfl, hy⟩
      obtain ⟨z, hz, rfl⟩ := map_int_get hy
      have hil : i < ms.length := (List.getElem?_eq_some_iff.mp hz).1
      have hup : (ms.take (i + 1)).filter (fun z => decide (z ∈ qs)) = (ms.take i).filter (fun z => decide (z ∈ qs)) ++ (if decide (z ∈ qs) = true then [z] else []) := by
        rw [List.take_add_one, hz, List.filter_append]
        congr 1
        show List.filter _ [z] = _
        rw [List.filter_cons, List.filter_nil]
      have hlen : ((ms.take i).filter fun z => decide (z ∈ qs)).length ≤ 1000 := Nat.le_trans (List.length_filter_le _ _) (by rw [List.length_take]; omega)
      refine ⟨rfl, ?_⟩
      refine ⟨_, rfl, _, rfl, b, _, rfl, .inr (SqT.of (e8 _ _ hb5)), rfl, flat_ints _, ?_⟩
      rw [inV_ints]
      refine ⟨_, rfl, ?_⟩
      by_cases c2 : z ∈ qs
      · refine iteT' (decide_eq_true c2) ⟨_, rfl, _, hP8, by rw [List.length_map]; exact small1000 hlen, Evl.Ex.mut e8 hP, ?_⟩
        rw [upd_same, hup, decide_eq_true c2, if_pos rfl, List.map_append]
        rfl
      · refine iteF' (decide_eq_false c2) ⟨e8, ?_⟩
        rw [hup, decide_eq_false c2, if_neg Bool.false_ne_true, List.append_nil]
        exact hP8
    rintro H6 ⟨e6, hP6⟩
    rw [List.length_map, List.take_length] at hP6
    refine ⟨P, _, rfl, .inl ⟨SqL.of hP6, fun t ht => ?_⟩⟩
    have e7 := Ex.new (o := .tup ((ms.filter fun z => decide (z ∈ qs)).map V.int)) ht
    have hrs : rs = ms.filter fun z => decide (z ∈ qs) := filt_eq hf (pas.filter _) fun z => by
      simp [List.mem_filter]
    refine ⟨itD rs, itD _, dp_it ((e6.trans e7) _ _ hp5), dp_it upd_same, shaped_it _, shaped_it _, _, rfl, iteF' (by rw [eqv_itB, decide_eq_true hrs]; rfl) ?_⟩
    have e29 := ((e27.trans e5).trans e6).trans e7
    generalize upd H6 t (.tup ((ms.filter fun z => decide (z ∈ qs)).map V.int)) = H9 at *
    clear hP6 hp5 hP ht e6 e7 e5 e27 ha5 hb5 ha4 hb4 hf
    -- minus
    have ha4 := e29 _ _ ha2
    have hb4 := e29 _ _ hb2
    refine ⟨_, rfl, _, rfl, a, b, ms, qs, rfl, ha4, hb4, low1, low2, by omega, fun rs H5 p hf e5 _ hp5 => ?_⟩
    have ha5 := e5 _ _ ha4
    have hb5 := e5 _ _ hb4
    refine ⟨_, rfl, a, rfl, ⟨_, SqT.of ha5⟩, fun P hP => lc_it walk_tup (fun i H' => Ex H5 H' ∧ H' P = some (.lst (((ms.take i).filter fun z => !decide (z ∈ qs)).map V.int))) ⟨Ex.new hP, upd_same⟩ (fun _ _ _ q => SqT.of (q.1 _ _ ha5)) ?_ ?_⟩
    · rintro i y H8 Hk hi ⟨e8, hP8⟩ ⟨rfl, hy⟩
      obtain ⟨z, hz, rfl⟩ := map_int_get hy
      have hil : i < ms.length := (List.getElem?_eq_some_iff.mp hz).1
      have hup : (ms.take (i + 1)).filter (fun z => !decide (z ∈ qs)) = (ms.take i).filter (fun z => !decide (z ∈ qs)) ++ (if (!decide (z ∈ qs)) = true then [z] else []) := by
        rw [List.take_add_one, hz, List.filter_append]
        congr 1
        show List.filter _ [z] = _
        rw [List.filter_cons, List.filter_nil]
      have hlen : ((ms.take i).filter fun z => !decide (z ∈ qs)).length ≤ 1000 := Nat.le_trans (List.length_filter_le _ _) (by rw [List.length_take]; omega)
      refine ⟨rfl, ?_⟩
      refine ⟨_, rfl, _, rfl, b, _, rfl, .inr (SqT.of (e8 _ _ hb5)), rfl, flat_ints _, ?_⟩
      rw [inV_ints]
      refine ⟨_, rfl, ?_⟩
      by_cases c2 : z ∈ qs
      · refine iteF' (by rw [decide_eq_true c2]; rfl) ⟨e8, ?_⟩
        rw [hup, decide_eq_true c2, Bool.not_true, if_neg Bool.false_ne_true, List.append_nil]
        exact hP8
      · refine iteT' (by rw [decide_eq_false c2]; rfl) ⟨_, rfl, _, hP8, by rw [List.length_map]; exact small1000 hlen, Evl.Ex.mut e8 hP, ?_⟩
        rw [upd_same, hup, decide_eq_false c2, Bool.not_false, if_pos rfl, List.map_append]
        rfl
    rintro H6 ⟨e6, hP6⟩
    rw [List.length_map, List.take_length] at hP6
    refine ⟨P, _, rfl, .inl ⟨SqL.of hP6, fun t ht => ?_⟩⟩
    have e7 := Ex.new (o := .tup ((ms.filter fun z => !decide (z ∈ qs)).map V.int)) ht
    have hrs : rs = ms.filter fun z => !decide (z ∈ qs) := filt_eq hf (pas.filter _) fun z => by
      simp [List.mem_filter]
    refine ⟨itD rs, itD _, dp_it ((e6.trans e7) _ _ hp5), dp_it upd_same, shaped_it _, shaped_it _, _, rfl, iteF' (by rw [eqv_itB, decide_eq_true hrs]; rfl) ?_⟩
    have e2a := ((e29.trans e5).trans e6).trans e7
    generalize upd H6 t (.tup ((ms.filter fun z => !decide (z ∈ qs)).map V.int)) = Ha at *
    clear hP6 hp5 hP ht e6 e7 e5 e29 ha5 hb5 ha4 hb4 hf
    have haa := e2a _ _ ha2
    refine ⟨a, b, rfl, haa, fun L Hb ys eb hL hl => ?_⟩
    have ha6 := eb _ _ haa
    have e2b := e2a.trans eb
    have hm5 : (ms.take 4).length < 5 := by rw [List.length_take]; omega
    have hmin : (ms.take 4).length = min 4 ms.length := List.length_take
    have hyl : ys.length = [1, 2, 4, 8, 16].getD (ms.take 4).length 0 := by rw [hl.1, all_len _ hm5]
    have hy16 : ys.length ≤ 16 := by
      rw [hyl]
      have : ∀ m, m < 5 → [1, 2, 4, 8, 16].getD m 0 ≤ 16 := by decide
      exact this _ hm5
    have hy1 : 1 ≤ ys.length := by
      rw [hyl]
      have : ∀ m, m < 5 → 1 ≤ [1, 2, 4, 8, 16].getD m 0 := by decide
      exact this _ hm5
    refine ⟨_, rfl, L, _, rfl, .inl (SqL.of hL), (by show 5 ≤ sizeLine; decide), fun M hM => ?_⟩
    have ec := Ex.new (o := .lst [V.int 1, V.int 2, V.int 4, V.int 8, V.int 16]) hM
    have hM1 : upd Hb M (.lst [V.int 1, V.int 2, V.int 4, V.int 8, V.int 16]) M = some (.lst [V.int 1, V.int 2, V.int 4, V.int 8, V.int 16]) := upd_same
    have hL1 := ec _ _ hL
    have hl1 := hl.mono ec
    have ha7 := ec _ _ ha6
    have e2c := e2b.trans ec
    refine ⟨_, rfl, a, _, rfl, .inr (SqT.of ha7), ?_⟩
    generalize upd Hb M (.lst [V.int 1, V.int 2, V.int 4, V.int 8, V.int 16]) = Hc at *
    have hmm : (if ((ms.map V.int).length : Int) < 4 then ((ms.map V.int).length : Int) else 4) = ((ms.take 4).length : Nat) := by
      rw [List.length_map, hmin]
      split <;> omega
    have hat : atI [V.int 1, V.int 2, V.int 4, V.int 8, V.int 16] (((ms.take 4).length : Nat) : Int) = some (.int (([1, 2, 4, 8, 16].getD (ms.take 4).length 0 : Nat) : Int)) := by
      refine atI_nat ?_
      match (ms.take 4).length, hm5 with
      | 0, _ => rfl
      | 1, _ => rfl
      | 2, _ => rfl
      | 3, _ => rfl
      | 4, _ => rfl
      | n + 5, h => omega
    refine ⟨_, _, rfl, ?_⟩
    rw [hmm]
    refine ⟨M, _, _, _, rfl, rfl, SqL.of hM1, hat, rfl, _, rfl, iteF' (by rw [hyl, decide_eq_true rfl]; rfl) ?_⟩
    -- the order
    have tn := all_rise _ hm5
    have tin := all_in _ hm5
    have thd := all_head _ hm5
    have tsz := all_asc _ hm5
    have hll := hl1.1
    generalize hrow : allRows (ms.take 4).length = rows at *
    refine ⟨_, rfl, L, _, rfl, .inl (SqL.of hL1), _, _, rfl, ⟨by omega, by omega, by omega, by omega⟩, for_range (fun i σ H' => (∃ v6 v7 v8 : Option V, σ = [some (.ref A), some (.ref B), some (.int (n : Nat)), some (.ref a), some (.ref b), some (.ref L), v6, v7, v8]) ∧ Ex Hc H') ⟨⟨_, _, _, rfl⟩, fun _ _ z => z⟩ ?_ ?_⟩
    · rintro i σ H1 hi ⟨⟨v6, v7, v8, rfl⟩, ed⟩
      have hiy : i + 1 < ys.length := by omega
      have row : ∀ j, j < rows.length → rows[j]? = some (rows.getD j []) := fun j hj => by rw [List.getD_eq_getElem?_getD, List.getElem?_eq_getElem hj]; rfl
      obtain ⟨q1, hq1, ht1⟩ := hl1.2 i _ (row i (by omega))
      obtain ⟨q2, hq2, ht2⟩ := hl1.2 (i + 1) _ (row (i + 1) (by omega))
      have rise := tn i (by omega)
      have in1 := tin i (by omega)
      have in2 := tin (i + 1) (by omega)
      have sz2 := tsz (i + 1) (by omega)
      generalize rows.getD i [] = l1 at *
      generalize rows.getD (i + 1) [] = l2 at *
      have hk : (1 + (i : Int)) = ((i + 1 : Nat) : Int) := by omega
      show gName 6 (.int (1 + (i : Int))) _ H1 _
      rw [hk]
      have hi1 : atI ys (((i + 1 : Nat) : Int) - 1) = some (.ref q1) := by
        rw [show ((i + 1 : Nat) : Int) - 1 = (i : Nat) by omega]
        exact atI_nat hq1
      have hi2 : atI ys ((i + 1 : Nat) : Int) = some (.ref q2) := atI_nat hq2
      have v1 : (valsAt (ms.take 4) l1).length = l1.length := by unfold valsAt; rw [List.length_map]
      have v2 : (valsAt (ms.take 4) l2).length = l2.length := by unfold valsAt; rw [List.length_map]
      refine ⟨_, rfl, _, rfl, _, _, rfl, rfl, L, _, _, _, rfl, rfl, SqL.of (ed _ _ hL1), hi1, q1, _, rfl, .inr (SqT.of (ed _ _ ht1)), _, rfl, _, rfl, _, _, rfl, rfl, L, _, _, _, rfl, rfl, SqL.of (ed _ _ hL1), hi1, (by show 2 ≤ sizeLine; decide), fun t ht => ?_⟩
      have ee := Ex.new (o := .tup [V.int ((valsAt (ms.take 4) l1).map V.int).length, .ref q1]) ht
      have ht0 : upd H1 t (.tup [V.int ((valsAt (ms.take 4) l1).map V.int).length, .ref q1]) t = some (.tup [V.int ((valsAt (ms.take 4) l1).map V.int).length, .ref q1]) := upd_same
      have ede := ed.trans ee
      generalize upd H1 t (.tup [V.int ((valsAt (ms.take 4) l1).map V.int).length, .ref q1]) = H3 at *
      refine ⟨_, rfl, _, rfl, _, rfl, L, _, _, _, rfl, rfl, SqL.of (ede _ _ hL1), hi2, q2, _, rfl, .inr (SqT.of (ede _ _ ht2)), _, rfl, _, rfl, L, _, _, _, rfl, rfl, SqL.of (ede _ _ hL1), hi2, (by show 2 ≤ sizeLine; decide), fun t2 ht3 => ?_⟩
      have ef := Ex.new (o := .tup [V.int ((valsAt (ms.take 4) l2).map V.int).length, .ref q2]) ht3
      have ht4 : upd H3 t2 (.tup [V.int ((valsAt (ms.take 4) l2).map V.int).length, .ref q2]) t2 = some (.tup [V.int ((valsAt (ms.take 4) l2).map V.int).length, .ref q2]) := upd_same
      have ht0' := ef _ _ ht0
      have edf := ede.trans ef
      generalize upd H3 t2 (.tup [V.int ((valsAt (ms.take 4) l2).map V.int).length, .ref q2]) = H4 at *
      have hlt : PySem.W.dataLt (plD ((valsAt (ms.take 4) l1).map V.int).length (valsAt (ms.take 4) l1)) (plD ((valsAt (ms.take 4) l2).map V.int).length (valsAt (ms.take 4) l2)) = true := by
        rw [lt_pl, List.length_map, List.length_map, v1, v2]
        rcases rise with h | ⟨h, h2⟩
        · rw [if_neg (by omega)]
          exact decide_eq_true (by omega)
        · rw [if_pos (by omega)]
          exact vals_lt (pas.sublist (List.take_sublist _ _)) in1 in2 h2
      refine ⟨plD _ (valsAt (ms.take 4) l1), plD _ (valsAt (ms.take 4) l2), .tup (SqT.of ht0') (.cons (.int _) (.cons (dp_it (edf _ _ ht1)) .nil)), .tup (SqT.of ht4) (.cons (.int _) (.cons (dp_it (edf _ _ ht2)) .nil)), alike_pl _ _ _ _, (fun z => by cases z), depth_pl _ _, _, rfl, ?_⟩
      refine iteF' (by rw [hlt]; rfl) ?_
      -- within
      refine ⟨_, rfl, _, rfl, L, _, _, _, rfl, rfl, SqL.of (edf _ _ hL1), hi2, _, rfl, q2, a, valsAt (ms.take 4) l2, ms, rfl, edf _ _ ht2, edf _ _ ha7, ⟨fun z hz => low1.inn z (List.mem_of_mem_take (vals_in in2 z hz))⟩, low1, by rw [v2]; omega, fun rs H5 p hf eg _ hp => ?_⟩
      have hrs : rs = [] := List.eq_nil_iff_forall_not_mem.mpr fun z hz => by
        have h := (hf.2 z).mp hz
        rw [Bool.and_eq_true, decide_eq_true_eq, Bool.not_eq_true', decide_eq_false_iff_not] at h
        exact h.2 (List.mem_of_mem_take (vals_in in2 z h.1))
      subst hrs
      refine ⟨(by show 0 ≤ sizeLine; decide), fun t3 ht5 => ?_⟩
      have eh := Ex.new (o := .tup []) ht5
      refine ⟨itD [], itD [], dp_it (eh _ _ hp), dp_it upd_same, shaped_it _, shaped_it _, _, rfl, iteF' (by rw [eqv_itB, decide_eq_true rfl]; rfl) ?_⟩
      exact ⟨⟨_, _, _, rfl⟩, (edf.trans eg).trans eh⟩
    · rintro σ H1 ⟨⟨v6, v7, v8, rfl⟩, ed⟩
      obtain ⟨q0, hq0, ht0⟩ := hl1.2 0 _ thd
      refine ⟨_, rfl, L, _, _, _, rfl, rfl, SqL.of (ed _ _ hL1), atI_nat (j := 0) hq0, (by show 0 ≤ sizeLine; decide), fun t3 ht5 => ?_⟩
      have eh := Ex.new (o := .tup []) ht5
      refine ⟨itD [], itD [], dp_it (eh _ _ (ed _ _ ht0)), dp_it upd_same, shaped_it _, shaped_it _, ?_⟩
      rw [eqv_itB, decide_eq_true rfl]
      exact k _ (e2.trans (e2c.trans (ed.trans eh)))
end
end K00


set_option Elab.async false
set_option linter.all false
set_option maxRecDepth 100000
set_option maxHeartbeats 4000000
namespace K00
open PySem PySem.Spec PyProof.Rows L2 RZ StX
open Evl (Ex)
open IsE
/-! the covers of all places together are the lengths of the runs -/
def indR (r : Int × Int) (j : Int) : Int := if r.1 ≤ j ∧ j < r.2 then 1 else 0
theorem covAt_cons' (rs : List (Int × Int)) (p : Int) (ps : List Int) (j : Int) : covAt rs (p :: ps) j = indR (rs.getD p.toNat (0, 0)) j + covAt rs ps j := by
  rw [covAt_cons]
  unfold indR
  omega
def sumTo (f : Int → Int) : Nat → Int
  | 0 => 0
  | n + 1 => sumTo f n + f (n : Int)
theorem sumTo_row (f : Int → Int) : ∀ s : Nat, (rowOf s f).sum = sumTo f s
  | 0 => rfl
  | s + 1 => by
    have ih := sumTo_row f s
    unfold rowOf at ih ⊢
    rw [List.range_succ, List.map_append, List.sum_append, ih]
    show sumTo f s + (f (s : Int) + 0) = sumTo f s + f (s : Int)
    omega
theorem sumTo_add (f g : Int → Int) : ∀ s : Nat, sumTo (fun j => f j + g j) s = sumTo f s + sumTo g s
  | 0 => rfl
  | s + 1 => by
    show sumTo (fun j => f j + g j) s + (f s + g s) = (sumTo f s + f s) + (sumTo g s + g s)
    rw [sumTo_add f g s]
    omega
theorem sumTo_congr {f g : Int → Int} (h : ∀ j, f j = g j) : ∀ s : Nat, sumTo f s = sumTo g s
  | 0 => rfl
  | s + 1 => by
    show sumTo f s + f s = sumTo g s + g s
    rw [sumTo_congr h s, h]
theorem sumTo_ind {r : Int × Int} (h0 : 0 ≤ r.1) (h1 : r.1 < r.2) : ∀ s : Nat, sumTo (indR r) s = (if r.2 ≤ (s : Int) then r.2 else (s : Int)) - (if r.1 ≤ (s : Int) then r.1 else (s : Int))
  | 0 => by
    show (0 : Int) = _
    split <;> split <;> omega
  | s + 1 => by
    show sumTo (indR r) s + indR r (s : Int) = _
    rw [sumTo_ind h0 h1 s]
    unfold indR
    split <;> split <;> split <;> split <;> split <;> omega
def lenP (rs : List (Int × Int)) (p : Int) : Int := (rs.getD p.toNat (0, 0)).2 - (rs.getD p.toNat (0, 0)).1
theorem cov_sum {s : Nat} {rs : List (Int × Int)} (hF : ∀ r ∈ rs, Fits s r) : ∀ ps : List Int, (∀ n ∈ ps, 0 ≤ n ∧ n < rs.length) → (covL s rs ps).sum = (ps.map (lenP rs)).sum
  | [], _ => by
    unfold covL
    rw [sumTo_row]
    have : ∀ s : Nat, sumTo (covAt rs []) s = 0 := by
      intro s
      induction s with
      | zero => rfl
      | succ s ih =>
        show sumTo (covAt rs []) s + covAt rs [] s = 0
        rw [ih]
        rfl
    rw [this]
    rfl
  | p :: ps, h => by
    have ih := cov_sum hF ps fun n hn => h n (List.mem_cons_of_mem _ hn)
    obtain ⟨h0, h1⟩ := h p List.mem_cons_self
    have hn : p.toNat < rs.length := by omega
    have hf := hF _ (List.getElem_mem hn)
    have hg : rs.getD p.toNat (0, 0) = rs[p.toNat] := by rw [List.getD_eq_getElem?_getD, List.getElem?_eq_getElem hn]; rfl
    unfold covL at ih ⊢
    rw [sumTo_row] at ih ⊢
    rw [sumTo_congr (covAt_cons' rs p ps), sumTo_add, ih, List.map_cons, List.sum_cons]
    congr 1
    unfold lenP
    rw [hg, sumTo_ind hf.1 hf.2.1]
    have := hf.2.2
    rw [if_pos this, if_pos (by have := hf.2.1; omega)]
theorem fw_none {bs : List Bool} : fw bs = .non ↔ bs.all id = true := by
  rw [← fw_iff, decide_eq_true_eq]
theorem okRow_join : ∀ C D : List Int, C.length = D.length → ((okRow "join" C D).all id = true ↔ C = D)
  | [], [], _ => ⟨fun _ => rfl, fun _ => rfl⟩
  | [], _ :: _, h => nomatch h
  | _ :: _, [], h => nomatch h
  | c :: C, d :: D, h => by
    have ih := okRow_join C D (Nat.succ.inj h)
    show ((okAt "join" c d && (okRow "join" C D).all id) = true) ↔ _
    rw [Bool.and_eq_true, ih]
    unfold okAt
    have hk : (("join" : Str) = "lap") = False := by
      refine eq_false ?_
      decide +kernel
    simp only [hk, if_false, decide_eq_true_eq, List.cons.injEq]
end K00


set_option Elab.async false
set_option linter.all false
set_option maxRecDepth 100000
set_option maxHeartbeats 4000000
namespace K00
open PySem PySem.Spec PyProof.Rows L2 RZ StX
open Evl (Ex)
open IsE
theorem scal_fw (a b : List Bool) : scal (fw a) (fw b) = true := by
  rcases fw_cases a with h | ⟨n, h⟩ <;> rcases fw_cases b with g | ⟨m, g⟩ <;> rw [h, g] <;> rfl
theorem scal_due (kd : Str) (s : Nat) (rs : List (Int × Int)) (gs D ms : List Int) : scal (dueV kd s rs gs D ms) (dueV kd s rs gs D ms) = true := by
  unfold dueV
  split
  · rfl
  · exact scal_fw _ _
theorem due_eq (kd : Str) (s : Nat) (rs : List (Int × Int)) (gs D ms : List Int) : dueV kd s rs gs D ms = if (ms.any fun p => decide (p ∈ gs)) = true then .int (-1) else fw (okRow kd (covL s rs ms) D) := rfl
section
variable {w : World} {K : PySem.W.Frag} {mg : Str → Option Value} {base : Heap}
def spLaw (K : PySem.W.Frag) : Sp := fun vs H Q _ => ∃ (a : Addr) (ns : List Int), vs = [.ref a] ∧ SqL K H a (ns.map V.int) ∧ ns.length ≤ 63 ∧ ∀ H', Q (.bl true) H'
theorem sc_law : FnScope ["_law_script", "_law_draws_here", "_law_kind_here", "_law_drawn", "_law_size", "_law_runs", "_law_absent", "_law_market_here", "_law_parts_here", "_law_row", "_law_covers", "_law_told", "_law_misfit_here", "_law_missing", "_law_due", "_law_turned", "_law_rises", "_law_run_here", "_law_by", "_law_shifted", "_law_wanted", "_law_part", "_law_k", "_law_place"] ["_law_script"] (defScope s_law) := ⟨rfl, rfl, rfl, by decide +kernel, rfl, by decide +kernel, by decide +kernel⟩
theorem ok_law (T : Ctx K mg) {f : Addr} {fd : FuncData} (F : FunD K "law" "law" (defArgs s_law) (defBody s_law) (defScope s_law) [] [] f fd) : FnOk PP w K mg base CX0 9 f fd ["_law_script"] (spLaw K) := by
  obtain ⟨f1, fd1, m1, kp1, F1, b1⟩ := has_draws (w := w) (base := base) T
  obtain ⟨f2, fd2, m2, kp2, F2, b2⟩ := has_kind (w := w) (base := base) T
  obtain ⟨f3, fd3, m3, kp3, F3, b3⟩ := has_mk (w := w) (base := base) T
  obtain ⟨f4, fd4, m4, kp4, F4, b4⟩ := has_built (w := w) (base := base) T
  obtain ⟨f5, fd5, m5, kp5, F5, b5⟩ := has_parts (w := w) (base := base) T
  obtain ⟨f6, fd6, m6, kp6, F6, b6⟩ := has_demandD (w := w) (base := base) T
  obtain ⟨f7, fd7, m7, kp7, F7, b7⟩ := has_lcover (w := w) (base := base) T
  obtain ⟨f8, fd8, m8, kp8, F8, b8⟩ := has_take (w := w) (base := base) T
  obtain ⟨f9, fd9, m9, kp9, F9, b9⟩ := has_cover (w := w) (base := base) T
  obtain ⟨fA, fdA, mA, kpA, FA, bA⟩ := has_misfitL (w := w) (base := base) T
  obtain ⟨fB, fdB, mB, kpB, FB, bB⟩ := has_misfit_place (w := w) (base := base) T
  obtain ⟨fC, fdC, mC, kpC, FC, bC⟩ := has_is_stock (w := w) (base := base) T
  obtain ⟨fD, fdD, mD, kpD, FD, bD⟩ := has_sref (w := w) (base := base) T
  obtain ⟨fE, fdE, mE, kpE, FE, bE⟩ := has_check_stock (w := w) (base := base) T
  obtain ⟨fG, fdG, mG, kpG, FG, bG⟩ := has_over (w := w) (base := base) T
  obtain ⟨fH, fdH, mH, kpH, FH, bH⟩ := has_beginsL (w := w) (base := base) T
  obtain ⟨fI, fdI, mI, kpI, FI, bI⟩ := has_begins (w := w) (base := base) T
  obtain ⟨fJ, fdJ, mJ, kpJ, FJ, bJ⟩ := has_points (w := w) (base := base) T
  obtain ⟨fK, fdK, mK, kpK, FK, bK⟩ := has_runD (w := w) (base := base) T
  obtain ⟨fL, fdL, mL, kpL, FL, bL⟩ := has_changed (w := w) (base := base) T
  obtain ⟨fM, fdM, mM, kpM, FM, bM⟩ := has_wantedD (w := w) (base := base) T
  obtain ⟨fN, fdN, mN, kpN, FN, bN⟩ := has_wsets (w := w) (base := base) T
  obtain ⟨fO, fdO, mO, kpO, FO, bO⟩ := has_setsr (w := w) (base := base) T
  obtain ⟨fP, fdP, mP, kpP, FP, bP⟩ := has_demand_of (w := w) (base := base) T
  obtain ⟨fQ, fdQ, mQ, kpQ, FQ, bQ⟩ := has_checks (w := w) (base := base) T
  obtain ⟨fR, fdR, mR, kpR, FR, bR⟩ := has_amr (w := w) (base := base) T
  refine ok0 F sc_law (fun vs H Q E h => ?_) (fun cdv A0 outer s0 H vs Q E hr h => ?_)
  · obtain ⟨a, ns, rfl, _⟩ := h
    rfl
  · obtain ⟨a0, ns0, rfl, hS, h63, k⟩ := h
    have nd := sc_law.nd
    have hu := hr.units
    have r1 := hr.mono (show 1 ≤ 8 by decide)
    have r2 := hr.mono (show 2 ≤ 8 by decide)
    have r3 := hr.mono (show 3 ≤ 8 by decide)
    have r4 := hr.mono (show 4 ≤ 8 by decide)
    have r5 := hr.mono (show 5 ≤ 8 by decide)
    have r6 := hr.mono (show 6 ≤ 8 by decide)
    have r7 := hr.mono (show 7 ≤ 8 by decide)
    have r8 := hr.mono (show 8 ≤ 8 by decide)
    refine ⟨_, pss_cons (ps_set (i := 1) nd rfl (.inl rfl) (pe_call F1 r1 (by rfl) m1 kp1 b1 .nil pass0 (pa_cons (pv 0) pa_nil)))
      (pss_cons (ps_set (i := 2) nd rfl (.inl rfl) (pe_call F2 r2 (by rfl) m2 kp2 b2 .nil pass0 (pa_cons (pv 1) pa_nil)))
      (pss_cons (ps_set (i := 3) nd rfl (.inl rfl) (pe_call F3 r3 (by rfl) m3 kp3 b3 .nil pass0 (pa_cons (pv 1) (pa_cons pe_int pa_nil))))
      (pss_cons (ps_set (i := 4) nd rfl (.inl rfl) (pe_ix ix_list (pv 3) pe_int (fun _ _ => rfl)))
      (pss_cons (ps_set (i := 5) nd rfl (.inr rfl) (pe_ix ix_list (pv 3) pe_int (fun _ _ => rfl)))
      (pss_cons (ps_set (i := 6) nd rfl (.inr rfl) (pe_ix ix_list (pv 3) pe_int (fun _ _ => rfl)))
      (pss_cons (PS.nrm (ps_set (i := 7) nd rfl (.inl rfl) (pe_call F4 r8 (by rfl) m4 kp4 b4 .nil pass0 (pa_cons (pv 2) (pa_cons (pv 4) (pa_cons (pe_callTy call_list_of (by rfl) T.b_list (by decide +kernel) (pa_cons (pv 5) pa_nil)) (pa_cons (pe_callTy call_list_of (by rfl) T.b_list (by decide +kernel) (pa_cons (pv 6) pa_nil)) pa_nil)))))))
      (pss_cons (PS.nrm (ps_set (i := 8) nd rfl (.inr rfl) (pe_call F5 r2 (by rfl) m5 kp5 b5 .nil pass0 (pa_cons (pv 1) (pa_cons (pe_callB call_len_seq (by rfl) T.b_len PySem.boot_len (pa_cons (pv 5) pa_nil)) pa_nil)))))
      (pss_cons (PS.nrm (ps_set (i := 9) nd rfl (.inr rfl) (pe_call F6 r3 (by rfl) m6 kp6 b6 .nil pass0 (pa_cons (pv 1) (pa_cons (pv 4) pa_nil)))))
      (pss_cons (PS.nrm (ps_set (i := 10) nd rfl (.inr rfl) (pe_call F7 r1 (by rfl) m7 kp7 b7 .nil pass0 (pa_cons (pv 4) (pa_cons (pv 5) (pa_cons (pv 8) pa_nil))))))
      (pss_cons ((ps_if (pt_cmpR op_eq (pe_call F8 r1 (by rfl) m8 kp8 b8 .nil pass0 (pa_cons (pv 1) (pa_cons pe_int pa_nil))) pe_int (nomark _)) (pss_one (ps_set (i := 9) nd rfl (.inr rfl) (pe_callTy call_list_of (by rfl) T.b_list (by decide +kernel) (pa_cons (pv 10) pa_nil)))) pss_nil).imp
            (t' := fun De σ H => ∃ (v0 v2 v3 v4 v5 v6 v7 : Option V) (D A R C : Addr) (ds cs : List Int), σ = [v0, some (.ref D), v2, v3, v4, v5, v6, v7, some (.ref A), some (.ref R), some (.ref C), none, none, none, none, none, none, none, none, none, none, none, none, none] ∧ Dr D H ∧ R ≠ D ∧ C ≠ D ∧ H R = some (.lst (ds.map V.int)) ∧ H C = some (.lst (cs.map V.int)) ∧ ds.length = cs.length ∧
              ∀ (R' : Addr) (ds' : List Int) (H' : Hp), Kp D H H' → Dr D H' → R' ≠ D → H' R' = some (.lst (ds'.map V.int)) → ds'.length = cs.length → De.nx [v0, some (.ref D), v2, v3, v4, v5, v6, v7, some (.ref A), some (.ref R'), some (.ref C), none, none, none, none, none, none, none, none, none, none, none, none, none] H') ?c1)
      (pss_cons (PS.nrm (ps_set (i := 11) nd rfl (.inl rfl) (pe_call F9 r4 (by rfl) m9 kp9 b9 .nil (E := E0) (pass_none rfl rfl) (pa_cons (pv 7) (pa_cons (pe_callTy call_list_of (by rfl) T.b_list (by decide +kernel) (pa_cons (pv 8) pa_nil)) pa_nil)))))
      (pss_cons (PS.nrm (ps_if (PW.pt (pw_or (pt_not (pt_val (pe_callB call_isi (by rfl) T.b_isinstance (by decide +kernel) (pa_cons (pv 11) (pa_cons (pe_bltn (by rfl) T.b_tuple (by decide +kernel) (v := .ty "tuple") rfl) pa_nil))))) (pw_or1 (pt_cmpR (op_neD hu) (pe_callTy call_list_of (by rfl) T.b_list (by decide +kernel) (pa_cons (pv 11) pa_nil)) (pv 10) (nomark _))))) (pss_one (ps_ret pe_bl)) pss_nil))
      (pss_cons (PS.nrm (ps_if (pt_cmpR op_ne (pe_callB (cr_sum rfl) (by rfl) T.b_sum (by decide +kernel) (pa_cons (pv 10) pa_nil)) (pe_callB (cr_sum rfl) (by rfl) T.b_sum (by decide +kernel) (pa_cons (pe_lc (own := [("_law_part", 21)]) (g := gName 21) (tt := tYes) rfl nd (pi_list (pv 8)) (blkOk_by (own := [("_law_part", 21)]) (N := ["_law_script", "_law_draws_here", "_law_kind_here", "_law_drawn", "_law_size", "_law_runs", "_law_absent", "_law_market_here", "_law_parts_here", "_law_row", "_law_covers", "_law_told", "_law_misfit_here", "_law_missing", "_law_due", "_law_turned", "_law_rises", "_law_run_here", "_law_by", "_law_shifted", "_law_wanted", "_law_part", "_law_k", "_law_place"]) (sc := defScope s_law) (by decide +kernel)) (fun _ _ _ _ _ => pg_name (i := 21) nd rfl (Or.inl rfl)) (fun _ _ _ _ _ => pts_nil) (fun _ _ _ _ _ => (pe_op op_sub (pe_ix (ix_tupK (K := K) rfl) (pe_ix (ix_listK (K := K) rfl) (pv 5) (pv 21) (fun _ _ => rfl)) pe_int (fun _ _ => rfl)) (pe_ix (ix_tupK (K := K) rfl) (pe_ix (ix_listK (K := K) rfl) (pv 5) (pv 21) (fun _ _ => rfl)) pe_int (fun _ _ => rfl))))) pa_nil)) (nomark _)) (pss_one (ps_ret pe_bl)) pss_nil))
      (pss_cons (PS.nrm (ps_set (i := 12) nd rfl (.inl rfl) (pe_call FA r1 (by rfl) mA kpA bA .nil pass0 (pa_cons (pv 2) (pa_cons (pv 10) (pa_cons (pv 9) pa_nil))))))
      (pss_cons (PS.nrm (ps_set (i := 13) nd rfl (.inl rfl) (pe_cmpR op_gt (pe_callB call_len_seq (by rfl) T.b_len PySem.boot_len (pa_cons (pe_lc (own := [("_law_part", 21)]) (g := gName 21) rfl nd (pi_list (pv 8)) (blkOk_by (own := [("_law_part", 21)]) (N := ["_law_script", "_law_draws_here", "_law_kind_here", "_law_drawn", "_law_size", "_law_runs", "_law_absent", "_law_market_here", "_law_parts_here", "_law_row", "_law_covers", "_law_told", "_law_misfit_here", "_law_missing", "_law_due", "_law_turned", "_law_rises", "_law_run_here", "_law_by", "_law_shifted", "_law_wanted", "_law_part", "_law_k", "_law_place"]) (sc := defScope s_law) (by decide +kernel)) (fun _ _ _ _ _ => pg_name (i := 21) nd rfl (Or.inl rfl)) (fun _ _ _ _ _ => pts_one (pt_cmpR (op_inK (K := K) rfl) (pv 21) (pv 6) (by rfl))) (fun _ _ _ _ _ => (pv 21))) pa_nil)) pe_int (nomark _))))
      (pss_cons (PS.nrm (ps_if (pt_cmpR op_ne (pe_call FB r4 (by rfl) mB kpB bB .nil (E := E0) (pass_none rfl rfl) (pa_cons (pv 7) (pa_cons (pv 9) (pa_cons (pv 8) pa_nil)))) (pv 12) (nomark _)) (pss_one (ps_ret pe_bl)) pss_nil))
      (pss_cons ((ps_if (pt_cmpR op_ne (pe_call FC r5 (by rfl) mC kpC bC .nil (E := E0) (pass_none rfl rfl) (pa_cons (pv 7) (pa_cons (pe_callTy call_list_of (by rfl) T.b_list (by decide +kernel) (pa_cons (pv 9) pa_nil)) (pa_cons (pe_callTy call_list_of (by rfl) T.b_list (by decide +kernel) (pa_cons (pv 8) pa_nil)) pa_nil)))) (pe_and (pe_cmpR op_isN (pv 12) pe_non (nomark _)) (pe_one (pe_not (pv 13)))) (nomark _)) (pss_one (ps_ret pe_bl)) pss_nil).imp
            (t' := fun De σ H => ∃ (x R A : Addr) (kd : Str) (s : Nat) (us : List V) (rs : List (Int × Int)) (gs ds ps : List Int), σ[7]? = some (some (.ref x)) ∧ σ[8]? = some (some (.ref A)) ∧ σ[9]? = some (some (.ref R)) ∧ σ[12]? = some (some (fw (okRow kd (covL s rs ps) ds))) ∧ σ[13]? = some (some (.bl (ps.any fun p => decide (p ∈ gs)))) ∧
              Mkt K H x kd (s : Int) us rs gs ∧ s ≤ 50 ∧ (∀ r ∈ rs, Fits s r) ∧ us.length < 60 ∧ H R = some (.lst (ds.map V.int)) ∧ ds.length = s ∧ H A = some (.lst (ps.map V.int)) ∧ Parts us.length ps ∧ ps.Pairwise (· < ·) ∧ ∀ H', Ex H H' → De.nx σ H') ?c3)
      (pss_cons (PS.nrm (ps_set (i := 14) nd rfl (.inl rfl) (pv 12)))
      (pss_cons ((ps_if (pt_val (pv 13)) (pss_one (ps_set (i := 14) nd rfl (.inl rfl) (pe_un un_neg pe_int))) pss_nil).imp
            (t' := fun De σ H => ∃ (v0 v1 v2 v3 v4 v5 v6 v7 v8 v9 v10 v11 v12 : Option V) (m : Bool) (dv : V), σ = [v0, v1, v2, v3, v4, v5, v6, v7, v8, v9, v10, v11, v12, some (.bl m), some dv, none, none, none, none, none, none, none, none, none] ∧ De.nx [v0, v1, v2, v3, v4, v5, v6, v7, v8, v9, v10, v11, v12, some (.bl m), some (if m = true then .int (-1) else dv), none, none, none, none, none, none, none, none, none] H) ?c2)
      (pss_cons (PS.nrm (ps_if (pt_cmpR op_ne (pe_call FD r6 (by rfl) mD kpD bD .nil pass0 (pa_cons (pv 7) (pa_cons (pv 9) (pa_cons (pv 8) pa_nil)))) (pv 14) (nomark _)) (pss_one (ps_ret pe_bl)) pss_nil))
      (pss_cons (PS.nrm (ps_setLc (own := [("_law_k", 22)]) (i := 15) (g := gName 22) (tt := tYes) rfl nd rfl rfl rfl (pi_range1 (by rfl) T.b_range (pa_cons (pe_callB call_len_seq (by rfl) T.b_len PySem.boot_len (pa_cons (pv 8) pa_nil)) pa_nil)) (blkOk_by (own := [("_law_k", 22)]) (N := ["_law_script", "_law_draws_here", "_law_kind_here", "_law_drawn", "_law_size", "_law_runs", "_law_absent", "_law_market_here", "_law_parts_here", "_law_row", "_law_covers", "_law_told", "_law_misfit_here", "_law_missing", "_law_due", "_law_turned", "_law_rises", "_law_run_here", "_law_by", "_law_shifted", "_law_wanted", "_law_part", "_law_k", "_law_place"]) (sc := defScope s_law) (by decide +kernel)) (fun _ _ _ _ _ => pg_name (i := 22) nd rfl (Or.inl rfl)) (fun _ _ _ _ _ => pts_nil) (fun _ _ _ _ _ => (pe_ix (ix_listK (K := K) rfl) (pv 8) (pe_op op_sub (pe_op op_sub (pe_callB (call_lenX (K := K) rfl) (by rfl) T.b_len PySem.boot_len (pa_cons (pv 8) pa_nil)) pe_int) (pv 22)) (fun _ _ => rfl)))))
      (pss_cons ((ps_if (PW.pt (pw_and (pt_cmpR op_isN (pv 14) pe_non (nomark _)) (pw_and1 (pt_cmpR (op_neD hu) (pe_call FE r5 (by rfl) mE kpE bE .nil (E := E0) (pass_none rfl rfl) (pa_cons (pv 7) (pa_cons (pv 9) (pa_cons (pv 15) pa_nil)))) (pe_callTy call_tuple_of (by rfl) T.b_tuple (by decide +kernel) (pa_cons (pv 8) pa_nil)) (nomark _))))) (pss_one (ps_ret pe_bl)) pss_nil).imp
            (t' := fun De σ H => ∃ (x R A A2 : Addr) (kd : Str) (s : Nat) (us : List V) (rs : List (Int × Int)) (gs ds ps : List Int), σ[7]? = some (some (.ref x)) ∧ σ[8]? = some (some (.ref A)) ∧ σ[9]? = some (some (.ref R)) ∧ σ[14]? = some (some (dueV kd s rs gs ds ps)) ∧ σ[15]? = some (some (.ref A2)) ∧
              Mkt K H x kd (s : Int) us rs gs ∧ s ≤ 50 ∧ (∀ r ∈ rs, Fits s r) ∧ us.length < 60 ∧ H R = some (.lst (ds.map V.int)) ∧ ds.length = s ∧ H A = some (.lst (ps.map V.int)) ∧ H A2 = some (.lst (ps.reverse.map V.int)) ∧ Parts us.length ps ∧ ps.Pairwise (· < ·) ∧ ∀ H', Ex H H' → De.nx σ H') ?c5)
      (pss_cons (PS.nrm (ps_if (pt_cmpR (op_neD hu) (pe_call FG r4 (by rfl) mG kpG bG .nil (E := E0) (pass_none rfl rfl) (pa_cons (pv 7) (pa_cons (pv 9) (pa_cons (pv 8) pa_nil)))) (pe_callTy call_tuple_of (by rfl) T.b_tuple (by decide +kernel) (pa_cons (pe_lc (own := [("_law_place", 23)]) (g := gName 23) rfl nd (pi_range1 (by rfl) T.b_range (pa_cons (pv 4) pa_nil)) (blkOk_by (own := [("_law_place", 23)]) (N := ["_law_script", "_law_draws_here", "_law_kind_here", "_law_drawn", "_law_size", "_law_runs", "_law_absent", "_law_market_here", "_law_parts_here", "_law_row", "_law_covers", "_law_told", "_law_misfit_here", "_law_missing", "_law_due", "_law_turned", "_law_rises", "_law_run_here", "_law_by", "_law_shifted", "_law_wanted", "_law_part", "_law_k", "_law_place"]) (sc := defScope s_law) (by decide +kernel)) (fun _ _ _ _ _ => pg_name (i := 23) nd rfl (Or.inl rfl)) (fun _ _ _ _ _ => pts_one (pt_cmpR op_gt (pe_ix (ix_listK (K := K) rfl) (pv 10) (pv 23) (fun _ _ => rfl)) (pe_ix (ix_listK (K := K) rfl) (pv 9) (pv 23) (fun _ _ => rfl)) (nomark _))) (fun _ _ _ _ _ => (pv 23))) pa_nil)) (nomark _)) (pss_one (ps_ret pe_bl)) pss_nil))
      (pss_cons (PS.nrm (ps_set (i := 16) nd rfl (.inl rfl) (pe_call FH r1 (by rfl) mH kpH bH .nil pass0 (pa_cons (pv 9) pa_nil))))
      (pss_cons (PS.nrm (ps_if (pt_cmpR (op_neD hu) (pe_call FI r3 (by rfl) mI kpI bI .nil (E := E0) (pass_none rfl rfl) (pa_cons (pv 7) (pa_cons (pv 9) pa_nil))) (pe_callTy call_tuple_of (by rfl) T.b_tuple (by decide +kernel) (pa_cons (pv 16) pa_nil)) (nomark _)) (pss_one (ps_ret pe_bl)) pss_nil))
      (pss_cons ((ps_if (PW.pt (pw_and (pt_cmpR op_eq (pv 2) pe_str (nomark _)) (pw_and1 (pt_cmpR op_ne (pe_call FJ r1 (by rfl) mJ kpJ bJ .nil pass0 (pa_cons (pv 4) (pa_cons (pv 5) (pa_cons (pv 8) (pa_cons (pv 16) pa_nil))))) (pe_cmpR op_isN (pv 12) pe_non (nomark _)) (nomark _))))) (pss_one (ps_ret pe_bl)) pss_nil).imp
            (t' := fun De σ H => ∃ (M A B : Addr) (kd : Str) (s : Nat) (us : List V) (rs : List (Int × Int)) (ds ps : List Int), σ[2]? = some (some (.str kd)) ∧ σ[4]? = some (some (.int (s : Nat))) ∧ σ[5]? = some (some (.ref M)) ∧ σ[8]? = some (some (.ref A)) ∧ σ[12]? = some (some (fw (okRow kd (covL s rs ps) ds))) ∧ σ[16]? = some (some (.ref B)) ∧
              s ≤ 50 ∧ H M = some (.lst us) ∧ Runs H us rs ∧ (∀ r ∈ rs, Fits s r) ∧ H A = some (.lst (ps.map V.int)) ∧ (∀ n ∈ ps, 0 ≤ n ∧ n < (rs.length : Int)) ∧ ps.length ≤ 100 ∧ ds.length = s ∧ H B = some (.lst ((begL ds).map V.int)) ∧ (kd = "join" ∨ kd = "lap") ∧ ∀ H', Ex H H' → De.nx σ H') ?c4)
      (pss_cons (PS.nrm (ps_set (i := 17) nd rfl (.inr rfl) (pe_call FK r2 (by rfl) mK kpK bK .nil pass0 (pa_cons (pv 1) (pa_cons (pv 4) pa_nil)))))
      (pss_cons (PS.nrm (ps_set (i := 18) nd rfl (.inr rfl) (pe_op op_sub (pe_call F8 r1 (by rfl) m8 kp8 b8 .nil pass0 (pa_cons (pv 1) (pa_cons pe_int pa_nil))) pe_int)))
      (pss_cons (PS.nrm (ps_setLc (own := [("_law_place", 23)]) (i := 19) (g := gName 23) (tt := tYes) rfl nd rfl rfl rfl (pi_range1 (by rfl) T.b_range (pa_cons (pv 4) pa_nil)) (blkOk_by (own := [("_law_place", 23)]) (N := ["_law_script", "_law_draws_here", "_law_kind_here", "_law_drawn", "_law_size", "_law_runs", "_law_absent", "_law_market_here", "_law_parts_here", "_law_row", "_law_covers", "_law_told", "_law_misfit_here", "_law_missing", "_law_due", "_law_turned", "_law_rises", "_law_run_here", "_law_by", "_law_shifted", "_law_wanted", "_law_part", "_law_k", "_law_place"]) (sc := defScope s_law) (by decide +kernel)) (fun _ _ _ _ _ => pg_name (i := 23) nd rfl (Or.inl rfl)) (fun _ _ _ _ _ => pts_nil) (fun _ _ _ _ _ => (pe_op op_add (pe_ix (ix_listK (K := K) rfl) (pv 9) (pv 23) (fun _ _ => rfl)) (pe_op op_mul (pv 18) (pe_callTy call_int1 (by rfl) T.b_int (by decide +kernel) (pa_cons (pe_chain op_le op_lt (pe_ix (ix_tupK (K := K) rfl) (pv 17) pe_int (fun _ _ => rfl)) (pv 23) (pe_ix (ix_tupK (K := K) rfl) (pv 17) pe_int (fun _ _ => rfl))) pa_nil)))))))
      (pss_cons (PS.nrm (ps_if (pt_cmpR (op_neD hu) (pe_call FL r5 (by rfl) mL kpL bL .nil (E := E0) (pass_none rfl rfl) (pa_cons (pv 7) (pa_cons (pv 9) (pa_cons (pv 17) (pa_cons (pv 18) pa_nil))))) (pe_callTy call_tuple_of (by rfl) T.b_tuple (by decide +kernel) (pa_cons (pv 19) pa_nil)) (nomark _)) (pss_one (ps_ret pe_bl)) pss_nil))
      (pss_cons (PS.nrm (ps_set (i := 20) nd rfl (.inr rfl) (pe_call FM r2 (by rfl) mM kpM bM .nil pass0 (pa_cons (pv 1) pa_nil))))
      (pss_cons (PS.nrm (ps_if (pt_cmpR op_ne (pe_call FC r5 (by rfl) mC kpC bC .nil (E := E0) (pass_none rfl rfl) (pa_cons (pv 7) (pa_cons (pv 20) (pa_cons (pv 8) pa_nil)))) (pe_call FC r5 (by rfl) mC kpC bC .nil (E := E0) (pass_none rfl rfl) (pa_cons (pv 7) (pa_cons (pe_lc (own := [("_law_place", 23)]) (g := gName 23) (tt := tYes) rfl nd (pi_range1 (by rfl) T.b_range (pa_cons (pv 4) pa_nil)) (blkOk_by (own := [("_law_place", 23)]) (N := ["_law_script", "_law_draws_here", "_law_kind_here", "_law_drawn", "_law_size", "_law_runs", "_law_absent", "_law_market_here", "_law_parts_here", "_law_row", "_law_covers", "_law_told", "_law_misfit_here", "_law_missing", "_law_due", "_law_turned", "_law_rises", "_law_run_here", "_law_by", "_law_shifted", "_law_wanted", "_law_part", "_law_k", "_law_place"]) (sc := defScope s_law) (by decide +kernel)) (fun _ _ _ _ _ => pg_name (i := 23) nd rfl (Or.inl rfl)) (fun _ _ _ _ _ => pts_nil) (fun _ _ _ _ _ => (pv 20))) (pa_cons (pv 8) pa_nil)))) (nomark _)) (pss_one (ps_ret pe_bl)) pss_nil))
      (pss_cons (PS.nrm (ps_if (pt_not (pt_val (pe_call FN r8 (by rfl) mN kpN bN .nil pass0 (pa_cons (pv 1) (pa_cons (pv 7) (pa_cons (pv 9) (pa_cons (pv 8) (pa_cons (pe_callB call_len_seq (by rfl) T.b_len PySem.boot_len (pa_cons (pv 5) pa_nil)) pa_nil)))))))) (pss_one (ps_ret pe_bl)) pss_nil))
      (pss_cons (PS.nrm (ps_if (pt_not (pt_val (pe_call FO r7 (by rfl) mO kpO bO .nil pass0 (pa_cons (pv 8) (pa_cons (pe_call F5 r2 (by rfl) m5 kp5 b5 .nil pass0 (pa_cons (pv 1) (pa_cons (pe_callB call_len_seq (by rfl) T.b_len PySem.boot_len (pa_cons (pv 5) pa_nil)) pa_nil))) (pa_cons (pe_callB call_len_seq (by rfl) T.b_len PySem.boot_len (pa_cons (pv 5) pa_nil)) pa_nil)))))) (pss_one (ps_ret pe_bl)) pss_nil))
      (pss_cons (PS.nrm (ps_if (PW.pt (pw_or (pt_cmpR (op_neD hu) (pe_call FP r2 (by rfl) mP kpP bP .nil (E := E0) (pass_none rfl rfl) (pa_cons (pv 7) (pa_cons (pe_callTy call_list_of (by rfl) T.b_list (by decide +kernel) (pa_cons (pv 9) pa_nil)) pa_nil))) (pe_callTy call_tuple_of (by rfl) T.b_tuple (by decide +kernel) (pa_cons (pv 9) pa_nil)) (nomark _)) (pw_or1 (pt_not (pt_val (pe_call FQ r6 (by rfl) mQ kpQ bQ .nil pass0 (pa_cons (pv 7) (pa_cons (pv 2) (pa_cons (pv 4) (pa_cons (pv 5) (pa_cons (pv 6) (pa_cons (pv 20) pa_nil)))))))))))) (pss_one (ps_ret pe_bl)) pss_nil))
      ((pss_one (ps_ret (pe_call FR r5 (by rfl) mR kpR bR .nil pass0 (pa_cons (pv 1) pa_nil)))))))))))))))))))))))))))))))))))))))), ?_⟩
    case c1 =>
      rintro De σ H ⟨v0, v2, v3, v4, v5, v6, v7, D, A, R, C, ds, cs, rfl, hD, hRD, hCD, hR, hC, hl, k⟩
      refine ⟨_, rfl, D, 3, rfl, hD, by decide, fun wd H1 w0 w1 k1 d1 => ⟨rfl, _, rfl, ?_⟩⟩
      have hR1 := k1 _ _ hRD hR
      have hC1 := k1 _ _ hCD hC
      by_cases c : V.int wd = V.int 0
      · refine iteT' (decide_eq_true c) ⟨_, rfl, C, _, rfl, .inl (SqL.of hC1), fun p hp => ?_⟩
        exact k p cs _ (k1.trans (Kp.of (Ex.new hp))) (d1.ex (Ex.new hp)) (Kp.ne d1 hp) upd_same rfl
      · exact iteF' (decide_eq_false c) (k R ds H1 k1 d1 hRD hR1 hl)
    case c2 =>
      rintro De σ H ⟨v0, v1, v2, v3, v4, v5, v6, v7, v8, v9, v10, v11, v12, m, dv, rfl, k⟩
      refine ⟨_, rfl, m, rfl, ?_⟩
      cases m with
      | true => exact iteT' rfl ⟨_, rfl, k⟩
      | false => exact iteF' rfl k
    case c3 =>
      rintro De σ H ⟨x, R, A, kd, s, us, rs, gs, ds, ps, h7, h8, h9, h12, h13, Mk, hs50, hF, hu60, hR, hdl, hA, Pt, pas, kk⟩
      refine ⟨_, h7, _, h9, R, _, rfl, .inl (SqL.of hR), fun p1 hp1 => ?_⟩
      have e1 := Ex.new (o := .lst (ds.map V.int)) hp1
      have hp1' : upd H p1 (.lst (ds.map V.int)) p1 = some (.lst (ds.map V.int)) := upd_same
      generalize upd H p1 (.lst (ds.map V.int)) = H1 at *
      refine ⟨_, h8, A, _, rfl, .inl (SqL.of (e1 _ _ hA)), fun p2 hp2 => ?_⟩
      have e2 := Ex.new (o := .lst (ps.map V.int)) hp2
      refine ⟨x, kd, s, us, rs, gs, _, _, rfl, (Mk.ex e1).ex e2, by omega, hF, by omega, .inl ⟨ds, ps, .inr ⟨⟨p1, rfl, .inl (e2 _ _ hp1')⟩, hdl⟩, ⟨p2, rfl, .inl upd_same⟩, Pt, fun ms' om H2 e3 => ?_⟩⟩
      have hms := (om.same pas).symm
      subst hms
      have stk : stockB kd s rs gs ds ps = (decide (fw (okRow kd (covL s rs ps) ds) = .non) && !(ps.any fun p => decide (p ∈ gs))) := by
        rw [fw_iff, Bool.and_comm]
        rfl
      refine ⟨_, h12, rfl, ?_⟩
      by_cases cf : fw (okRow kd (covL s rs ps) ds) = .non
      · refine ⟨_, rfl, iteT' (decide_eq_true cf) ⟨_, h13, _, rfl, rfl, _, rfl, iteF' (by rw [stk, decide_eq_true cf, Bool.true_and, decide_eq_true rfl]; rfl) ?_⟩⟩
        exact kk _ ((e1.trans e2).trans e3)
      · refine ⟨_, rfl, iteF' (decide_eq_false cf) ⟨rfl, _, rfl, iteF' (by rw [stk, decide_eq_false cf, Bool.false_and, decide_eq_true rfl]; rfl) ?_⟩⟩
        exact kk _ ((e1.trans e2).trans e3)
    case c5 =>
      rintro De σ H ⟨x, R, A, A2, kd, s, us, rs, gs, ds, ps, h7, h8, h9, h14, h15, Mk, hs50, hF, hu60, hR, hdl, hA, hA2, Pt, pas, kk⟩
      refine ⟨_, h14, rfl, ?_⟩
      by_cases cd : dueV kd s rs gs ds ps = .non
      · refine ⟨_, rfl, iteT' (decide_eq_true cd) ?_⟩
        have hany : (ps.any fun p => decide (p ∈ gs)) = false := by
          cases h : ps.any fun p => decide (p ∈ gs) with
          | false => rfl
          | true =>
            unfold dueV at cd
            rw [h, if_pos rfl] at cd
            cases cd
        have hfw : fw (okRow kd (covL s rs ps) ds) = .non := by
          unfold dueV at cd
          rw [hany, if_neg Bool.false_ne_true] at cd
          exact cd
        have hrev : (ps.reverse).Nodup := (List.reverse_perm _).nodup_iff.mpr Pt.nd
        refine ⟨_, h7, _, h9, _, h15, x, kd, s, us, rs, gs, _, _, rfl, Mk, by omega, hF, by omega, .inl ⟨ds, ps.reverse, .inr ⟨⟨R, rfl, .inl hR⟩, hdl⟩, ⟨A2, rfl, .inl hA2⟩, ⟨hrev, fun z hz => Pt.inn z (List.mem_reverse.mp hz), by have := Pt.few; simp; omega⟩, fun ms' om => ?_⟩⟩
        have hms : ms' = ps := asc_eq om.asc pas fun z => (om.mem z).trans List.mem_reverse
        subst hms
        refine And.intro (fun h => by rw [hany] at h; cases h) fun _ => And.intro (fun n hn => by rw [hfw] at hn; cases hn) fun _ H1 q e1 hq => ?_
        refine ⟨_, h8, A, _, rfl, .inl ⟨SqL.of (e1 _ _ hA), fun l hl => ?_⟩⟩
        have e2 := Ex.new (o := .tup (ms'.map V.int)) hl
        refine ⟨itD ms', itD ms', dp_it (e2 _ _ hq), dp_it upd_same, shaped_it _, shaped_it _, _, rfl, iteF' (by rw [eqv_itB, decide_eq_true rfl]; rfl) ?_⟩
        exact kk _ (e1.trans e2)
      · exact ⟨_, rfl, iteF' (decide_eq_false cd) (iteF' rfl (kk _ fun _ _ z => z))⟩
    case c4 =>
      rintro De σ H ⟨M, A, B, kd, s, us, rs, ds, ps, h2, h4, h5, h8, h12, h16, hs50, hM, RR, hF, hA, inn, hl100, hdl, hB, hkd, kk⟩
      refine ⟨_, h2, rfl, ?_⟩
      rcases hkd with rfl | rfl
      · refine ⟨_, rfl, iteT' (decide_eq_true rfl) ?_⟩
        refine ⟨_, h4, _, h5, _, h8, _, h16, s, M, A, B, us, rs, ps, ds, rfl, by omega, hM, RR, hF, hA, inn, by omega, hdl, hB, fun H1 e1 => ?_⟩
        have hcl : (covL s rs ps).length = s := by unfold covL rowOf; rw [List.length_map, List.length_range]
        have hj : decide (fw (okRow "join" (covL s rs ps) ds) = .non) = decide (covL s rs ps = ds) := by
          rw [decide_eq_decide, fw_none, okRow_join _ _ (by omega)]
        refine ⟨_, h12, rfl, rfl, _, rfl, iteF' (by rw [hj, decide_eq_true rfl]; rfl) ?_⟩
        exact kk _ e1
      · exact ⟨_, rfl, iteF' (by decide +kernel) (iteF' rfl (kk _ fun _ _ z => z))⟩
    refine ⟨_, rfl, a0, ns0, rfl, hS, h63, fun H1 D e1 hD0 hD => ?_⟩
    refine ⟨_, rfl, D, rfl, hD, fun kd H2 hkd k2 d2 => ?_⟩
    refine ⟨_, rfl, D, rfl, d2, fun L M G s us rs H3 k3 d3 hM hL hL3 hM3 R3 hF hs1 hs8 hl9 hG0 hG => ?_⟩
    obtain ⟨s, rfl⟩ : ∃ n : Nat, s = n := ⟨s.toNat, by omega⟩
    have hLD : L ≠ D := Kp.ne d2 hL
    have hMD : M ≠ D := Kp.ne d2 hM
    have hGD : G ≠ D := Kp.ne d2 hG0
    obtain ⟨gs, hg3, gasc, ginn⟩ := hG
    have hul := R3.len
    refine ⟨_, rfl, L, _, 0, _, rfl, rfl, SqL.of hL3, atI_nat (j := 0) rfl, ?_⟩
    refine ⟨_, rfl, L, _, 1, _, rfl, rfl, SqL.of hL3, atI_nat (j := 1) rfl, ?_⟩
    refine ⟨_, rfl, L, _, 2, _, rfl, rfl, SqL.of hL3, atI_nat (j := 2) rfl, ?_⟩
    refine ⟨[some (.ref a0), some (.ref D), some (.str kd), some (.ref L), some (.int (s : Nat)), some (.ref M), some (.ref G), none, none, none, none, none, none, none, none, none, none, none, none, none, none, none, none, none], rfl, ?_⟩
    refine ⟨_, rfl, _, rfl, _, rfl, M, us, rfl, .inl (SqL.of hM3), fun p hp => ?_⟩
    have e4 : Ex H3 (upd H3 p (.lst us)) := Ex.new hp
    have hp4 : upd H3 p (.lst us) p = some (.lst us) := upd_same
    generalize upd H3 p (.lst us) = H4 at *
    refine ⟨_, rfl, G, _, rfl, .inl (SqL.of (e4 _ _ hg3)), fun g hg => ?_⟩
    have e5 : Ex H4 (upd H4 g (.lst (gs.map V.int))) := Ex.new hg
    refine ⟨kd, s, p, g, us, rs, gs, rfl, hkd, ⟨e5 _ _ hp4, (R3.ex e4).ex e5, hF, by omega, upd_same, gasc, ginn, ⟨hs1, by omega⟩⟩, fun x H5 e5' hx Mk => ?_⟩
    have e35 := (e4.trans e5).trans e5'
    have d5 := d3.ex e35
    have hM5 := e35 _ _ hM3
    have hG5 := e35 _ _ hg3
    clear e4 e5 e5' e35 d3 hL3 hM3 hg3 R3 hS k2 k3 hp4 hg hp hD hD0 e1
    -- parts
    refine ⟨[some (.ref a0), some (.ref D), some (.str kd), some (.ref L), some (.int (s : Nat)), some (.ref M), some (.ref G), some (.ref x), none, none, none, none, none, none, none, none, none, none, none, none, none, none, none, none], rfl, ?_⟩
    refine ⟨_, rfl, _, rfl, M, us, rfl, .inl (SqL.of hM5), D, _, rfl, d5, by omega, by omega, fun A ps H6 k6 d6 hA0 hA6 pas pin => ?_⟩
    have hAD : A ≠ D := Kp.ne d5 hA0
    have hM6 := k6 _ _ hMD hM5
    have hG6 := k6 _ _ hGD hG5
    have Mk6 := kp_mkt d5 k6 Mk
    clear Mk hM5 hG5 d5 k6 hA0
    have lps := asc_few pas pin (by omega)
    have pinr : ∀ n ∈ ps, 0 ≤ n ∧ n < (rs.length : Int) := fun n hn => by have := pin n hn; omega
    have Pt : Parts us.length ps := ⟨asc_nodup pas, fun n hn => by have := pin n hn; omega, by omega⟩
    -- the demand
    refine ⟨[some (.ref a0), some (.ref D), some (.str kd), some (.ref L), some (.int (s : Nat)), some (.ref M), some (.ref G), some (.ref x), some (.ref A), none, none, none, none, none, none, none, none, none, none, none, none, none, none, none], rfl, ?_⟩
    refine ⟨_, rfl, _, rfl, D, s, rfl, d6, by omega, by omega, fun R0 ds0 H7 k7 d7 hR0 hR7 hdl0 => ?_⟩
    have hRD0 : R0 ≠ D := Kp.ne d6 hR0
    have hM7 := k7 _ _ hMD hM6
    have hG7 := k7 _ _ hGD hG6
    have hA7 := k7 _ _ hAD hA6
    have Mk7 := kp_mkt d6 k7 Mk6
    clear Mk6 hM6 hG6 hA6 d6 k7 hR0
    -- the covers
    refine ⟨[some (.ref a0), some (.ref D), some (.str kd), some (.ref L), some (.int (s : Nat)), some (.ref M), some (.ref G), some (.ref x), some (.ref A), some (.ref R0), none, none, none, none, none, none, none, none, none, none, none, none, none, none], rfl, ?_⟩
    refine ⟨_, rfl, _, rfl, _, rfl, s, M, A, us, rs, ps, rfl, by omega, hM7, Mk7.runs, hF, hA7, pinr, fun H8 C e8 hC0 hC8 => ?_⟩
    have hCD : C ≠ D := Kp.ne d7 hC0
    have d8 := d7.ex e8
    have hcl : (covL s rs ps).length = s := by unfold covL rowOf; rw [List.length_map, List.length_range]
    refine ⟨_, _, _, _, _, _, _, D, A, R0, C, ds0, covL s rs ps, rfl, d8, hRD0, hCD, e8 _ _ hR7, hC8, by omega, fun R ds H9 k9 d9 hRD hR9 hdl => ?_⟩
    rw [hcl] at hdl
    have k89 := (Kp.of e8).trans k9
    have hM9 := k89 _ _ hMD hM7
    have hG9 := k89 _ _ hGD hG7
    have hA9 := k89 _ _ hAD hA7
    have hC9 := k9 _ _ hCD hC8
    have Mk9 := kp_mkt d7 k89 Mk7
    clear Mk7 hM7 hG7 hA7 d7 k9 hC0 hR7 hC8 d8 k89 e8 hRD0 hdl0 ds0 R0
    have dem : ∀ {H' : Hp}, H' R = some (.lst (ds.map V.int)) → Dem H' s (.ref R) ds := fun h => .inr ⟨⟨R, rfl, .inl h⟩, hdl⟩
    have rowA : ∀ {H' : Hp}, H' A = some (.lst (ps.map V.int)) → RowI H' (.ref A) ps := fun h => ⟨A, rfl, .inl h⟩
    -- told
    refine ⟨[some (.ref a0), some (.ref D), some (.str kd), some (.ref L), some (.int (s : Nat)), some (.ref M), some (.ref G), some (.ref x), some (.ref A), some (.ref R), some (.ref C), none, none, none, none, none, none, none, none, none, none, none, none, none], rfl, ?_⟩
    refine ⟨_, rfl, _, rfl, A, _, rfl, .inl (SqL.of hA9), fun p hp => ?_⟩
    have ea := Ex.new (o := .lst (ps.map V.int)) hp
    refine ⟨x, kd, s, us, rs, gs, _, rfl, Mk9.ex ea, by omega, hF, .inl ⟨ps, ⟨p, rfl, .inl upd_same⟩, Pt, fun ms om Hb q1 eb hq1 => ?_⟩⟩
    have hms := (om.same pas).symm
    subst hms
    have e9b := ea.trans eb
    refine ⟨[some (.ref a0), some (.ref D), some (.str kd), some (.ref L), some (.int (s : Nat)), some (.ref M), some (.ref G), some (.ref x), some (.ref A), some (.ref R), some (.ref C), some (.ref q1), none, none, none, none, none, none, none, none, none, none, none, none], rfl, ?_⟩
    refine ⟨_, rfl, _, _, _, _, true, rfl, .ty "tuple", .base (.tup hq1), kit_ty (by decide +kernel), true, rfl, iteF ?_⟩
    refine ⟨_, rfl, q1, _, rfl, .inr (SqT.of hq1), fun p2 hp2 => ?_⟩
    have ec := Ex.new (o := .lst ((covL s rs ps).map V.int)) hp2
    refine ⟨_, rfl, ilD _, ilD (covL s rs ps), dp_il upd_same, dp_il ((e9b.trans ec) _ _ hC9), shaped_il _, shaped_il _, _, rfl, iteF' (by rw [eqv_il]; rfl) ?_⟩
    have e9c := e9b.trans ec
    have hM := e9c _ _ hM9
    have hG := e9c _ _ hG9
    have hA := e9c _ _ hA9
    have hC := e9c _ _ hC9
    have hR := e9c _ _ hR9
    have Mk := Mk9.ex e9c
    have dd := d9.ex e9c
    generalize upd Hb p2 (.lst ((covL s rs ps).map V.int)) = Hc at *
    clear ea eb e9b ec e9c hM9 hG9 hA9 hC9 hR9 Mk9 d9 hq1 hp2 hp om
    -- the sums
    refine ⟨[some (.ref a0), some (.ref D), some (.str kd), some (.ref L), some (.int (s : Nat)), some (.ref M), some (.ref G), some (.ref x), some (.ref A), some (.ref R), some (.ref C), some (.ref q1), none, none, none, none, none, none, none, none, none, none, none, none], rfl, ?_⟩
    refine ⟨_, rfl, C, covL s rs ps, rfl, SqL.of hC, ?_⟩
    refine ⟨_, rfl, A, rfl, ⟨_, SqL.of hA⟩, fun P hP => lc_it walk_list (fun i H' => Ex Hc H' ∧ H' P = some (.lst (((ps.take i).map (lenP rs)).map V.int))) ⟨Ex.new hP, upd_same⟩ (fun _ _ _ q => SqL.of (q.1 _ _ hA)) ?_ ?_⟩
    · rintro i y H8 Hk hi ⟨e8, hP8⟩ ⟨rfl, hy⟩
      obtain ⟨z, hz, rfl⟩ := map_int_get hy
      have hil : i < ps.length := (List.getElem?_eq_some_iff.mp hz).1
      obtain ⟨z0, z1⟩ := pinr z (List.mem_of_getElem? hz)
      have hzn : z.toNat < rs.length := by omega
      obtain ⟨tr, htr, htt⟩ := (Mk.runs.ex e8).at_ z.toNat _ (List.getElem?_eq_getElem hzn)
      have hgd : rs.getD z.toNat (0, 0) = rs[z.toNat] := by
        rw [List.getD_eq_getElem?_getD, List.getElem?_eq_getElem hzn]
        rfl
      have hat : atI us z = some (.ref tr) := by
        have := atI_nat htr
        rwa [show ((z.toNat : Nat) : Int) = z by omega] at this
      refine ⟨rfl, tYesI ?_⟩
      refine ⟨_, rfl, _, rfl, M, us, _, _, rfl, rfl, SqL.of (e8 _ _ hM), hat, tr, _, 1, _, rfl, rfl, SqT.of htt, atI_nat (j := 1) rfl, ?_⟩
      refine ⟨_, rfl, _, rfl, M, us, _, _, rfl, rfl, SqL.of (e8 _ _ hM), hat, tr, _, 0, _, rfl, rfl, SqT.of htt, atI_nat (j := 0) rfl, _, _, rfl, rfl, _, hP8, by rw [List.length_map, List.length_map, List.length_take]; exact small1000 (by omega), Evl.Ex.mut e8 hP, ?_⟩
      rw [upd_same, List.take_add_one, hz, List.map_append, List.map_append]
      show _ = some (HO.lst (_ ++ [V.int (lenP rs z)]))
      unfold lenP
      rw [hgd]
    rintro Hd ⟨ed, hPd⟩
    rw [List.length_map, List.take_length] at hPd
    refine ⟨P, _, rfl, SqL.of hPd, rfl, _, rfl, iteF' (by rw [cov_sum hF ps pinr, decide_eq_true rfl]; rfl) ?_⟩
    have hM := ed _ _ hM
    have hG := ed _ _ hG
    have hA := ed _ _ hA
    have hC := ed _ _ hC
    have hR := ed _ _ hR
    have Mk := Mk.ex ed
    have dd := dd.ex ed
    clear ed hPd hP
    -- the misfit
    refine ⟨[some (.ref a0), some (.ref D), some (.str kd), some (.ref L), some (.int (s : Nat)), some (.ref M), some (.ref G), some (.ref x), some (.ref A), some (.ref R), some (.ref C), some (.ref q1), none, none, none, none, none, none, none, none, none, none, none, none], rfl, ?_⟩
    refine ⟨_, rfl, _, rfl, _, rfl, kd, C, R, covL s rs ps, ds, rfl, hkd, hC, hR, by omega, by omega, ?_⟩
    -- missing
    refine ⟨[some (.ref a0), some (.ref D), some (.str kd), some (.ref L), some (.int (s : Nat)), some (.ref M), some (.ref G), some (.ref x), some (.ref A), some (.ref R), some (.ref C), some (.ref q1), some (fw (okRow kd (covL s rs ps) ds)), none, none, none, none, none, none, none, none, none, none, none], rfl, ?_⟩
    refine ⟨_, rfl, A, rfl, ⟨_, SqL.of hA⟩, fun P hP => lc_it walk_list (fun i H' => Ex Hd H' ∧ H' P = some (.lst (((ps.take i).filter fun z => decide (z ∈ gs)).map V.int))) ⟨Ex.new hP, upd_same⟩ (fun _ _ _ q => SqL.of (q.1 _ _ hA)) ?_ ?_⟩
    · rintro i y H8 Hk hi ⟨e8, hP8⟩ ⟨rfl, hy⟩
      obtain ⟨z, hz, rfl⟩ := map_int_get hy
      have hil : i < ps.length := (List.getElem?_eq_some_iff.mp hz).1
      have hup : (ps.take (i + 1)).filter (fun z => decide (z ∈ gs)) = (ps.take i).filter (fun z => decide (z ∈ gs)) ++ (if decide (z ∈ gs) = true then [z] else []) := by
        rw [List.take_add_one, hz, List.filter_append]
        congr 1
        show List.filter _ [z] = _
        rw [List.filter_cons, List.filter_nil]
      have hlen : ((ps.take i).filter fun z => decide (z ∈ gs)).length ≤ 1000 := Nat.le_trans (List.length_filter_le _ _) (by rw [List.length_take]; omega)
      refine ⟨rfl, ?_⟩
      refine ⟨_, rfl, _, rfl, G, _, rfl, .inl (SqL.of (e8 _ _ hG)), rfl, flat_ints _, ?_⟩
      rw [inV_ints]
      refine ⟨_, rfl, ?_⟩
      by_cases c2 : z ∈ gs
      · refine iteT' (decide_eq_true c2) ⟨_, rfl, _, hP8, by rw [List.length_map]; exact small1000 hlen, Evl.Ex.mut e8 hP, ?_⟩
        rw [upd_same, hup, decide_eq_true c2, if_pos rfl, List.map_append]
        rfl
      · refine iteF' (decide_eq_false c2) ⟨e8, ?_⟩
        rw [hup, decide_eq_false c2, if_neg Bool.false_ne_true, List.append_nil]
        exact hP8
    rintro He ⟨ee, hPe⟩
    rw [List.length_map, List.take_length] at hPe
    have hM := ee _ _ hM
    have hG := ee _ _ hG
    have hA := ee _ _ hA
    have hC := ee _ _ hC
    have hR := ee _ _ hR
    have Mk := Mk.ex ee
    have dd := dd.ex ee
    have hmiss : decide ((0 : Int) < ((((ps.filter fun z => decide (z ∈ gs)).map V.int).length : Nat) : Int)) = ps.any fun p => decide (p ∈ gs) := by
      rw [Bool.eq_iff_iff, decide_eq_true_eq, List.any_eq_true, List.length_map]
      constructor
      · intro h
        obtain ⟨z, hz⟩ := List.exists_mem_of_length_pos (l := ps.filter fun z => decide (z ∈ gs)) (by omega)
        rw [List.mem_filter] at hz
        exact ⟨z, hz⟩
      · rintro ⟨z, hz⟩
        have := List.length_pos_of_mem (List.mem_filter (p := fun z => decide (z ∈ gs)).mpr hz)
        omega
    refine ⟨P, _, rfl, .inl (SqL.of hPe), _, _, rfl, rfl, ?_⟩
    show gName 13 (.bl (decide ((0 : Int) < ((((ps.filter fun z => decide (z ∈ gs)).map V.int).length : Nat) : Int)))) _ He _
    rw [hmiss]
    clear ee hPe hP hmiss
    -- misfit_place
    refine ⟨[some (.ref a0), some (.ref D), some (.str kd), some (.ref L), some (.int (s : Nat)), some (.ref M), some (.ref G), some (.ref x), some (.ref A), some (.ref R), some (.ref C), some (.ref q1), some (fw (okRow kd (covL s rs ps) ds)), some (.bl (ps.any fun p => decide (p ∈ gs))), none, none, none, none, none, none, none, none, none, none], rfl, ?_⟩
    refine ⟨_, rfl, _, rfl, _, rfl, x, kd, s, us, rs, gs, _, _, rfl, Mk, by omega, hF, by omega, .inl ⟨ds, ps, dem hR, rowA hA, Pt, fun ms' om Hf ef => ?_⟩⟩
    have hms := (om.same pas).symm
    subst hms
    refine ⟨_, rfl, scal_fw _ _, _, rfl, iteF' (by rw [decide_eq_true rfl]; rfl) ?_⟩
    have hM := ef _ _ hM
    have hG := ef _ _ hG
    have hA := ef _ _ hA
    have hC := ef _ _ hC
    have hR := ef _ _ hR
    have Mk := Mk.ex ef
    have dd := dd.ex ef
    clear ef om
    -- is_stock
    refine ⟨x, R, A, kd, s, us, rs, gs, ds, ps, rfl, rfl, rfl, rfl, rfl, Mk, by omega, hF, by omega, hR, hdl, hA, Pt, pas, fun H1 e1 => ?_⟩
    have hM := e1 _ _ hM
    have hG := e1 _ _ hG
    have hA := e1 _ _ hA
    have hC := e1 _ _ hC
    have hR := e1 _ _ hR
    have Mk := Mk.ex e1
    have dd := dd.ex e1
    clear e1
    -- due
    refine ⟨[some (.ref a0), some (.ref D), some (.str kd), some (.ref L), some (.int (s : Nat)), some (.ref M), some (.ref G), some (.ref x), some (.ref A), some (.ref R), some (.ref C), some (.ref q1), some (fw (okRow kd (covL s rs ps) ds)), some (.bl (ps.any fun p => decide (p ∈ gs))), none, none, none, none, none, none, none, none, none, none], rfl, ?_⟩
    refine ⟨_, rfl, ?_⟩
    refine ⟨_, _, _, _, _, _, _, _, _, _, _, _, _, _, _, rfl, ?_⟩
    refine ⟨[some (.ref a0), some (.ref D), some (.str kd), some (.ref L), some (.int (s : Nat)), some (.ref M), some (.ref G), some (.ref x), some (.ref A), some (.ref R), some (.ref C), some (.ref q1), some (fw (okRow kd (covL s rs ps) ds)), some (.bl (ps.any fun p => decide (p ∈ gs))), some (dueV kd s rs gs ds ps), none, none, none, none, none, none, none, none, none], rfl, ?_⟩
    refine ⟨_, rfl, _, rfl, _, rfl, x, kd, s, us, rs, gs, ds, ps, _, _, rfl, Mk, by omega, hF, by omega, dem hR, rowA hA, Pt, pas, fun H2 e2 => ?_⟩
    refine ⟨_, rfl, scal_due _ _ _ _ _ _, _, rfl, iteF' (by rw [decide_eq_true rfl]; rfl) ?_⟩
    have hM := e2 _ _ hM
    have hG := e2 _ _ hG
    have hA := e2 _ _ hA
    have hC := e2 _ _ hC
    have hR := e2 _ _ hR
    have Mk := Mk.ex e2
    have dd := dd.ex e2
    clear e2
    -- turned
    refine ⟨[some (.ref a0), some (.ref D), some (.str kd), some (.ref L), some (.int (s : Nat)), some (.ref M), some (.ref G), some (.ref x), some (.ref A), some (.ref R), some (.ref C), some (.ref q1), some (fw (okRow kd (covL s rs ps) ds)), some (.bl (ps.any fun p => decide (p ∈ gs))), some (dueV kd s rs gs ds ps), none, none, none, none, none, none, none, none, none], rfl, ?_⟩
    refine ⟨_, rfl, A, _, rfl, .inl (SqL.of hA), _, rfl, by rw [List.length_map]; omega, by rw [List.length_map]; omega, fun A2 hA2 => lc_it walk_range (fun i H' => Ex H2 H' ∧ H' A2 = some (.lst ((ps.reverse.take i).map V.int))) ⟨Ex.new hA2, upd_same⟩ (fun _ _ _ _ => trivial) ?_ ?_⟩
    · rintro i y H8 H9 hi ⟨e8, hP8⟩ ⟨rfl, rfl⟩
      rw [List.length_map] at hi
      have hil : i < ps.length := by omega
      obtain ⟨z, hz⟩ : ∃ z, ps[ps.length - 1 - i]? = some z := ⟨_, List.getElem?_eq_getElem (by omega)⟩
      have hat : atI (ps.map V.int) (((ps.map V.int).length : Int) - 1 - (0 + (i : Int))) = some (.int z) := by
        rw [List.length_map, show (ps.length : Int) - 1 - (0 + (i : Int)) = ((ps.length - 1 - i : Nat) : Int) by omega]
        exact atI_nat (by rw [List.getElem?_map, hz]; rfl)
      refine ⟨rfl, tYesI ⟨_, rfl, _, rfl, A, _, rfl, .inl (SqL.of (e8 _ _ hA)), _, _, rfl, rfl, _, rfl, _, _, rfl, rfl, A, _, _, _, rfl, rfl, SqL.of (e8 _ _ hA), hat, _, hP8, by rw [List.length_map, List.length_take]; exact small1000 (by omega), Evl.Ex.mut e8 hA2, ?_⟩⟩
      rw [upd_same, List.take_add_one, List.getElem?_reverse hil, hz, List.map_append]
      rfl
    rintro H3 ⟨e3, hP3⟩
    rw [List.length_map, Int.toNat_natCast, show ps.length = ps.reverse.length by simp, List.take_length] at hP3
    have hM := e3 _ _ hM
    have hG := e3 _ _ hG
    have hA := e3 _ _ hA
    have hC := e3 _ _ hC
    have hR := e3 _ _ hR
    have Mk := Mk.ex e3
    have dd := dd.ex e3
    clear e3 hA2
    -- check_stock
    refine ⟨x, R, A, A2, kd, s, us, rs, gs, ds, ps, rfl, rfl, rfl, rfl, rfl, Mk, by omega, hF, by omega, hR, hdl, hA, hP3, Pt, pas, fun H4 e4 => ?_⟩
    have hM := e4 _ _ hM
    have hG := e4 _ _ hG
    have hA := e4 _ _ hA
    have hC := e4 _ _ hC
    have hR := e4 _ _ hR
    have Mk := Mk.ex e4
    have dd := dd.ex e4
    clear e4 hP3
    -- over
    refine ⟨[some (.ref a0), some (.ref D), some (.str kd), some (.ref L), some (.int (s : Nat)), some (.ref M), some (.ref G), some (.ref x), some (.ref A), some (.ref R), some (.ref C), some (.ref q1), some (fw (okRow kd (covL s rs ps) ds)), some (.bl (ps.any fun p => decide (p ∈ gs))), some (dueV kd s rs gs ds ps), some (.ref A2), none, none, none, none, none, none, none, none], rfl, ?_⟩
    refine ⟨_, rfl, _, rfl, _, rfl, x, kd, s, us, rs, gs, _, _, rfl, Mk, by omega, hF, by omega, .inl ⟨ds, ps, dem hR, rowA hA, Pt, fun ms' om H5 q5 e5 hq5 => ?_⟩⟩
    have hms := (om.same pas).symm
    subst hms
    have hC5 := e5 _ _ hC
    have hR5 := e5 _ _ hR
    refine ⟨_, rfl, _, rfl, by omega, by omega, fun P hP => lc_it walk_range (fun i H' => Ex H5 H' ∧ H' P = some (.lst ((overL i (covL s rs ps) ds).map V.int))) ⟨Ex.new hP, upd_same⟩ (fun _ _ _ _ => trivial) ?_ ?_⟩
    · rintro i v H8 H9 hi ⟨e8, hP8⟩ ⟨rfl, rfl⟩
      have his : i < s := by omega
      generalize covL s rs ps = cv at *
      have g1 : cv[i]? = some (cv.getD i 0) := by rw [List.getD_eq_getElem?_getD, List.getElem?_eq_getElem (by omega)]; rfl
      have g2 : ds[i]? = some (ds.getD i 0) := by rw [List.getD_eq_getElem?_getD, List.getElem?_eq_getElem (by omega)]; rfl
      have at1 : ∀ (xs : List Int) (z : Int), xs[i]? = some z → atI (xs.map V.int) (0 + (i : Int)) = some (.int z) := fun xs z hz => by
        rw [Int.zero_add]
        exact atI_nat (by rw [List.getElem?_map, hz]; rfl)
      refine ⟨rfl, ?_⟩
      refine ⟨_, rfl, _, rfl, C, _, _, _, rfl, rfl, SqL.of (e8 _ _ hC5), at1 _ _ g1, _, rfl, _, rfl, R, _, _, _, rfl, rfl, SqL.of (e8 _ _ hR5), at1 _ _ g2, _, _, rfl, rfl, _, rfl, ?_⟩
      have hr1 : overL (i + 1) cv ds = overL i cv ds ++ if overF cv ds i = true then [(i : Int)] else [] := by
        unfold overL
        rw [List.range_succ, List.filter_append, List.map_append]
        congr 1
        cases h : overF cv ds i with
        | false =>
          rw [List.filter_cons_of_neg (by rw [h]; decide)]
          rfl
        | true =>
          rw [List.filter_cons_of_pos h]
          rfl
      rw [hr1]
      have hlen := overL_len i cv ds
      unfold overF
      by_cases cc : ds.getD i 0 < cv.getD i 0
      · rw [decide_eq_true cc]
        refine iteT ⟨_, rfl, _, hP8, by rw [List.length_map]; exact small1000 (by omega), Evl.Ex.mut e8 hP, ?_⟩
        rw [upd_same, if_pos rfl, List.map_append]
        show some (HO.lst ((overL i cv ds).map V.int ++ [V.int (0 + (i : Int))])) = _
        rw [Int.zero_add]
        rfl
      · rw [decide_eq_false cc]
        refine iteF ⟨e8, ?_⟩
        rw [if_neg Bool.false_ne_true, List.append_nil]
        exact hP8
    rintro H6 ⟨e6, hP6⟩
    rw [Int.toNat_natCast] at hP6
    refine ⟨P, _, rfl, .inl ⟨SqL.of hP6, fun l hl => ?_⟩⟩
    have e7 := Ex.new (o := .tup ((overL s (covL s rs ps) ds).map V.int)) hl
    refine ⟨itD (overL s (covL s rs ps) ds), itD _, dp_it ((e6.trans e7) _ _ hq5), dp_it upd_same, shaped_it _, shaped_it _, _, rfl, iteF' (by rw [eqv_itB, decide_eq_true rfl]; rfl) ?_⟩
    have e57 := (e5.trans e6).trans e7
    generalize upd H6 l (.tup ((overL s (covL s rs ps) ds).map V.int)) = H7 at *
    have hM := e57 _ _ hM
    have hG := e57 _ _ hG
    have hA := e57 _ _ hA
    have hC := e57 _ _ hC
    have hR := e57 _ _ hR
    have Mk := Mk.ex e57
    have dd := dd.ex e57
    clear e5 e6 e7 e57 hP6 hl hq5 hC5 hR5 hP om
    -- rises
    refine ⟨[some (.ref a0), some (.ref D), some (.str kd), some (.ref L), some (.int (s : Nat)), some (.ref M), some (.ref G), some (.ref x), some (.ref A), some (.ref R), some (.ref C), some (.ref q1), some (fw (okRow kd (covL s rs ps) ds)), some (.bl (ps.any fun p => decide (p ∈ gs))), some (dueV kd s rs gs ds ps), some (.ref A2), none, none, none, none, none, none, none, none], rfl, ?_⟩
    refine ⟨_, rfl, R, ds, rfl, hR, by omega, fun H8 B e8 hB0 hB8 => ?_⟩
    have hBD : B ≠ D := Kp.ne dd hB0
    have hM := e8 _ _ hM
    have hG := e8 _ _ hG
    have hA := e8 _ _ hA
    have hC := e8 _ _ hC
    have hR := e8 _ _ hR
    have Mk := Mk.ex e8
    have dd := dd.ex e8
    clear e8 hB0
    -- begins
    refine ⟨[some (.ref a0), some (.ref D), some (.str kd), some (.ref L), some (.int (s : Nat)), some (.ref M), some (.ref G), some (.ref x), some (.ref A), some (.ref R), some (.ref C), some (.ref q1), some (fw (okRow kd (covL s rs ps) ds)), some (.bl (ps.any fun p => decide (p ∈ gs))), some (dueV kd s rs gs ds ps), some (.ref A2), some (.ref B), none, none, none, none, none, none, none], rfl, ?_⟩
    refine ⟨_, rfl, _, rfl, x, kd, s, us, rs, gs, _, rfl, Mk, by omega, .inl ⟨ds, dem hR, fun H9 q9 e9 hq9 => ?_⟩⟩
    refine ⟨_, rfl, B, _, rfl, .inl ⟨SqL.of (e9 _ _ hB8), fun l hl => ?_⟩⟩
    have e10 := Ex.new (o := .tup ((begL ds).map V.int)) hl
    refine ⟨itD (begL ds), itD _, dp_it (e10 _ _ hq9), dp_it upd_same, shaped_it _, shaped_it _, _, rfl, iteF' (by rw [eqv_itB, decide_eq_true rfl]; rfl) ?_⟩
    have e910 := e9.trans e10
    have hB := e910 _ _ hB8
    generalize upd H9 l (.tup ((begL ds).map V.int)) = Ha at *
    have hM := e910 _ _ hM
    have hG := e910 _ _ hG
    have hA := e910 _ _ hA
    have hC := e910 _ _ hC
    have hR := e910 _ _ hR
    have Mk := Mk.ex e910
    have dd := dd.ex e910
    clear e9 e10 e910 hq9 hl hB8
    -- points
    refine ⟨M, A, B, kd, s, us, rs, ds, ps, rfl, rfl, rfl, rfl, rfl, rfl, by omega, hM, Mk.runs, hF, hA, pinr, by omega, hdl, hB, hkd, fun Hb e11 => ?_⟩
    have hM := e11 _ _ hM
    have hG := e11 _ _ hG
    have hA := e11 _ _ hA
    have hC := e11 _ _ hC
    have hR := e11 _ _ hR
    have Mk := Mk.ex e11
    have dd := dd.ex e11
    clear e11 hB
    -- a run
    refine ⟨[some (.ref a0), some (.ref D), some (.str kd), some (.ref L), some (.int (s : Nat)), some (.ref M), some (.ref G), some (.ref x), some (.ref A), some (.ref R), some (.ref C), some (.ref q1), some (fw (okRow kd (covL s rs ps) ds)), some (.bl (ps.any fun p => decide (p ∈ gs))), some (dueV kd s rs gs ds ps), some (.ref A2), some (.ref B), none, none, none, none, none, none, none], rfl, ?_⟩
    refine ⟨_, rfl, _, rfl, D, (s : Int), rfl, dd, by omega, fun t r Hc hf kc dc ht0 htc => ?_⟩
    have htD : t ≠ D := Kp.ne dd ht0
    have hM := kc _ _ hMD hM
    have hG := kc _ _ hGD hG
    have hA := kc _ _ hAD hA
    have hC := kc _ _ hCD hC
    have hR := kc _ _ hRD hR
    have Mk := kp_mkt dd kc Mk
    have dd := dc
    clear kc ht0
    refine ⟨[some (.ref a0), some (.ref D), some (.str kd), some (.ref L), some (.int (s : Nat)), some (.ref M), some (.ref G), some (.ref x), some (.ref A), some (.ref R), some (.ref C), some (.ref q1), some (fw (okRow kd (covL s rs ps) ds)), some (.bl (ps.any fun p => decide (p ∈ gs))), some (dueV kd s rs gs ds ps), some (.ref A2), some (.ref B), some (.ref t), none, none, none, none, none, none], rfl, ?_⟩
    refine ⟨_, rfl, D, 5, rfl, dd, by decide, fun b0 He b1 b2 ke de => ?_⟩
    refine ⟨_, _, rfl, rfl, ?_⟩
    show gName 18 (.int (b0 - 2)) _ He _
    obtain ⟨b, hb, hb1, hb2⟩ : ∃ b : Int, b0 - 2 = b ∧ -2 ≤ b ∧ b ≤ 2 := ⟨_, rfl, by omega, by omega⟩
    rw [hb]
    have ht := ke _ _ htD htc
    have hM := ke _ _ hMD hM
    have hG := ke _ _ hGD hG
    have hA := ke _ _ hAD hA
    have hC := ke _ _ hCD hC
    have hR := ke _ _ hRD hR
    have Mk := kp_mkt dd ke Mk
    have dd := de
    clear ke htc hb b1 b2
    -- shifted
    refine ⟨[some (.ref a0), some (.ref D), some (.str kd), some (.ref L), some (.int (s : Nat)), some (.ref M), some (.ref G), some (.ref x), some (.ref A), some (.ref R), some (.ref C), some (.ref q1), some (fw (okRow kd (covL s rs ps) ds)), some (.bl (ps.any fun p => decide (p ∈ gs))), some (dueV kd s rs gs ds ps), some (.ref A2), some (.ref B), some (.ref t), some (.int b), none, none, none, none, none], rfl, ?_⟩
    refine ⟨_, rfl, _, rfl, by omega, by omega, fun S hS => lc_it walk_range (fun i H' => Ex He H' ∧ H' S = some (.lst (((List.range i).map fun j => (ds.getD j 0) + (if r.1 ≤ (j : Int) ∧ (j : Int) < r.2 then b else 0)).map V.int))) ⟨Ex.new hS, upd_same⟩ (fun _ _ _ _ => trivial) ?_ ?_⟩
    · rintro i v H8 H9 hi ⟨e8, hP8⟩ ⟨rfl, rfl⟩
      have his : i < s := by omega
      have g2 : ds[i]? = some (ds.getD i 0) := by rw [List.getD_eq_getElem?_getD, List.getElem?_eq_getElem (by omega)]; rfl
      have at1 : atI (ds.map V.int) (0 + (i : Int)) = some (.int (ds.getD i 0)) := by
        rw [Int.zero_add]
        exact atI_nat (by rw [List.getElem?_map, g2]; rfl)
      have fin : ∀ val : Int, val = ds.getD i 0 + (if r.1 ≤ (i : Int) ∧ (i : Int) < r.2 then b else 0) → ∃ acc, H9 S = some (.lst acc) ∧ acc.length < sizeLine ∧ Ex He (upd H9 S (.lst (acc ++ [V.int val]))) ∧ (upd H9 S (.lst (acc ++ [V.int val]))) S = some (.lst (((List.range (i + 1)).map fun j => (ds.getD j 0) + (if r.1 ≤ (j : Int) ∧ (j : Int) < r.2 then b else 0)).map V.int)) := fun val hv => by
        refine ⟨_, hP8, by rw [List.length_map, List.length_map, List.length_range]; exact small1000 (by omega), Evl.Ex.mut e8 hS, ?_⟩
        rw [upd_same, List.range_succ, List.map_append, List.map_append]
        simp only [List.map_cons, List.map_nil]
        rw [hv]
      refine ⟨rfl, tYesI ?_⟩
      refine ⟨_, rfl, _, rfl, R, _, _, _, rfl, rfl, SqL.of (e8 _ _ hR), at1, _, rfl, ?_⟩
      refine ⟨_, rfl, t, _, 0, _, rfl, rfl, SqT.of (e8 _ _ ht), atI_nat (j := 0) rfl, _, rfl, _, _, rfl, rfl, _, rfl, ?_⟩
      by_cases c1 : r.1 ≤ (0 + (i : Int))
      · refine iteT' (decide_eq_true c1) ?_
        refine ⟨_, rfl, t, _, 1, _, rfl, rfl, SqT.of (e8 _ _ ht), atI_nat (j := 1) rfl, _, _, rfl, rfl, .inr ⟨_, rfl, ?_⟩⟩
        refine ⟨_, _, rfl, rfl, .inl ⟨by omega, by omega⟩, _, _, rfl, rfl, fin _ ?_⟩
        by_cases c2 : (0 + (i : Int)) < r.2
        · rw [decide_eq_true c2, if_pos rfl, if_pos ⟨by omega, by omega⟩]
          omega
        · rw [decide_eq_false c2, if_neg Bool.false_ne_true, if_neg fun z => by omega]
          omega
      · refine iteF' (decide_eq_false c1) ?_
        refine .inr ⟨_, rfl, ?_⟩
        refine ⟨_, _, rfl, rfl, .inl ⟨by omega, by omega⟩, _, _, rfl, rfl, fin _ ?_⟩
        rw [if_neg Bool.false_ne_true, if_neg fun z => by omega]
        omega
    rintro Hf ⟨ef, hPf⟩
    rw [Int.toNat_natCast] at hPf
    have hsr : ((List.range s).map fun j => (ds.getD j 0) + (if r.1 ≤ (j : Int) ∧ (j : Int) < r.2 then b else 0)) = shiftRow ds r b := by unfold shiftRow; rw [hdl]
    rw [hsr] at hPf
    have ht := ef _ _ ht
    have hM := ef _ _ hM
    have hG := ef _ _ hG
    have hA := ef _ _ hA
    have hC := ef _ _ hC
    have hR := ef _ _ hR
    have Mk := Mk.ex ef
    have dd := dd.ex ef
    clear ef hS hsr
    -- changed
    refine ⟨[some (.ref a0), some (.ref D), some (.str kd), some (.ref L), some (.int (s : Nat)), some (.ref M), some (.ref G), some (.ref x), some (.ref A), some (.ref R), some (.ref C), some (.ref q1), some (fw (okRow kd (covL s rs ps) ds)), some (.bl (ps.any fun p => decide (p ∈ gs))), some (dueV kd s rs gs ds ps), some (.ref A2), some (.ref B), some (.ref t), some (.int b), some (.ref S), none, none, none, none], rfl, ?_⟩
    refine ⟨_, rfl, _, rfl, _, rfl, _, rfl, x, kd, s, us, rs, gs, _, _, _, rfl, Mk, by omega, .inl ⟨ds, dem hR, t, r, rfl, ht, .inl ⟨hf, .inl ⟨b, rfl, fun Hg q eg hq => ?_⟩⟩⟩⟩
    refine ⟨_, rfl, S, _, rfl, .inl ⟨SqL.of (eg _ _ hPf), fun l hl => ?_⟩⟩
    have eh := Ex.new (o := .tup ((shiftRow ds r b).map V.int)) hl
    refine ⟨itD (shiftRow ds r b), itD _, dp_it (eh _ _ hq), dp_it upd_same, shaped_it _, shaped_it _, _, rfl, iteF' (by rw [eqv_itB, decide_eq_true rfl]; rfl) ?_⟩
    have egh := eg.trans eh
    generalize upd Hg l (.tup ((shiftRow ds r b).map V.int)) = Hh at *
    have hM := egh _ _ hM
    have hG := egh _ _ hG
    have hA := egh _ _ hA
    have hC := egh _ _ hC
    have hR := egh _ _ hR
    have Mk := Mk.ex egh
    have dd := dd.ex egh
    clear eg eh egh hPf hq hl ht
    -- wanted
    refine ⟨[some (.ref a0), some (.ref D), some (.str kd), some (.ref L), some (.int (s : Nat)), some (.ref M), some (.ref G), some (.ref x), some (.ref A), some (.ref R), some (.ref C), some (.ref q1), some (fw (okRow kd (covL s rs ps) ds)), some (.bl (ps.any fun p => decide (p ∈ gs))), some (dueV kd s rs gs ds ps), some (.ref A2), some (.ref B), some (.ref t), some (.int b), some (.ref S), none, none, none, none], rfl, ?_⟩
    refine ⟨_, rfl, D, rfl, dd, fun wd Hi ki di => ?_⟩
    have hM := ki _ _ hMD hM
    have hG := ki _ _ hGD hG
    have hA := ki _ _ hAD hA
    have hC := ki _ _ hCD hC
    have hR := ki _ _ hRD hR
    have Mk := kp_mkt dd ki Mk
    have dd := di
    clear ki
    refine ⟨[some (.ref a0), some (.ref D), some (.str kd), some (.ref L), some (.int (s : Nat)), some (.ref M), some (.ref G), some (.ref x), some (.ref A), some (.ref R), some (.ref C), some (.ref q1), some (fw (okRow kd (covL s rs ps) ds)), some (.bl (ps.any fun p => decide (p ∈ gs))), some (dueV kd s rs gs ds ps), some (.ref A2), some (.ref B), some (.ref t), some (.int b), some (.ref S), some (.int wd), none, none, none], rfl, ?_⟩
    refine ⟨_, rfl, _, rfl, _, rfl, x, kd, s, us, rs, gs, _, _, rfl, Mk, by omega, hF, by omega, .inl ⟨List.replicate s wd, ps, .inl ⟨wd, rfl, rfl⟩, rowA hA, Pt, fun ms' om Hj ej => ?_⟩⟩
    have hms := (om.same pas).symm
    subst hms
    clear om
    have hA1 := ej _ _ hA
    refine ⟨_, rfl, _, rfl, _, rfl, by omega, by omega, fun P hP => lc_it walk_range (fun i H' => Ex Hj H' ∧ H' P = some (.lst ((List.replicate i wd).map V.int))) ⟨Ex.new hP, upd_same⟩ (fun _ _ _ _ => trivial) ?_ ?_⟩
    · rintro i y H8 H9 hi ⟨e8, hP8⟩ ⟨rfl, rfl⟩
      refine ⟨rfl, tYesI ⟨_, rfl, _, hP8, by rw [List.length_map, List.length_replicate]; exact small1000 (by omega), Evl.Ex.mut e8 hP, ?_⟩⟩
      rw [upd_same, List.replicate_succ', List.map_append]
      rfl
    rintro Hk ⟨ek, hPk⟩
    rw [Int.toNat_natCast] at hPk
    refine ⟨_, rfl, x, kd, s, us, rs, gs, _, _, rfl, (Mk.ex ej).ex ek, by omega, hF, by omega, .inl ⟨List.replicate s wd, ps, .inr ⟨⟨P, rfl, .inl hPk⟩, List.length_replicate⟩, rowA (ek _ _ hA1), Pt, fun ms' om Hl el => ?_⟩⟩
    have hms := (om.same pas).symm
    subst hms
    clear om
    refine ⟨rfl, _, rfl, iteF' (by rw [decide_eq_true rfl]; rfl) ?_⟩
    have ejl := (ej.trans ek).trans el
    have hM := ejl _ _ hM
    have hG := ejl _ _ hG
    have hA := ejl _ _ hA
    have hC := ejl _ _ hC
    have hR := ejl _ _ hR
    have Mk := Mk.ex ejl
    have dd := dd.ex ejl
    clear ej ek el ejl hP hPk hA1
    -- wrong sets
    refine ⟨[some (.ref a0), some (.ref D), some (.str kd), some (.ref L), some (.int (s : Nat)), some (.ref M), some (.ref G), some (.ref x), some (.ref A), some (.ref R), some (.ref C), some (.ref q1), some (fw (okRow kd (covL s rs ps) ds)), some (.bl (ps.any fun p => decide (p ∈ gs))), some (dueV kd s rs gs ds ps), some (.ref A2), some (.ref B), some (.ref t), some (.int b), some (.ref S), some (.int wd), none, none, none], rfl, ?_⟩
    refine ⟨_, rfl, _, rfl, _, rfl, _, rfl, _, rfl, M, us, rfl, .inl (SqL.of hM), D, x, R, A, kd, s, us, rs, gs, ds, ps, rfl, dd, Mk, by omega, by omega, hF, by omega, hR, hdl, hA, pas, pin, hRD, hAD, fun Hm km dm => ⟨_, rfl, iteF ?_⟩⟩
    have hM := km _ _ hMD hM
    have hG := km _ _ hGD hG
    have hA := km _ _ hAD hA
    have hC := km _ _ hCD hC
    have hR := km _ _ hRD hR
    have Mk := kp_mkt dd km Mk
    have dd := dm
    clear km
    -- sets
    refine ⟨[some (.ref a0), some (.ref D), some (.str kd), some (.ref L), some (.int (s : Nat)), some (.ref M), some (.ref G), some (.ref x), some (.ref A), some (.ref R), some (.ref C), some (.ref q1), some (fw (okRow kd (covL s rs ps) ds)), some (.bl (ps.any fun p => decide (p ∈ gs))), some (dueV kd s rs gs ds ps), some (.ref A2), some (.ref B), some (.ref t), some (.int b), some (.ref S), some (.int wd), none, none, none], rfl, ?_⟩
    refine ⟨_, rfl, _, rfl, _, rfl, M, us, rfl, .inl (SqL.of hM), D, _, rfl, dd, by omega, by omega, fun A3 qs Hn kn dn hA30 hA3 qas qin => ?_⟩
    have hM := kn _ _ hMD hM
    have hG := kn _ _ hGD hG
    have hA := kn _ _ hAD hA
    have hC := kn _ _ hCD hC
    have hR := kn _ _ hRD hR
    have Mk := kp_mkt dd kn Mk
    have dd := dn
    clear kn hA30
    refine ⟨_, rfl, M, us, rfl, .inl (SqL.of hM), A, A3, ps, qs, us.length, rfl, by omega, hA, hA3, pas, qas, pin, qin, fun Ho eo => ⟨_, rfl, iteF ?_⟩⟩
    have hM := eo _ _ hM
    have hG := eo _ _ hG
    have hA := eo _ _ hA
    have hC := eo _ _ hC
    have hR := eo _ _ hR
    have Mk := Mk.ex eo
    have dd := dd.ex eo
    clear eo hA3
    -- demand_of, checks
    refine ⟨[some (.ref a0), some (.ref D), some (.str kd), some (.ref L), some (.int (s : Nat)), some (.ref M), some (.ref G), some (.ref x), some (.ref A), some (.ref R), some (.ref C), some (.ref q1), some (fw (okRow kd (covL s rs ps) ds)), some (.bl (ps.any fun p => decide (p ∈ gs))), some (dueV kd s rs gs ds ps), some (.ref A2), some (.ref B), some (.ref t), some (.int b), some (.ref S), some (.int wd), none, none, none], rfl, ?_⟩
    refine ⟨_, rfl, _, rfl, R, _, rfl, .inl (SqL.of hR), fun p hp => ?_⟩
    have ep := Ex.new (o := .lst (ds.map V.int)) hp
    refine ⟨x, kd, s, us, rs, gs, _, rfl, Mk.ex ep, by omega, .inl ⟨ds, .inr ⟨⟨p, rfl, .inl upd_same⟩, hdl⟩, fun Hq q eq hq => ?_⟩⟩
    have epq := ep.trans eq
    refine ⟨_, rfl, R, _, rfl, .inl ⟨SqL.of (epq _ _ hR), fun l hl => ?_⟩⟩
    have el := Ex.new (o := .tup (ds.map V.int)) hl
    refine ⟨itD ds, itD ds, dp_it (el _ _ hq), dp_it upd_same, shaped_it _, shaped_it _, _, rfl, iteF' (by rw [eqv_itB, decide_eq_true rfl]; rfl) ?_⟩
    have epl := epq.trans el
    generalize upd Hq l (.tup (ds.map V.int)) = Hr at *
    have hM := epl _ _ hM
    have hG := epl _ _ hG
    have hA := epl _ _ hA
    have hC := epl _ _ hC
    have hR := epl _ _ hR
    have Mk := Mk.ex epl
    have dd := dd.ex epl
    clear ep eq epq el epl hq hl hp
    refine ⟨_, rfl, _, rfl, _, rfl, _, rfl, _, rfl, _, rfl, x, M, G, kd, s, us, us, rs, gs, wd, rfl, Mk, hkd, by omega, by omega, by omega, hM, rfl, hG, fun Hs es => ⟨_, rfl, iteF ?_⟩⟩
    have dd := dd.ex es
    exact ⟨_, rfl, D, rfl, dd, fun _ => k _⟩
end
end K00


set_option Elab.async false
set_option linter.all false
set_option maxRecDepth 100000
set_option maxHeartbeats 0
namespace K00
open PySem PySem.Spec PyProof.Rows L2
theorem facts {w : World} {K : PySem.W.Frag} {h : Heap} {mg : Str → Option Value} {f : Addr} (X : K.In h) (G : h.Ns mainGlobals mg) (hfa : mg ("law" : Str) = some (.ref f)) (c : HkQ.obsQ fa fn fc fg ex K = HkQ.valQ fn fc fg) :
    ∃ fd : FuncData, (∀ (s : Shared) (v : Value), BindsTo s fd ⟨[v], []⟩ [("_law_script", v)]) ∧ ∀ base : Heap, K.In base → base.Ns mainGlobals mg → FnOk PP w K mg base CX0 9 f fd ["_law_script"] (spLaw K) := by
  have T := ctx_of X G c
  obtain ⟨fd, F⟩ := T.d_law
  have e := hfa.symm.trans T.g_law
  cases e
  have b := FunD.bindsA (ps := ["_law_script"]) F fun _ _ _ _ _ _ us hl => match us, hl with | [_], _ => rfl
  exact ⟨fd, fun s v => b s [v] rfl, fun base _ _ => ok_law T F⟩
end K00
open PySem PySem.W PySem.Calls PyProof.Rows
theorem PySem.Challenge.cw_keptparts_k00_covers_and_points_holds : PySem.Challenge.rw_keptparts_k00_covers_and_points.Holds := by
  w_on; o_law
  refine HandSHeadRun.head_any (r := OpenLaw.row PySem.Challenge.rw_keptparts_k00_covers_and_points) (q := view (OpenLaw.row PySem.Challenge.rw_keptparts_k00_covers_and_points).prog [93]) (H := K00.hk) (ob := K00.ob) (M := 40000) (loose := K00.names) (d := HandSHeadRun.topDef (OpenLaw.row PySem.Challenge.rw_keptparts_k00_covers_and_points).prog 93) (kwd := []) K00.ob_eq
    (by kernel_rfl) (fun s => by kernel_rfl) K00.run (by kernel_rfl) (by kernel_rfl) (by kernel_rfl) (by rfl) (by first | assumption | decide +kernel) (by decide +kernel) ⟨rfl, rfl, rfl, rfl, rfl, by decide +kernel⟩ ?hw ?hc
  case hw => w_witness2
  case hc =>
    refine L2.walk_ofE (l := PySem.Challenge.rw_keptparts_k00_covers_and_points) (n := 63) (k := 9) (x := "_law_script") (CX := L2.CX0) rfl (by decide) (by kernel_rfl) ⟨rfl, by decide, by decide⟩ ?F (fun _ _ _ _ z => z)
    intro w mg fa h Y G hmg0
    obtain ⟨K, KX, c⟩ := Y
    have hmg : mg ("law" : PySem.Str) = some (.ref fa) := by
      have e : (HandSHeadRun.topDef (OpenLaw.row PySem.Challenge.rw_keptparts_k00_covers_and_points).prog 93).name = ("law" : PySem.Str) := by kernel_rfl
      rw [← e]
      exact hmg0
    obtain ⟨fd, hb, hF⟩ := K00.facts (w := w) KX G hmg c
    exact ⟨K, fd, K00.spLaw K, KX, hb, fun H a ns hl _ hS => ⟨a, ns, rfl, hS, hl, fun _ => rfl⟩, hF⟩

