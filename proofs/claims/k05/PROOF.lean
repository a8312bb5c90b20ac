import PyProof.Rows.All
import Wide.All
import OpenK.AllK
import Wide.FinOn
import HandS.ForMost
import HandS.Defaults
import HandS.MakeKwOnly
import HandS.ClsMeth
import KE.KSuper
import PyProof.EqAt
import PyProof.EqKinds
import PyProof.TupleCall
import HandS.ForExc
import HandS.RaiseFrom
import HandS.ExcIs
import HandS.HeadHook4
import HandS.HeadHook1
import HandS.HeadHook2
import HandS.HeadHook3
import HandS.Property
import PySem.Challenge.RW_keptparts_k05_a_stock_or_points
import HandS.IsInst
import KE.KStateDown
import Lean
import HandS.Base
import HandS.Call
import HandS.Ends
import HandS.More
import HandS.Words
import HandS.WordsExc
import HandS.Head0
import HandS.Head1
import HandS.Head2
import HandS.HeadEnd
import HandS.Evl
import HandS.Walk
import HandS.Strs
import HandS.Conv
import HandS.OwnEq
import HandS.List
import KE.GoesMore
import HandS.Set
import HandS.SetFor
import HandS.SetTxtIn
import KE.KItemsList
import HandS.Zip0
import HandS.Zip
import HandS.ListItems
import HandS.ExcOwn
import HandS.Star
import HandS.Deep
import HandS.SortInts
import HandS.SortKw
import KE.DatumOrd
import KE.GoesZip
import HandS.ExcField
import HandS.Exc
set_option Elab.async false
set_option linter.all false
set_option maxRecDepth 100000
set_option maxHeartbeats 4000000
/-! super().__init__(a, b, k=c) of a class of one base, in a def of the parameters self, a, b and the keyword-only k. -/
namespace SupI
open PySem PySem.Spec PyProof.Rows L2
abbrev supBody (nm na nb nk : Str) (p0 p1 p2 p3 p4 p5 p6 p7 p8 : Pos) : List Stmt :=
  [.Expr (.Call (.Attribute (.Call (.Name "super" p0) [] [] p1) nm p2) [.Name na p3, .Name nb p4] [⟨some nk, .Name nk p5, p6⟩] p7) p8]
/-- what the written part tells of such a def -/
structure SupTxt (P : Program) (K : PySem.W.Frag) (mg : Str → Option Value) (C f f2 cc cda : Addr) (fd : FuncData) (qual : Str) (params : Arguments) (body : List Stmt) (scope : Scope) : Prop where
  lk : ∃ (oc : Value) (od an : Option Addr) (Dk : Addr) (doc pm ct : Value) (osl : Array (Option Value)), fd = PySem.W.ksFn "__init__" qual params body scope .none (.ref Dk) doc pm an (.ref cda) ct cc ∧ K.lookup f = some ⟨oc, od, .func fd, osl⟩
  cd : PySem.W.codeIn K (.ref cda) qual = true
  co : ∃ (a : Value) (b : Option Addr) (vs : Array Value) (c : Array (Option Value)) (file : Str) (tf : Tok), K.lookup cda = some ⟨a, b, .fields vs, c⟩ ∧ vs[2]? = some (.str file tf) ∧ ((P.main.file : Str) == file) = true
  cell : ∃ (a : Value) (b : Option Addr) (c : Array (Option Value)), K.lookup cc = some ⟨a, b, .cell (some (.ref C)), c⟩
  sub : PySem.W.mroIn K C (.ref C) = some true
  sup : mg "super" = none
  find : PySem.W.ks_superIn K C C "__init__" = some (some (.ref f2))
  ty : PySem.W.typeIn K (.ref f2) = some (.type "function")
  fnI : PySem.W.fnIn K f2 = true
  opq : PySem.W.nsIn K cStatics "thirdparty.any" = some none
  top : (P.main.scope.names.lookup ("super" : Str)).isSome = false
theorem methodCall_at {M : Model} {A : Around} {c : Code} {E : Value → Shared → Prop} {s : Shared} {env : Env} {o : Expr} {name : Str} {apos pos : Pos} {args : List Expr} {kws : List Keyword} {pl : Sem Bool} {Q : Value → Shared → Prop}
    (h : _root_.PySem.wpAt M A c (attributeBase o name env (eval o env)) (fun ov s₁ => wpAny M A (getMethod ov name pl) (fun fx s₂ => wpAny M A (callWith pos fx.1 fx.2 (backTo pos (starEach args env)) (backToKw pos (keywordEach kws env))) Q E s₂) E s₁) E s)
    (he : eval (.Call (.Attribute o name apos) args kws pos) env = (do
      let ov ← attributeBase o name env (eval o env)
      standAt apos.atName
      let (f, first) ← holding [ov] (getMethod ov name pl)
      callWith pos f first (backTo pos (starEach args env)) (backToKw pos (keywordEach kws env))) := by rfl) :
    _root_.PySem.wpAt M A c (eval (.Call (.Attribute o name apos) args kws pos) env) Q E s := by
  rw [he]
  refine _root_.PySem.wpAt_bind (ks_wpAt_mono h (fun ov s₁ h₁ => wpAt_of_wpAny (wpAny_bind (wpAny_standAt (wpAny_bind (wpAny_holding (wpAny_mono h₁ (fun fx s₂ h₂ => ?_) fun _ _ x => x)))))) fun _ _ x => x)
  exact h₂

section
variable {P : Program} {w : World} {K : PySem.W.Frag} {mg : Str → Option Value} {base : Heap} {CX : CXT} {C f f2 cc cda : Addr} {fd fd2 : FuncData} {qual nm na nb nk ns : Str} {params : Arguments} {body : List Stmt} {scope : Scope} {k : Nat} {sp : Sp} {p0 p1 p2 p3 p4 p5 p6 p7 p8 : Pos}
/-- the context of such a body -/
def cxS (CX : CXT) (P : Program) (w : World) (K : PySem.W.Frag) (mg : Str → Option Value) (base : Heap) (N : List Str) (qual : Str) (scope : Scope) (f : Addr) (cda cc : Addr) (A : Around) (outer : List Env) (s : Shared) (H : Hp) (E : XK) : Cx where
  prog := P
  w := w
  K := K
  mg := mg
  base := base
  A := A.deeper (PySem.W.ksEnv qual scope s.heap.objs.size f (.ref cda) cc)
  N := N
  s_0 := s
  H_0 := H
  env := PySem.W.ksEnv qual scope s.heap.objs.size f (.ref cda) cc
  outer := outer
  stack := PySem.W.ksEnv qual scope s.heap.objs.size f (.ref cda) cc :: outer
  ex := []
  calm := true
  fn := fun _ => false
  pn := []
  xe := fun e s' => wpAny (model P w) (A.deeper (PySem.W.ksEnv qual scope s.heap.objs.size f (.ref cda) cc)) (leaving (PySem.W.ksEnv qual scope s.heap.objs.size f (.ref cda) cc) e) (fun _ s'' => CX outer H s E e s'') (fun e' s'' => CX outer H s E e' s'') s'
theorem one_cell {y : Str} {c cc : Addr} (h : ([("__class__", cc)] : List (Str × Addr)).lookup y = some c) : y = "__class__" ∧ c = cc := by
  unfold List.lookup at h
  cases e : (y == ("__class__" : Str)) with
  | true =>
    rw [e] at h
    exact ⟨eq_of_beq e, (Option.some.inj h).symm⟩
  | false =>
    rw [e] at h
    cases h
theorem inv_sup {A : Around} {outer : List Env} {s : Shared} {H : Hp} {E : XK} {us : List Value} {vs : List V} {h1 : Heap} {tk : Nat} {N : List Str}
    (T : SupTxt P K mg C f f2 cc cda fd qual params body scope) (hk : scope.kind = .function) (hfr : ∀ y, (scope.names.lookup y = some .cell ∨ scope.names.lookup y = some .free) → y = "__class__") (hl : ∀ y ∈ N, scope.names.lookup y = some .local)
    (hd : A.handled = none) (e0 : Env0 P w K mg base A outer s H) (r : Vals vs us) (hlen : vs.length = N.length)
    (hns : h1.Ns s.heap.objs.size (fun x => (N.zip us).reverse.lookup x)) (hlook : ∀ (i : Nat) (y : Str) (u : Value), N[i]? = some y → us[i]? = some u → (N.zip us).reverse.lookup y = some u) (keep : ∀ b o, s.heap.get? b = some o → h1.get? b = some o) :
    Inv (cxS CX P w K mg base N qual scope f cda cc A outer s H E) [] (vs.map some) H { s with heap := h1, toks := tk } := by
  obtain ⟨ca, cb, ccs, hcell⟩ := T.cell
  have hb : base.get? cc = some ⟨ca, cb, .cell (some (.ref C)), ccs⟩ := e0.mod.kin _ _ hcell
  have noA : ∀ b : Addr, b ∉ (cxS CX P w K mg base N qual scope f cda cc A outer s H E).ex := fun b z => absurd (show b ∈ ([] : List Addr) from z) (by simp)
  refine ⟨⟨e0.mod, hk, rfl, rfl, Nat.le_refl _, fun y z c h1 h2 => ?_, fun y hy => ?_, fun y c h _ => ?_, fun _ => hd, Around.frames_deeper e0.frames, .inr ⟨rfl, rfl⟩, fun b z => absurd z (noA b), e0.bs, e0.bsz, fun b _ _ => noA b, fun b z => absurd z (noA b), e0.funs, e0.frf⟩,
    rfl, e0.bare, Un.kept keep, ⟨_, hns, fun i y v h1 h2 h3 => ?_⟩, fun y c h => ?_, e0.hok.fresh (Nat.le_refl _), fun y c h => ?_, fun p hp => absurd (show p ∈ ([] : List (Addr × Obj)) from hp) (by simp), e0.hok.kept keep, ?_⟩
  · exact (one_cell h1).1.trans (one_cell h2).1.symm
  · have e : y = "__class__" := hfr y hy
    subst e
    exact ⟨cc, rfl⟩
  · cases h
  · have h2' : (vs.map some)[i]? = some (some v) := h2
    rw [List.getElem?_map] at h2'
    have ha : vs[i]? = some v := by
      cases e : vs[i]? with
      | none => rw [e] at h2'; cases h2'
      | some a => rw [e] at h2'; cases h2'; rfl
    obtain ⟨u, hu, rv⟩ := r.get ha
    exact ⟨u, rv, .inl ⟨hl y (List.mem_of_getElem? h1), hlook i y u h1 hu⟩⟩
  · obtain ⟨_, rfl⟩ := one_cell h
    exact ⟨_, _, keep _ _ (e0.bs _ _ hb).1, rfl⟩
  · obtain ⟨_, rfl⟩ := one_cell h
    exact (e0.bs _ _ hb).2
  · show (vs.map some).length = N.length
    rw [List.length_map, hlen]
/-- the promise: the instance is of the class itself; then what the base's __init__ wants -/
def spSup (C : Addr) (sp : Sp) : Sp := fun vs H Q E => (∃ x dx fs a b c, vs = [.ref x, a, b, c] ∧ H x = some (.ins C dx fs)) ∧ sp vs H (fun _ H' => Q .non H') E
theorem fn_super {c1 : Str}
    (T : SupTxt P K mg C f f2 cc cda fd qual params (supBody "__init__" na nb nk p0 p1 p2 p3 p4 p5 p6 p7 p8) scope)
    (hcls : ∃ cd, PySem.W.clsIn K C = some cd)
    (hk : scope.kind = .function) (hco : scope.isCoroutine = false) (hgen : scope.isGenerator = false)
    (hfr : ∀ y, (scope.names.lookup y = some .cell ∨ scope.names.lookup y = some .free) → y = "__class__") (hcell : ∀ x ∈ scope.names, x.2 ≠ .cell)
    (hl : ∀ y ∈ [ns, na, nb, nk], scope.names.lookup y = some .local) (hks : scope.names.lookup ("super" : Str) = some .globalImplicit) (hkc : scope.names.lookup ("__class__" : Str) = some .free)
    (hdb : ∀ y ∈ [ns, na, nb, nk], (y == ("__debug__" : Str)) = false ∧ (y == ("__classdict__" : Str)) = false)
    {ar : Arg} (hpar : (params.posonlyargs ++ params.args).head? = some ar) (har : ar.arg = ns)
    (hlook : ∀ (u1 u2 u3 u4 : Value) (i : Nat) (y : Str) (u : Value), [ns, na, nb, nk][i]? = some y → [u1, u2, u3, u4][i]? = some u → ([ns, na, nb, nk].zip [u1, u2, u3, u4]).reverse.lookup y = some u)
    {pl : Env → Sem Bool} (he : ∀ env : Env, eval (.Call (.Attribute (.Call (.Name "super" p0) [] [] p1) "__init__" p2) [.Name na p3, .Name nb p4] [⟨some nk, .Name nk p5, p6⟩] p7) env = (do
      let ov ← attributeBase (.Call (.Name "super" p0) [] [] p1) "__init__" env (eval (.Call (.Name "super" p0) [] [] p1) env)
      standAt p2.atName
      let (f, first) ← holding [ov] (getMethod ov "__init__" (pl env))
      callWith p7 f first (backTo p7 (starEach [.Name na p3, .Name nb p4] env)) (backToKw p7 (keywordEach [⟨some nk, .Name nk p5, p6⟩] env))))
    (F2 : FnOk P w K mg base CX0 k f2 fd2 [ns, na, nb, nk] sp) (hb : KBn K fd2 [ns, na, nb, nk] 3 [nk] (fun us ws => us ++ ws) (fun vs zs => vs ++ zs)) :
    FnOk P w K mg base CX0 (k + 1) f fd [ns, na, nb, nk] (spSup C sp) := by
  obtain ⟨oc, od, an, Dk, doc, pm, ct, osl, rfl, lk⟩ := T.lk
  obtain ⟨coa, cob, cvs, coc, file, tf, hcode, hvs, hfile⟩ := T.co
  obtain ⟨cla, clb, clc, hcel⟩ := T.cell
  obtain ⟨cd, hcd⟩ := hcls
  refine ⟨fun vs H Q E ⟨⟨x, dx, fs, a, b, c, e, _⟩, _⟩ => by rw [e]; rfl, fun A outer s H args us vs Q E hr e0 hbd r hsp => ?_⟩
  obtain ⟨⟨x, dx, fs, a, b, c, rfl, hxi⟩, hsp⟩ := hsp
  have r0 := r
  obtain ⟨u1, u2, u3, u4, rfl, ru1, ru2, ru3, ru4⟩ : ∃ u1 u2 u3 u4, us = [u1, u2, u3, u4] ∧ RelV (.ref x) u1 ∧ RelV a u2 ∧ RelV b u3 ∧ RelV c u4 := by
    cases r with
    | cons r1 r => cases r with
      | cons r2 r => cases r with
        | cons r3 r => cases r with
          | cons r4 r => cases r with
            | nil => exact ⟨_, _, _, _, rfl, r1, r2, r3, r4⟩
  obtain rfl : u1 = Value.ref x := ru1
  have KX : K.In s.heap := e0.mod.kin.keeps fun b o e => (e0.bs b o e).1
  have lim : s.heap.NoLimit := e0.mod.nolimit.keeps fun b o e => (e0.bs b o e).1
  have hroom : A.depth < recursionLimit := by have := hr.dp; omega
  refine PySem.ks_codeAny_call_defAt (fd := PySem.W.ksFn "__init__" qual params (supBody "__init__" na nb nk p0 p1 p2 p3 p4 p5 p6 p7 p8) scope .none (.ref Dk) doc pm an (.ref cda) ct cc) (body := supBody "__init__" na nb nk p0 p1 p2 p3 p4 p5 p6 p7 p8) hroom (KX _ _ lk) rfl lim (PySem.W.codeRec_of KX T.cd) rfl hbd hcell (fun y hy => hl _ (List.of_mem_zip (show (y.1, y.2) ∈ _ from hy)).1) (fun h1 hns keep => ?_) hco hgen hk
  have I : Inv (cxS CX0 P w K mg base [ns, na, nb, nk] qual scope f cda cc A outer s H E) [] [some (.ref x), some a, some b, some c] H { s with heap := h1, toks := s.toks + ([ns, na, nb, nk].zip [Value.ref x, u2, u3, u4]).length } :=
    inv_sup (vs := [.ref x, a, b, c]) T hk hfr hl hr.hd e0 r0 rfl hns (hlook _ _ _ _) keep
  let X := cxS CX0 P w K mg base [ns, na, nb, nk] qual scope f cda cc A outer s H E
  show _root_.PySem.wpAt (model P w) X.A (.func _ X.env) (execs _ X.env) _ X.xe _
  refine ks_wpAt_execs_cons (ks_wpAt_Expr_any (methodCall_at (pl := pl X.env) ?_ (he X.env)) I.quiet)
  obtain ⟨oC, hC1, hC2⟩ : ∃ oC, h1.get? C = some oC ∧ oC.data = .cls cd := by
    unfold PySem.W.clsIn at hcd
    split at hcd
    · rename_i c' d' cd' sl ho
      cases hcd
      exact ⟨_, I.kIn _ _ ho, rfl⟩
    · cases hcd
  obtain ⟨mA, O, _⟩ := ins_get I.hok hxi
  obtain ⟨od', J, _⟩ := O.look
  have hks' : X.env.kindOf "super" = some .globalImplicit := hks
  have hkc' : X.env.kindOf "__class__" = some .free := hkc
  refine PySem.ks_wpAt_super_base (env := X.env) hks' hkc' (by decide +kernel) rfl (I.kIn _ _ lk) rfl hpar rfl (I.kIn _ _ hcode) rfl hvs hfile T.top ?_
  obtain ⟨mb, hb1, hb2⟩ := I.mod.blt
  refine PySem.W.ks_loadName_global hk hks' (Calls.loadGlobal_builtin (env := X.env) (I.mod.glob.keeps I.bk) T.sup (hb1.keeps I.bk) ((hb2 _ (by decide +kernel)).trans (by decide +kernel)) ⟨rfl, ?_⟩)
  refine wpAny_loadName_free (env := X.env) hk hkc' rfl ⟨_, I.kIn _ _ hcel, rfl⟩ ?_
  rw [har]
  refine wpAny_loadName_local (env := X.env) hk (hl _ (by simp)) hns (hlook _ _ _ _ 0 ns (.ref x) rfl rfl) ?_
  refine PySem.ks_wpAny_isType_cls hC1 hC2 ⟨rfl, ?_⟩
  refine PySem.ks_wpAny_call_super hC1 hC2 J.at_ J.cls (fun c' e' => ?_) (PySem.W.looks_mroIn I.kIn T.sub) (fun h2 e2 k2 => ?_)
  · have := J.no
    unfold PySem.W.notCls at this
    rw [e'] at this
    exact Bool.noConfusion this
  have I2 := ClX.pin_new (t' := s.toks + ([ns, na, nb, nk].zip [Value.ref x, u2, u3, u4]).length) I k2 (Nat.le_refl _) e2 (fun v z => nomatch z)
  have hfind := T.find
  unfold PySem.W.ks_superIn at hfind
  rw [hcd] at hfind
  obtain ⟨of, hof, hofc⟩ : ∃ of, h2.get? f2 = some of ∧ of.cls = .type "function" := by
    have ht' : (K.lookup f2).map (·.cls) = some (.type "function") := T.ty
    cases z : K.lookup f2 with
    | none => rw [z] at ht'; cases ht'
    | some of => rw [z] at ht'; exact ⟨of, I2.kIn _ _ z, Option.some.inj ht'⟩
  refine PySem.ks_wpAny_getMethod_super e2 (PySem.W.looks_opaque I2.kIn T.opq) (l₀ := cd.mro) (fun A Q E s k q => wpAny_bind ((PySem.W.looks_clsIn I2.kIn hcd) A _ E s k (wpAny_pure q))) rfl I2.kIn hfind hof hofc (PySem.W.ks_ne I.kIn J hcd) (by decide +kernel) ?_
  have I3 := ClX.pin_new (t' := s.toks + ([ns, na, nb, nk].zip [Value.ref x, u2, u3, u4]).length + 1) (h' := h2.push (PySem.W.methodObj (.ref f2) (.ref x))) I2 (fun _ _ z => Heap.get?_push_of_some _ z) (Nat.le_refl _) (Heap.get?_push_size h2 rfl) (fun v z => nomatch z)
  have d1 := hdb na (by simp)
  have d2 := hdb nb (by simp)
  have d3 := hdb nk (by simp)
  have pa : PA X [.Name na p3, .Name nb p4] (tCons (tVar 1) (tCons (tVar 2) tNil)) := pa_cons (pv 1 rfl (.inl (hl na (by simp))) d1.1 d1.2) (pa_cons (pv 2 rfl (.inl (hl nb (by simp))) d2.1 d2.2) pa_nil)
  have pk : PK X [⟨some nk, .Name nk p5, p6⟩] (tCons (tVar 3) tNil) := pk_cons (pv 3 rfl (.inl (hl nk (by simp))) d3.1 d3.2) pk_nil
  refine PySem.W.callWith_of (P := PySem.W.MethP K h2.objs.size f2 (.ref x)) rfl (PySem.W.keeps_M T.fnI) (evalArgs_kw2 (env := X.env) rfl (thn (pa.run p7 _ _ _ H (fun vs H' => vs = [a, b] ∧ H' = H) I3 ⟨a, rfl, b, rfl, rfl, rfl⟩) fun us s5 ⟨vs, H5, I5, r5, e5, e5'⟩ => ?_))
  subst e5 e5'
  refine thn (pk.run p7 _ s5 _ H5 (fun vs H' => vs = [c] ∧ H' = H5) I5 ⟨c, rfl, rfl, rfl⟩) fun ws s6 ⟨zs, H6, I6, r6, e6, e6'⟩ => ?_
  subst e6 e6'
  have hq6 := ClX.pin_at I6
  refine ⟨⟨hq6, I6.kIn⟩, ?_⟩
  have lu : us.length = 2 := r5.length.symm
  have lw : ws.length = 1 := r6.length.symm
  have r7 : Vals [V.ref x, a, b] (Value.ref x :: us) := .cons rfl r5
  refine wpAny_call (PySem.W.method_call hq6 (codeAny_mono (F2.run X.A X.stack s6 _ ⟨Value.ref x :: us, [nk].zip ws⟩ (Value.ref x :: us ++ ws) [.ref x, a, b, c] (fun _ H' => Q .non H') E (hr.deeper _) I6.env0 (hb.to s6 (Value.ref x :: us) ws I6.kIn (by simp [lu]) lw) (hb.rel r7 r6) hsp) fun r s' hq' => ?_))
  cases r with
  | error e => exact hq'.elim
  | ok fl =>
    cases fl with
    | ret u =>
      obtain ⟨v, H', I7, rv, q3⟩ := I6.after hq'
      refine _root_.PySem.wpAt_of_wpAny (wpAny_execs_nil ?_)
      exact ⟨.non, H', I7.os, I7.bare, I7.base, I7.hok, rfl, q3⟩
    | next => exact False.elim hq'
    | brk => exact False.elim hq'
    | cont => exact False.elim hq'
end
end SupI


set_option Elab.async false
set_option linter.all false
set_option maxRecDepth 100000
set_option maxHeartbeats 4000000
/-! The program's own errors (each one keeps its field), and raise .. from. -/
namespace L2
open PySem PySem.Spec PyProof.Rows
def PMk6 (X : Cx) (e : Expr) (t : St → Hp → XK → Prop) : Prop :=
  ∀ (pins : List (Addr × Obj)) (s : Shared) (σ : St) (H : Hp) (Q : XK), Inv X pins σ H s → t σ H Q → wpAny (model X.prog X.w) X.A (eval e X.env) (fun u s' => MkP X pins σ Q u s' ∧ L2H.Six u s') X.xe s
end L2
namespace PySem
namespace BadTextX
open PySem.W PySem.Calls PyProof.Rows PySem.HandSPX
/-! ### the text of __init__ -/
def iA (p1 p2 : Pos) : Arguments := { posonlyargs := [], args := [{ arg := "self", annotation := none, pos := p1 }, { arg := "line", annotation := none, pos := p2 }], vararg := none, kwonlyargs := [], kw_defaults := [], kwarg := none, defaults := [] }
def iB (q1 q2 q3 q4 : Pos) : List Stmt := [.Assign [.Attribute (.Name "self" q1) "line" q2] (.Name "line" q3) q4]
def iS : Scope := { kind := .function, names := [(PySem.Str.ofString "self", .local), (PySem.Str.ofString "line", .local)], isGenerator := false, isCoroutine := false, more := [] }
/-- what the written part says of Low, at C, and of its __init__, at fI -/
structure BadTextTxt (K : Frag) (mg : Str → Option Value) (C fI : Addr) : Prop where
  gC : mg "BadText" = some (.ref C)
  cls : ∃ nm q N bs bm sn sub ab col dd k0 k1 k2 k3 k5, K.lookup C = some (excClassObj nm q C N bs bm true sn sub ab col dd k0 k1 k2 k3 k5 "ValueError.__new__") ∧ refsVE bm = true
  sa : findIn K (.ref C) "__setattr__" = some (some (.builtin "object.__setattr__"))
  ga : findIn K (.ref C) "__getattribute__" = some (some (.builtin "BaseException.__getattribute__"))
  gg : findIn K (.ref C) "__getattr__" = some none
  noN : findIn K (.ref C) "line" = some none
  iC : findIn K (.ref C) "__init__" = some (some (.ref fI))
  tC : typeIn K (.ref fI) = some (.type "function")
  kC : keepIn K (.ref C) = true
  exC : subIn K (.ref C) (.type "BaseException") = some true
  tyC : typeIn K (.ref C) = some (.type "type")
  hdC : hasDictIn K C = true
  te : exmOne K (.ref C) (.ref C) = some true
  fn : ∃ (oc : Value) (od : Option Addr) (kV doc pm : Value) (an : Option Addr) (cdv ct : Value) (osl : Array (Option Value)) (p1 p2 q1 q2 q3 q4 : Pos),
    K.lookup fI = some ⟨oc, od, .func (fnOf "__init__" "BadText.__init__" (iA p1 p2) (iB q1 q2 q3 q4) iS .none kV doc pm an cdv ct), osl⟩ ∧ codeIn K cdv "BadText.__init__" = true
theorem one_size (v : Value) : [v].length ≤ sizeLine := by
  rw [sizeLine_eq]
  exact (by decide : 1 ≤ 16777216)
theorem kept_but {K : Frag} {h h' : Heap} {x : Addr} (X : K.In h) (hx : K.lookup x = none) (k : ∀ b o, b ≠ x → h.get? b = some o → h'.get? b = some o) : K.In h' := fun a o e =>
  k a o (fun z => by rw [z, hx] at e; cases e) (X a o e)
theorem ldC {M : Model} {s : Shared} {name : Str} {scope : Scope} {L a : Addr} {cd : Value} {m : Str → Option Value} {x : Str} {pos : Pos} {v : Value} {Q : Value → Shared → Prop} {A : Around} {E : Value → Shared → Prop} (hn : s.heap.Ns L m) (hv : m x = some v) (h : Q v s)
    (hk : scope.kind = .function := by rfl) (hl : (envOfC name scope L a cd).kindOf x = some .local := by rfl) (hd : (x == ("__debug__" : Str)) = false := by decide) :
    wpAny M A (eval (.Name x pos) (envOfC name scope L a cd)) Q E s := wpAny_Name (wpAny_loadName_local hk hl hn hv h) hd
/-- what __init__ leaves of a fresh exception at x -/
structure InitEnd (h h' : Heap) (x C dx t1 : Addr) (v : Value) : Prop where
  keep : ∀ b o, b ≠ x → h.get? b = some o → h'.get? b = some o
  obj : h'.get? x = some { cls := .ref C, dict := some dx, data := .fields #[.ref t1, .none, .none, .none, .bool false, .none] }
  dbig : h.objs.size ≤ dx
  dne : dx ≠ x
  ns : h'.Ns1 dx (fun y => if y = "line" then some v else none)
/-- a made Low -/
structure OwnMade (h h' : Heap) (e C d : Addr) (v : Value) : Prop where
  keep : ∀ b o, h.get? b = some o → h'.get? b = some o
  new : h.objs.size ≤ e
  obj : ∃ oe vs, h'.get? e = some oe ∧ oe.cls = .ref C ∧ oe.dict = some d ∧ oe.data = .fields vs ∧ vs[1]? = some .none ∧ 4 < vs.size
  dbig : h.objs.size ≤ d
  dne : d ≠ e
  ns : h'.Ns1 d (fun y => if y = "line" then some v else none)
section
variable {prog : Program} {w : World} {A : Around} {E : Value → Shared → Prop} {R : Result → Shared → Prop} {s : Shared} {K : Frag} {mg : Str → Option Value} {C fI : Addr}
theorem init_BadText (T : BadTextTxt K mg C fI) {x t0 : Addr} {v : Value} (X : K.In s.heap) (hlim : s.heap.NoLimit) (hx : s.heap.get? x = some (excO C t0)) (hnx : K.lookup x = none) (hroom : A.depth < recursionLimit)
    (hq : ∀ h' tk dx, InitEnd s.heap h' x C dx t0 v → R (.ok (.ret .none)) { s with heap := h', toks := tk }) :
    codeAny (model prog w) A (.call (.ref fI) ⟨[.ref x, v], []⟩) R s := by
  obtain ⟨oc, od, kV, doc, pm, an, cdv, ct, osl, p1, p2, q1, q2, q3, q4, ho, hcd⟩ := T.fn
  obtain ⟨nm, q, N, bs, bm, sn, sub, ab, col, dd, k0, k1, k2, k3, k5, hC, hbm⟩ := T.cls
  have hcl : clsIn K C = some { name := nm, bases := bs, mro := .ref C :: bm, ns := N, qualname := q, hasDict := true, slotNames := sn, subclasses := sub, abstract := ab, collection := col, hasDel := false } := by unfold clsIn; rw [hC] <;> rfl
  refine Att.call_fn (binds := [("self", .ref x), ("line", v)]) X hlim ho hcd hroom (BindsTo.of_eq (by first | rfl | with_unfolding_all rfl)) (by first | rfl | decide | with_unfolding_all rfl) (fun s₁ IC => ?_) rfl rfl rfl
  obtain ⟨h₁, tk₁, rfl⟩ := IC.toInCall.same
  have k : ∀ b o, s.heap.get? b = some o → h₁.get? b = some o := IC.toInCall.keep
  have hn := IC.toInCall.ns
  have hxL : s.heap.objs.size ≠ x := Nat.ne_of_gt (Heap.lt_size hx)
  have X₁ : K.In h₁ := X.keeps k
  have hx₁ := k _ _ hx
  -- self.by = by
  show wpAny _ _ (execs _ _) _ _ _
  refine wpAny_execs_cons (plainObj_wpAny_Assign_Attribute ?_)
  refine ldC (v := v) hn (by first | rfl | with_unfolding_all rfl | kernel_rfl) (ldC (v := .ref x) hn (by first | rfl | with_unfolding_all rfl | kernel_rfl) ?_)
  refine set_plain X₁ (ox := excO C t0) (od := none) ⟨hx₁, rfl, rfl, trivial⟩ T.sa ?_
  refine exc_osa X₁ hx₁ hcl (show refsVE (.ref C :: bm) = true from hbm) rfl T.noN (fun h₃ tk₃ dx k₃ dn dne hx₃ hn₃ => ?_)
  show wpAny _ _ (execs _ _) _ _ _
  have z : s.heap.objs.size < h₁.objs.size := hn.lt
  exact wpAny_execs_nil (hq h₃ tk₃ dx ⟨fun b o hb e => k₃ b o hb (k b o e), hx₃, Nat.le_of_lt (Nat.lt_of_lt_of_le z dn), dne, hn₃⟩)
theorem made_BadText (T : BadTextTxt K mg C fI) {v : Value} (X : K.In s.heap) (hlim : s.heap.NoLimit) (hroom : A.depth + 1 < recursionLimit)
    (hq : ∀ h' tk e d, OwnMade s.heap h' e C d v → R (.ok (.ret (.ref e))) { s with heap := h', toks := tk }) :
    codeAny (model prog w) A (.call (.ref C) ⟨[v], []⟩) R s := by
  obtain ⟨nm, q, N, bs, bm, sn, sub, ab, col, dd, k0, k1, k2, k3, k5, hC, hbm⟩ := T.cls
  obtain ⟨hp, g, dr, tk, os⟩ := s
  have k : ∀ b o, hp.get? b = some o → ((hp.push (kdv_tup [v])).push (excO C hp.objs.size)).get? b = some o := fun b o e => Heap.get?_push_of_some _ (Heap.get?_push_of_some _ e)
  have hget : ((hp.push (kdv_tup [v])).push (excO C hp.objs.size)).get? (hp.objs.size + 1) = some (excO C hp.objs.size) := by heap_get
  have hnx : K.lookup (hp.objs.size + 1) = none := by
    cases e : K.lookup (hp.objs.size + 1) with
    | none => rfl
    | some o =>
      have z : hp.get? (hp.objs.size + 1) = some o := X _ _ e
      exact absurd (Nat.lt_of_succ_lt (Heap.lt_size z)) (Nat.lt_irrefl _)
  refine call_own F.excBase_ValueError (fun X => refsVE_contains X bm hbm) (X _ _ hC) (looks_findIn X T.iC) (fun self => bind_fn X self T.tC) (one_size v) ?_
  refine init_BadText (s := ⟨(hp.push (kdv_tup [v])).push (excO C hp.objs.size), g, dr, tk, os⟩) T (X.keeps k) (hlim.keeps k) hget hnx ?_ fun h' tk' dx ⟨k', hx, dn, dne, hns⟩ => ?_
  · show A.depth + 1 < recursionLimit
    exact hroom
  · have old : ∀ b o, hp.get? b = some o → h'.get? b = some o := fun b o e => k' b o (Nat.ne_of_lt (Nat.lt_succ_of_lt (Heap.lt_size e))) (k b o e)
    have z : hp.objs.size + 1 + 1 ≤ dx := by
      first
        | (simpa only [Heap.size_push] using dn)
        | exact dn
        | (have q := dn; rw [Heap.size_push, Heap.size_push] at q; exact q)
    exact ⟨rfl, hq h' tk' (hp.objs.size + 1) dx ⟨old, Nat.le_succ _, ⟨_, _, hx, rfl, rfl, rfl, rfl, (by show (4 : Nat) < 6; decide)⟩, Nat.le_trans (Nat.le_trans (Nat.le_succ _) (Nat.le_succ _)) z, dne, hns⟩⟩
end
end BadTextX
end PySem
namespace L2
open PySem PySem.Spec PyProof.Rows
theorem relO_BadText {v : V} {v' : Value} (r : RelV v v') (f : Str) : RelO (List.lookup f [(("line" : Str), v)]) (if f = "line" then some v' else none) := by
  by_cases hw : f = "line"
  · subst hw
    rw [if_pos rfl]
    have q : List.lookup ("line" : Str) [(("line" : Str), v)] = some v := by simp [List.lookup]
    rw [q]
    exact r
  · rw [if_neg hw]
    have qw : (f == ("line" : Str)) = false := by simpa using hw
    have q2 : List.lookup f [(("line" : Str), v)] = none := by simp [List.lookup, qw]
    rw [q2]
    trivial
section
variable {X : Cx} {C fI : Addr}
/-- Low(e) -/
def tMkBadText (C : Addr) (ta : TA) : St → Hp → XK → Prop := fun σ H Q => ta σ H fun vs H1 => ∃ v, vs = [v] ∧ ∀ d, H1 d = none → Q (.ref C) (some d) (upd H1 d (.xd [(("line" : Str), v)]))
theorem pmk_BadText {a : Expr} {ta : TA} {p pos : Pos} {k : Nat} (T : PySem.BadTextX.BadTextTxt X.K X.mg C fI) (hr : Room k X.A) (ha : PA X [a] ta) (hg : Gl X "BadText" := by rfl)
    (he : starEach (a :: []) X.env = (false, eval a X.env) :: starEach [] X.env := by rfl) (hpl : (backTo pos (starEach [] X.env)).any (·.1) = false := by rfl) :
    PMk X (.Call (.Name "BadText" p) [a] [] pos) (tMkBadText C ta) := by
  intro pins s σ H Q I h
  refine wpAny_Call_Name_kw (ld_glob I hg T.gC ?_)
  refine PySem.W.callWith_K (h₀ := X.base) I.ok.mod.kin T.kC (thn (ha.run pos pins s σ H _ I h) fun us s1 hh => ?_) he hpl
  obtain ⟨vs, H1, I1, r1, v, ev, q1⟩ := hh
  subst ev
  refine ⟨I1.kIn, ?_⟩
  cases r1 with
  | cons rv rn =>
    rename_i v' us'
    cases rn
    show wpAny _ _ (call (.ref C) [v']) _ _ _
    have hlim := I1.nolimit
    obtain ⟨hp, g, dr, tk, os⟩ := s1
    refine wpAny_call (PySem.BadTextX.made_BadText T I1.kIn hlim (by have := hr.dp; omega) fun h' tk' e d M => ?_)
    show MkP X pins σ Q (.ref e) ⟨h', g, dr, tk', os⟩
    obtain ⟨oe, fv, hoe, hc, hd, hdat, h1, _⟩ := M.obj
    have hns := M.ns
    obtain ⟨G', g1, g2⟩ := restrict h' fun b => decide (b ≠ e)
    have gk : ∀ b, b ≠ e → G'.get? b = h'.get? b := fun b hb => g1 b (decide_eq_true hb)
    have ge : G'.get? e = none := g2 e (by simp)
    have old : ∀ b o, hp.get? b = some o → G'.get? b = some o := fun b o q => (gk b (Nat.ne_of_lt (Nat.lt_of_lt_of_le (Heap.lt_size q) M.new))).trans (M.keep b o q)
    have ob : ObjOk X.prog X.w (upd H1 d (.xd [(("line" : Str), v)])) G' d (.xd [(("line" : Str), v)]) :=
      ⟨_, hns.at (fun o q => (gk d M.dne).trans q), fun f => relO_BadText rv f⟩
    have J : Inv X pins σ (upd H1 d (.xd [(("line" : Str), v)])) ⟨G', g, dr, tk', os⟩ := I1.laid (t' := tk') old M.dbig ob
    refine ⟨e, oe, fv, ⟨G', g, dr, tk', os⟩, _, .ref C, some d, rfl, J, fun b o q => ?_, ge, hoe, ⟨hc, hd⟩, hdat, h1, ?_, rfl, I1.bare, raises_own T.exC T.tyC, q1 d (I1.hok.fresh M.dbig)⟩
    · by_cases hb : b = e
      · have q' : G'.get? b = some o := q
        rw [hb, ge] at q'; cases q'
      · exact (gk b hb).symm.trans q
    · rw [upd_ne (Ne.symm M.dne)]
      exact I1.hok.fresh M.new
theorem pmk5_BadText {a : Expr} {ta : TA} {p pos : Pos} {k : Nat} (T : PySem.BadTextX.BadTextTxt X.K X.mg C fI) (hr : Room k X.A) (ha : PA X [a] ta) (hg : Gl X "BadText" := by rfl)
    (he : starEach (a :: []) X.env = (false, eval a X.env) :: starEach [] X.env := by rfl) (hpl : (backTo pos (starEach [] X.env)).any (·.1) = false := by rfl) :
    PMk6 X (.Call (.Name "BadText" p) [a] [] pos) (tMkBadText C ta) := by
  intro pins s σ H Q I h
  refine wpAny_Call_Name_kw (ld_glob I hg T.gC ?_)
  refine PySem.W.callWith_K (h₀ := X.base) I.ok.mod.kin T.kC (thn (ha.run pos pins s σ H _ I h) fun us s1 hh => ?_) he hpl
  obtain ⟨vs, H1, I1, r1, v, ev, q1⟩ := hh
  subst ev
  refine ⟨I1.kIn, ?_⟩
  cases r1 with
  | cons rv rn =>
    rename_i v' us'
    cases rn
    show wpAny _ _ (call (.ref C) [v']) _ _ _
    have hlim := I1.nolimit
    obtain ⟨hp, g, dr, tk, os⟩ := s1
    refine wpAny_call (PySem.BadTextX.made_BadText T I1.kIn hlim (by have := hr.dp; omega) fun h' tk' e d M => ?_)
    show MkP X pins σ Q (.ref e) ⟨h', g, dr, tk', os⟩ ∧ L2H.Six (.ref e) ⟨h', g, dr, tk', os⟩
    obtain ⟨oe, fv, hoe, hc, hd, hdat, h1, h6⟩ := M.obj
    have hns := M.ns
    obtain ⟨G', g1, g2⟩ := restrict h' fun b => decide (b ≠ e)
    have gk : ∀ b, b ≠ e → G'.get? b = h'.get? b := fun b hb => g1 b (decide_eq_true hb)
    have ge : G'.get? e = none := g2 e (by simp)
    have old : ∀ b o, hp.get? b = some o → G'.get? b = some o := fun b o q => (gk b (Nat.ne_of_lt (Nat.lt_of_lt_of_le (Heap.lt_size q) M.new))).trans (M.keep b o q)
    have ob : ObjOk X.prog X.w (upd H1 d (.xd [(("line" : Str), v)])) G' d (.xd [(("line" : Str), v)]) :=
      ⟨_, hns.at (fun o q => (gk d M.dne).trans q), fun f => relO_BadText rv f⟩
    have J : Inv X pins σ (upd H1 d (.xd [(("line" : Str), v)])) ⟨G', g, dr, tk', os⟩ := I1.laid (t' := tk') old M.dbig ob
    refine ⟨?_, fun a oe' vs' ea hg hdd => ?_⟩
    rotate_left
    · cases ea
      have hg' : h'.get? e = some oe' := hg
      rw [hoe] at hg'
      cases hg'
      rw [hdat] at hdd
      cases hdd
      exact h6
    refine ⟨e, oe, fv, ⟨G', g, dr, tk', os⟩, _, .ref C, some d, rfl, J, fun b o q => ?_, ge, hoe, ⟨hc, hd⟩, hdat, h1, ?_, rfl, I1.bare, raises_own T.exC T.tyC, q1 d (I1.hok.fresh M.dbig)⟩
    · by_cases hb : b = e
      · have q' : G'.get? b = some o := q
        rw [hb, ge] at q'; cases q'
      · exact (gk b hb).symm.trans q
    · rw [upd_ne (Ne.symm M.dne)]
      exact I1.hok.fresh M.new
/-- raise Low(e) -/
def tRaiseBadText (C : Addr) (W : WX) (ta : TA) : TS := fun _ σ H => tMkBadText C ta σ H fun cls d H' => W cls d σ H'
theorem ps_raiseBadText {a : Expr} {ta : TA} {W : WX} {p pos pos2 : Pos} {k : Nat} (hc : X.calm = true) (T : PySem.BadTextX.BadTextTxt X.K X.mg C fI) (hr : Room k X.A) (tk : Takes X W) (ha : PA X [a] ta) (hg : Gl X "BadText" := by rfl)
    (he : starEach (a :: []) X.env = (false, eval a X.env) :: starEach [] X.env := by rfl) (hpl : (backTo pos (starEach [] X.env)).any (·.1) = false := by rfl) :
    PS X (.Raise (some (.Call (.Name "BadText" p) [a] [] pos)) none pos2) (tRaiseBadText C W ta) := ps_raise hc tk (pmk_BadText T hr ha hg he hpl)
/-- low.by, low the exception that the suite holds (at a; its class cls, its dict d) -/
def tByBadText (C : Addr) (a : Addr) (cls : Value) (d : Option Addr) (te : TE) : TE := fun σ H Q => te σ H fun x H1 => x = .ref a ∧ cls = .ref C ∧ ∃ (dd : Addr) (v : V), d = some dd ∧ H1 dd = some (.xd [(("line" : Str), v)]) ∧ Q v H1
theorem pe_byBadText {a : Addr} {oe : Obj} {cls : Value} {d : Option Addr} {pn : List (Addr × Obj)} {e : Expr} {te : TE} {pos : Pos} (T : PySem.BadTextX.BadTextTxt X.K X.mg C fI) (hz : Zc cls d oe) (hf : ∃ vs, oe.data = .fields vs) (he : PE (X.suite a ((a, oe) :: pn)) e te)
    (hb : attributeBase e "line" X.env (eval e X.env) = eval e X.env := by rfl) :
    PE (X.suite a ((a, oe) :: pn)) (.Attribute e "line" pos) (tByBadText C a cls d te) := by
  refine ⟨fun pins s σ H Q I h => ?_⟩
  refine attr_of hb (thn (he.run pins s σ H _ I h) fun u s1 hh => ?_)
  obtain ⟨x, H1, I1, rx, ex, ec, dd, v, ed, ea, q⟩ := hh
  subst ex
  obtain rfl : u = Value.ref a := rx
  subst ec
  subst ed
  obtain ⟨ha, _⟩ := I1.pin (a, oe) (List.mem_append_left _ List.mem_cons_self)
  obtain ⟨vs, hd⟩ := hf
  have hx : ObjOk X.prog X.w H1 s1.heap dd (.xd [(("line" : Str), v)]) := I1.hok dd _ ea
  obtain ⟨mA, hns, hr⟩ := hx
  obtain ⟨od, ho, hl⟩ := lookIn_ns hns
  have l : List.lookup ("line" : Str) [(("line" : Str), v)] = some v := by simp [List.lookup]
  obtain ⟨u, hu, ru⟩ := RelO.some_of (v := v) (o := mA "line") (by rw [← l]; exact hr "line")
  have J : PySem.W.InstAt s1.heap a oe C (some od) := ⟨ha, hz.1, by unfold PySem.W.notCls; rw [hd] <;> rfl, by rw [hz.2]; exact ho⟩
  exact HandSPX.exc_get I1.kIn J T.ga T.gg T.exC (PySem.W.findObj_own T.hdC T.noN rfl (by rw [hl, hu])) (handed_of ru) ⟨v, H1, I1.tok _, ru, q⟩
end
end L2


namespace PySem
namespace BadNumberX
open PySem.W PySem.Calls PyProof.Rows PySem.HandSPX
/-! ### the text of __init__ -/
def iA (p1 p2 : Pos) : Arguments := { posonlyargs := [], args := [{ arg := "self", annotation := none, pos := p1 }, { arg := "name", annotation := none, pos := p2 }], vararg := none, kwonlyargs := [], kw_defaults := [], kwarg := none, defaults := [] }
def iB (q1 q2 q3 q4 : Pos) : List Stmt := [.Assign [.Attribute (.Name "self" q1) "name" q2] (.Name "name" q3) q4]
def iS : Scope := { kind := .function, names := [(PySem.Str.ofString "self", .local), (PySem.Str.ofString "name", .local)], isGenerator := false, isCoroutine := false, more := [] }
/-- what the written part says of Low, at C, and of its __init__, at fI -/
structure BadNumberTxt (K : Frag) (mg : Str → Option Value) (C fI : Addr) : Prop where
  gC : mg "BadNumber" = some (.ref C)
  cls : ∃ nm q N bs bm sn sub ab col dd k0 k1 k2 k3 k5, K.lookup C = some (excClassObj nm q C N bs bm true sn sub ab col dd k0 k1 k2 k3 k5 "ValueError.__new__") ∧ refsVE bm = true
  sa : findIn K (.ref C) "__setattr__" = some (some (.builtin "object.__setattr__"))
  ga : findIn K (.ref C) "__getattribute__" = some (some (.builtin "BaseException.__getattribute__"))
  gg : findIn K (.ref C) "__getattr__" = some none
  noN : findIn K (.ref C) "name" = some none
  iC : findIn K (.ref C) "__init__" = some (some (.ref fI))
  tC : typeIn K (.ref fI) = some (.type "function")
  kC : keepIn K (.ref C) = true
  exC : subIn K (.ref C) (.type "BaseException") = some true
  tyC : typeIn K (.ref C) = some (.type "type")
  hdC : hasDictIn K C = true
  te : exmOne K (.ref C) (.ref C) = some true
  fn : ∃ (oc : Value) (od : Option Addr) (kV doc pm : Value) (an : Option Addr) (cdv ct : Value) (osl : Array (Option Value)) (p1 p2 q1 q2 q3 q4 : Pos),
    K.lookup fI = some ⟨oc, od, .func (fnOf "__init__" "BadNumber.__init__" (iA p1 p2) (iB q1 q2 q3 q4) iS .none kV doc pm an cdv ct), osl⟩ ∧ codeIn K cdv "BadNumber.__init__" = true
theorem one_size (v : Value) : [v].length ≤ sizeLine := by
  rw [sizeLine_eq]
  exact (by decide : 1 ≤ 16777216)
theorem kept_but {K : Frag} {h h' : Heap} {x : Addr} (X : K.In h) (hx : K.lookup x = none) (k : ∀ b o, b ≠ x → h.get? b = some o → h'.get? b = some o) : K.In h' := fun a o e =>
  k a o (fun z => by rw [z, hx] at e; cases e) (X a o e)
theorem ldC {M : Model} {s : Shared} {name : Str} {scope : Scope} {L a : Addr} {cd : Value} {m : Str → Option Value} {x : Str} {pos : Pos} {v : Value} {Q : Value → Shared → Prop} {A : Around} {E : Value → Shared → Prop} (hn : s.heap.Ns L m) (hv : m x = some v) (h : Q v s)
    (hk : scope.kind = .function := by rfl) (hl : (envOfC name scope L a cd).kindOf x = some .local := by rfl) (hd : (x == ("__debug__" : Str)) = false := by decide) :
    wpAny M A (eval (.Name x pos) (envOfC name scope L a cd)) Q E s := wpAny_Name (wpAny_loadName_local hk hl hn hv h) hd
/-- what __init__ leaves of a fresh exception at x -/
structure InitEnd (h h' : Heap) (x C dx t1 : Addr) (v : Value) : Prop where
  keep : ∀ b o, b ≠ x → h.get? b = some o → h'.get? b = some o
  obj : h'.get? x = some { cls := .ref C, dict := some dx, data := .fields #[.ref t1, .none, .none, .none, .bool false, .none] }
  dbig : h.objs.size ≤ dx
  dne : dx ≠ x
  ns : h'.Ns1 dx (fun y => if y = "name" then some v else none)
/-- a made Low -/
structure OwnMade (h h' : Heap) (e C d : Addr) (v : Value) : Prop where
  keep : ∀ b o, h.get? b = some o → h'.get? b = some o
  new : h.objs.size ≤ e
  obj : ∃ oe vs, h'.get? e = some oe ∧ oe.cls = .ref C ∧ oe.dict = some d ∧ oe.data = .fields vs ∧ vs[1]? = some .none ∧ 4 < vs.size
  dbig : h.objs.size ≤ d
  dne : d ≠ e
  ns : h'.Ns1 d (fun y => if y = "name" then some v else none)
section
variable {prog : Program} {w : World} {A : Around} {E : Value → Shared → Prop} {R : Result → Shared → Prop} {s : Shared} {K : Frag} {mg : Str → Option Value} {C fI : Addr}
theorem init_BadNumber (T : BadNumberTxt K mg C fI) {x t0 : Addr} {v : Value} (X : K.In s.heap) (hlim : s.heap.NoLimit) (hx : s.heap.get? x = some (excO C t0)) (hnx : K.lookup x = none) (hroom : A.depth < recursionLimit)
    (hq : ∀ h' tk dx, InitEnd s.heap h' x C dx t0 v → R (.ok (.ret .none)) { s with heap := h', toks := tk }) :
    codeAny (model prog w) A (.call (.ref fI) ⟨[.ref x, v], []⟩) R s := by
  obtain ⟨oc, od, kV, doc, pm, an, cdv, ct, osl, p1, p2, q1, q2, q3, q4, ho, hcd⟩ := T.fn
  obtain ⟨nm, q, N, bs, bm, sn, sub, ab, col, dd, k0, k1, k2, k3, k5, hC, hbm⟩ := T.cls
  have hcl : clsIn K C = some { name := nm, bases := bs, mro := .ref C :: bm, ns := N, qualname := q, hasDict := true, slotNames := sn, subclasses := sub, abstract := ab, collection := col, hasDel := false } := by unfold clsIn; rw [hC] <;> rfl
  refine Att.call_fn (binds := [("self", .ref x), ("name", v)]) X hlim ho hcd hroom (BindsTo.of_eq (by first | rfl | with_unfolding_all rfl)) (by first | rfl | decide | with_unfolding_all rfl) (fun s₁ IC => ?_) rfl rfl rfl
  obtain ⟨h₁, tk₁, rfl⟩ := IC.toInCall.same
  have k : ∀ b o, s.heap.get? b = some o → h₁.get? b = some o := IC.toInCall.keep
  have hn := IC.toInCall.ns
  have hxL : s.heap.objs.size ≠ x := Nat.ne_of_gt (Heap.lt_size hx)
  have X₁ : K.In h₁ := X.keeps k
  have hx₁ := k _ _ hx
  -- self.by = by
  show wpAny _ _ (execs _ _) _ _ _
  refine wpAny_execs_cons (plainObj_wpAny_Assign_Attribute ?_)
  refine ldC (v := v) hn (by first | rfl | with_unfolding_all rfl | kernel_rfl) (ldC (v := .ref x) hn (by first | rfl | with_unfolding_all rfl | kernel_rfl) ?_)
  refine set_plain X₁ (ox := excO C t0) (od := none) ⟨hx₁, rfl, rfl, trivial⟩ T.sa ?_
  refine exc_osa X₁ hx₁ hcl (show refsVE (.ref C :: bm) = true from hbm) rfl T.noN (fun h₃ tk₃ dx k₃ dn dne hx₃ hn₃ => ?_)
  show wpAny _ _ (execs _ _) _ _ _
  have z : s.heap.objs.size < h₁.objs.size := hn.lt
  exact wpAny_execs_nil (hq h₃ tk₃ dx ⟨fun b o hb e => k₃ b o hb (k b o e), hx₃, Nat.le_of_lt (Nat.lt_of_lt_of_le z dn), dne, hn₃⟩)
theorem made_BadNumber (T : BadNumberTxt K mg C fI) {v : Value} (X : K.In s.heap) (hlim : s.heap.NoLimit) (hroom : A.depth + 1 < recursionLimit)
    (hq : ∀ h' tk e d, OwnMade s.heap h' e C d v → R (.ok (.ret (.ref e))) { s with heap := h', toks := tk }) :
    codeAny (model prog w) A (.call (.ref C) ⟨[v], []⟩) R s := by
  obtain ⟨nm, q, N, bs, bm, sn, sub, ab, col, dd, k0, k1, k2, k3, k5, hC, hbm⟩ := T.cls
  obtain ⟨hp, g, dr, tk, os⟩ := s
  have k : ∀ b o, hp.get? b = some o → ((hp.push (kdv_tup [v])).push (excO C hp.objs.size)).get? b = some o := fun b o e => Heap.get?_push_of_some _ (Heap.get?_push_of_some _ e)
  have hget : ((hp.push (kdv_tup [v])).push (excO C hp.objs.size)).get? (hp.objs.size + 1) = some (excO C hp.objs.size) := by heap_get
  have hnx : K.lookup (hp.objs.size + 1) = none := by
    cases e : K.lookup (hp.objs.size + 1) with
    | none => rfl
    | some o =>
      have z : hp.get? (hp.objs.size + 1) = some o := X _ _ e
      exact absurd (Nat.lt_of_succ_lt (Heap.lt_size z)) (Nat.lt_irrefl _)
  refine call_own F.excBase_ValueError (fun X => refsVE_contains X bm hbm) (X _ _ hC) (looks_findIn X T.iC) (fun self => bind_fn X self T.tC) (one_size v) ?_
  refine init_BadNumber (s := ⟨(hp.push (kdv_tup [v])).push (excO C hp.objs.size), g, dr, tk, os⟩) T (X.keeps k) (hlim.keeps k) hget hnx ?_ fun h' tk' dx ⟨k', hx, dn, dne, hns⟩ => ?_
  · show A.depth + 1 < recursionLimit
    exact hroom
  · have old : ∀ b o, hp.get? b = some o → h'.get? b = some o := fun b o e => k' b o (Nat.ne_of_lt (Nat.lt_succ_of_lt (Heap.lt_size e))) (k b o e)
    have z : hp.objs.size + 1 + 1 ≤ dx := by
      first
        | (simpa only [Heap.size_push] using dn)
        | exact dn
        | (have q := dn; rw [Heap.size_push, Heap.size_push] at q; exact q)
    exact ⟨rfl, hq h' tk' (hp.objs.size + 1) dx ⟨old, Nat.le_succ _, ⟨_, _, hx, rfl, rfl, rfl, rfl, (by show (4 : Nat) < 6; decide)⟩, Nat.le_trans (Nat.le_trans (Nat.le_succ _) (Nat.le_succ _)) z, dne, hns⟩⟩
end
end BadNumberX
end PySem
namespace L2
open PySem PySem.Spec PyProof.Rows
theorem relO_BadNumber {v : V} {v' : Value} (r : RelV v v') (f : Str) : RelO (List.lookup f [(("name" : Str), v)]) (if f = "name" then some v' else none) := by
  by_cases hw : f = "name"
  · subst hw
    rw [if_pos rfl]
    have q : List.lookup ("name" : Str) [(("name" : Str), v)] = some v := by simp [List.lookup]
    rw [q]
    exact r
  · rw [if_neg hw]
    have qw : (f == ("name" : Str)) = false := by simpa using hw
    have q2 : List.lookup f [(("name" : Str), v)] = none := by simp [List.lookup, qw]
    rw [q2]
    trivial
section
variable {X : Cx} {C fI : Addr}
/-- Low(e) -/
def tMkBadNumber (C : Addr) (ta : TA) : St → Hp → XK → Prop := fun σ H Q => ta σ H fun vs H1 => ∃ v, vs = [v] ∧ ∀ d, H1 d = none → Q (.ref C) (some d) (upd H1 d (.xd [(("name" : Str), v)]))
theorem pmk_BadNumber {a : Expr} {ta : TA} {p pos : Pos} {k : Nat} (T : PySem.BadNumberX.BadNumberTxt X.K X.mg C fI) (hr : Room k X.A) (ha : PA X [a] ta) (hg : Gl X "BadNumber" := by rfl)
    (he : starEach (a :: []) X.env = (false, eval a X.env) :: starEach [] X.env := by rfl) (hpl : (backTo pos (starEach [] X.env)).any (·.1) = false := by rfl) :
    PMk X (.Call (.Name "BadNumber" p) [a] [] pos) (tMkBadNumber C ta) := by
  intro pins s σ H Q I h
  refine wpAny_Call_Name_kw (ld_glob I hg T.gC ?_)
  refine PySem.W.callWith_K (h₀ := X.base) I.ok.mod.kin T.kC (thn (ha.run pos pins s σ H _ I h) fun us s1 hh => ?_) he hpl
  obtain ⟨vs, H1, I1, r1, v, ev, q1⟩ := hh
  subst ev
  refine ⟨I1.kIn, ?_⟩
  cases r1 with
  | cons rv rn =>
    rename_i v' us'
    cases rn
    show wpAny _ _ (call (.ref C) [v']) _ _ _
    have hlim := I1.nolimit
    obtain ⟨hp, g, dr, tk, os⟩ := s1
    refine wpAny_call (PySem.BadNumberX.made_BadNumber T I1.kIn hlim (by have := hr.dp; omega) fun h' tk' e d M => ?_)
    show MkP X pins σ Q (.ref e) ⟨h', g, dr, tk', os⟩
    obtain ⟨oe, fv, hoe, hc, hd, hdat, h1, _⟩ := M.obj
    have hns := M.ns
    obtain ⟨G', g1, g2⟩ := restrict h' fun b => decide (b ≠ e)
    have gk : ∀ b, b ≠ e → G'.get? b = h'.get? b := fun b hb => g1 b (decide_eq_true hb)
    have ge : G'.get? e = none := g2 e (by simp)
    have old : ∀ b o, hp.get? b = some o → G'.get? b = some o := fun b o q => (gk b (Nat.ne_of_lt (Nat.lt_of_lt_of_le (Heap.lt_size q) M.new))).trans (M.keep b o q)
    have ob : ObjOk X.prog X.w (upd H1 d (.xd [(("name" : Str), v)])) G' d (.xd [(("name" : Str), v)]) :=
      ⟨_, hns.at (fun o q => (gk d M.dne).trans q), fun f => relO_BadNumber rv f⟩
    have J : Inv X pins σ (upd H1 d (.xd [(("name" : Str), v)])) ⟨G', g, dr, tk', os⟩ := I1.laid (t' := tk') old M.dbig ob
    refine ⟨e, oe, fv, ⟨G', g, dr, tk', os⟩, _, .ref C, some d, rfl, J, fun b o q => ?_, ge, hoe, ⟨hc, hd⟩, hdat, h1, ?_, rfl, I1.bare, raises_own T.exC T.tyC, q1 d (I1.hok.fresh M.dbig)⟩
    · by_cases hb : b = e
      · have q' : G'.get? b = some o := q
        rw [hb, ge] at q'; cases q'
      · exact (gk b hb).symm.trans q
    · rw [upd_ne (Ne.symm M.dne)]
      exact I1.hok.fresh M.new
/-- raise Low(e) -/
def tRaiseBadNumber (C : Addr) (W : WX) (ta : TA) : TS := fun _ σ H => tMkBadNumber C ta σ H fun cls d H' => W cls d σ H'
theorem ps_raiseBadNumber {a : Expr} {ta : TA} {W : WX} {p pos pos2 : Pos} {k : Nat} (hc : X.calm = true) (T : PySem.BadNumberX.BadNumberTxt X.K X.mg C fI) (hr : Room k X.A) (tk : Takes X W) (ha : PA X [a] ta) (hg : Gl X "BadNumber" := by rfl)
    (he : starEach (a :: []) X.env = (false, eval a X.env) :: starEach [] X.env := by rfl) (hpl : (backTo pos (starEach [] X.env)).any (·.1) = false := by rfl) :
    PS X (.Raise (some (.Call (.Name "BadNumber" p) [a] [] pos)) none pos2) (tRaiseBadNumber C W ta) := ps_raise hc tk (pmk_BadNumber T hr ha hg he hpl)
/-- low.by, low the exception that the suite holds (at a; its class cls, its dict d) -/
def tByBadNumber (C : Addr) (a : Addr) (cls : Value) (d : Option Addr) (te : TE) : TE := fun σ H Q => te σ H fun x H1 => x = .ref a ∧ cls = .ref C ∧ ∃ (dd : Addr) (v : V), d = some dd ∧ H1 dd = some (.xd [(("name" : Str), v)]) ∧ Q v H1
theorem pe_byBadNumber {a : Addr} {oe : Obj} {cls : Value} {d : Option Addr} {pn : List (Addr × Obj)} {e : Expr} {te : TE} {pos : Pos} (T : PySem.BadNumberX.BadNumberTxt X.K X.mg C fI) (hz : Zc cls d oe) (hf : ∃ vs, oe.data = .fields vs) (he : PE (X.suite a ((a, oe) :: pn)) e te)
    (hb : attributeBase e "name" X.env (eval e X.env) = eval e X.env := by rfl) :
    PE (X.suite a ((a, oe) :: pn)) (.Attribute e "name" pos) (tByBadNumber C a cls d te) := by
  refine ⟨fun pins s σ H Q I h => ?_⟩
  refine attr_of hb (thn (he.run pins s σ H _ I h) fun u s1 hh => ?_)
  obtain ⟨x, H1, I1, rx, ex, ec, dd, v, ed, ea, q⟩ := hh
  subst ex
  obtain rfl : u = Value.ref a := rx
  subst ec
  subst ed
  obtain ⟨ha, _⟩ := I1.pin (a, oe) (List.mem_append_left _ List.mem_cons_self)
  obtain ⟨vs, hd⟩ := hf
  have hx : ObjOk X.prog X.w H1 s1.heap dd (.xd [(("name" : Str), v)]) := I1.hok dd _ ea
  obtain ⟨mA, hns, hr⟩ := hx
  obtain ⟨od, ho, hl⟩ := lookIn_ns hns
  have l : List.lookup ("name" : Str) [(("name" : Str), v)] = some v := by simp [List.lookup]
  obtain ⟨u, hu, ru⟩ := RelO.some_of (v := v) (o := mA "name") (by rw [← l]; exact hr "name")
  have J : PySem.W.InstAt s1.heap a oe C (some od) := ⟨ha, hz.1, by unfold PySem.W.notCls; rw [hd] <;> rfl, by rw [hz.2]; exact ho⟩
  exact HandSPX.exc_get I1.kIn J T.ga T.gg T.exC (PySem.W.findObj_own T.hdC T.noN rfl (by rw [hl, hu])) (handed_of ru) ⟨v, H1, I1.tok _, ru, q⟩
end
end L2


namespace PySem
namespace BadRunX
open PySem.W PySem.Calls PyProof.Rows PySem.HandSPX
/-! ### the text of __init__ -/
def iA (p1 p2 : Pos) : Arguments := { posonlyargs := [], args := [{ arg := "self", annotation := none, pos := p1 }, { arg := "place", annotation := none, pos := p2 }], vararg := none, kwonlyargs := [], kw_defaults := [], kwarg := none, defaults := [] }
def iB (q1 q2 q3 q4 : Pos) : List Stmt := [.Assign [.Attribute (.Name "self" q1) "place" q2] (.Name "place" q3) q4]
def iS : Scope := { kind := .function, names := [(PySem.Str.ofString "self", .local), (PySem.Str.ofString "place", .local)], isGenerator := false, isCoroutine := false, more := [] }
/-- what the written part says of Low, at C, and of its __init__, at fI -/
structure BadRunTxt (K : Frag) (mg : Str → Option Value) (C fI : Addr) : Prop where
  gC : mg "BadRun" = some (.ref C)
  cls : ∃ nm q N bs bm sn sub ab col dd k0 k1 k2 k3 k5, K.lookup C = some (excClassObj nm q C N bs bm true sn sub ab col dd k0 k1 k2 k3 k5 "ValueError.__new__") ∧ refsVE bm = true
  sa : findIn K (.ref C) "__setattr__" = some (some (.builtin "object.__setattr__"))
  ga : findIn K (.ref C) "__getattribute__" = some (some (.builtin "BaseException.__getattribute__"))
  gg : findIn K (.ref C) "__getattr__" = some none
  noN : findIn K (.ref C) "place" = some none
  iC : findIn K (.ref C) "__init__" = some (some (.ref fI))
  tC : typeIn K (.ref fI) = some (.type "function")
  kC : keepIn K (.ref C) = true
  exC : subIn K (.ref C) (.type "BaseException") = some true
  tyC : typeIn K (.ref C) = some (.type "type")
  hdC : hasDictIn K C = true
  te : exmOne K (.ref C) (.ref C) = some true
  fn : ∃ (oc : Value) (od : Option Addr) (kV doc pm : Value) (an : Option Addr) (cdv ct : Value) (osl : Array (Option Value)) (p1 p2 q1 q2 q3 q4 : Pos),
    K.lookup fI = some ⟨oc, od, .func (fnOf "__init__" "BadRun.__init__" (iA p1 p2) (iB q1 q2 q3 q4) iS .none kV doc pm an cdv ct), osl⟩ ∧ codeIn K cdv "BadRun.__init__" = true
theorem one_size (v : Value) : [v].length ≤ sizeLine := by
  rw [sizeLine_eq]
  exact (by decide : 1 ≤ 16777216)
theorem kept_but {K : Frag} {h h' : Heap} {x : Addr} (X : K.In h) (hx : K.lookup x = none) (k : ∀ b o, b ≠ x → h.get? b = some o → h'.get? b = some o) : K.In h' := fun a o e =>
  k a o (fun z => by rw [z, hx] at e; cases e) (X a o e)
theorem ldC {M : Model} {s : Shared} {name : Str} {scope : Scope} {L a : Addr} {cd : Value} {m : Str → Option Value} {x : Str} {pos : Pos} {v : Value} {Q : Value → Shared → Prop} {A : Around} {E : Value → Shared → Prop} (hn : s.heap.Ns L m) (hv : m x = some v) (h : Q v s)
    (hk : scope.kind = .function := by rfl) (hl : (envOfC name scope L a cd).kindOf x = some .local := by rfl) (hd : (x == ("__debug__" : Str)) = false := by decide) :
    wpAny M A (eval (.Name x pos) (envOfC name scope L a cd)) Q E s := wpAny_Name (wpAny_loadName_local hk hl hn hv h) hd
/-- what __init__ leaves of a fresh exception at x -/
structure InitEnd (h h' : Heap) (x C dx t1 : Addr) (v : Value) : Prop where
  keep : ∀ b o, b ≠ x → h.get? b = some o → h'.get? b = some o
  obj : h'.get? x = some { cls := .ref C, dict := some dx, data := .fields #[.ref t1, .none, .none, .none, .bool false, .none] }
  dbig : h.objs.size ≤ dx
  dne : dx ≠ x
  ns : h'.Ns1 dx (fun y => if y = "place" then some v else none)
/-- a made Low -/
structure OwnMade (h h' : Heap) (e C d : Addr) (v : Value) : Prop where
  keep : ∀ b o, h.get? b = some o → h'.get? b = some o
  new : h.objs.size ≤ e
  obj : ∃ oe vs, h'.get? e = some oe ∧ oe.cls = .ref C ∧ oe.dict = some d ∧ oe.data = .fields vs ∧ vs[1]? = some .none ∧ 4 < vs.size
  dbig : h.objs.size ≤ d
  dne : d ≠ e
  ns : h'.Ns1 d (fun y => if y = "place" then some v else none)
section
variable {prog : Program} {w : World} {A : Around} {E : Value → Shared → Prop} {R : Result → Shared → Prop} {s : Shared} {K : Frag} {mg : Str → Option Value} {C fI : Addr}
theorem init_BadRun (T : BadRunTxt K mg C fI) {x t0 : Addr} {v : Value} (X : K.In s.heap) (hlim : s.heap.NoLimit) (hx : s.heap.get? x = some (excO C t0)) (hnx : K.lookup x = none) (hroom : A.depth < recursionLimit)
    (hq : ∀ h' tk dx, InitEnd s.heap h' x C dx t0 v → R (.ok (.ret .none)) { s with heap := h', toks := tk }) :
    codeAny (model prog w) A (.call (.ref fI) ⟨[.ref x, v], []⟩) R s := by
  obtain ⟨oc, od, kV, doc, pm, an, cdv, ct, osl, p1, p2, q1, q2, q3, q4, ho, hcd⟩ := T.fn
  obtain ⟨nm, q, N, bs, bm, sn, sub, ab, col, dd, k0, k1, k2, k3, k5, hC, hbm⟩ := T.cls
  have hcl : clsIn K C = some { name := nm, bases := bs, mro := .ref C :: bm, ns := N, qualname := q, hasDict := true, slotNames := sn, subclasses := sub, abstract := ab, collection := col, hasDel := false } := by unfold clsIn; rw [hC] <;> rfl
  refine Att.call_fn (binds := [("self", .ref x), ("place", v)]) X hlim ho hcd hroom (BindsTo.of_eq (by first | rfl | with_unfolding_all rfl)) (by first | rfl | decide | with_unfolding_all rfl) (fun s₁ IC => ?_) rfl rfl rfl
  obtain ⟨h₁, tk₁, rfl⟩ := IC.toInCall.same
  have k : ∀ b o, s.heap.get? b = some o → h₁.get? b = some o := IC.toInCall.keep
  have hn := IC.toInCall.ns
  have hxL : s.heap.objs.size ≠ x := Nat.ne_of_gt (Heap.lt_size hx)
  have X₁ : K.In h₁ := X.keeps k
  have hx₁ := k _ _ hx
  -- self.by = by
  show wpAny _ _ (execs _ _) _ _ _
  refine wpAny_execs_cons (plainObj_wpAny_Assign_Attribute ?_)
  refine ldC (v := v) hn (by first | rfl | with_unfolding_all rfl | kernel_rfl) (ldC (v := .ref x) hn (by first | rfl | with_unfolding_all rfl | kernel_rfl) ?_)
  refine set_plain X₁ (ox := excO C t0) (od := none) ⟨hx₁, rfl, rfl, trivial⟩ T.sa ?_
  refine exc_osa X₁ hx₁ hcl (show refsVE (.ref C :: bm) = true from hbm) rfl T.noN (fun h₃ tk₃ dx k₃ dn dne hx₃ hn₃ => ?_)
  show wpAny _ _ (execs _ _) _ _ _
  have z : s.heap.objs.size < h₁.objs.size := hn.lt
  exact wpAny_execs_nil (hq h₃ tk₃ dx ⟨fun b o hb e => k₃ b o hb (k b o e), hx₃, Nat.le_of_lt (Nat.lt_of_lt_of_le z dn), dne, hn₃⟩)
theorem made_BadRun (T : BadRunTxt K mg C fI) {v : Value} (X : K.In s.heap) (hlim : s.heap.NoLimit) (hroom : A.depth + 1 < recursionLimit)
    (hq : ∀ h' tk e d, OwnMade s.heap h' e C d v → R (.ok (.ret (.ref e))) { s with heap := h', toks := tk }) :
    codeAny (model prog w) A (.call (.ref C) ⟨[v], []⟩) R s := by
  obtain ⟨nm, q, N, bs, bm, sn, sub, ab, col, dd, k0, k1, k2, k3, k5, hC, hbm⟩ := T.cls
  obtain ⟨hp, g, dr, tk, os⟩ := s
  have k : ∀ b o, hp.get? b = some o → ((hp.push (kdv_tup [v])).push (excO C hp.objs.size)).get? b = some o := fun b o e => Heap.get?_push_of_some _ (Heap.get?_push_of_some _ e)
  have hget : ((hp.push (kdv_tup [v])).push (excO C hp.objs.size)).get? (hp.objs.size + 1) = some (excO C hp.objs.size) := by heap_get
  have hnx : K.lookup (hp.objs.size + 1) = none := by
    cases e : K.lookup (hp.objs.size + 1) with
    | none => rfl
    | some o =>
      have z : hp.get? (hp.objs.size + 1) = some o := X _ _ e
      exact absurd (Nat.lt_of_succ_lt (Heap.lt_size z)) (Nat.lt_irrefl _)
  refine call_own F.excBase_ValueError (fun X => refsVE_contains X bm hbm) (X _ _ hC) (looks_findIn X T.iC) (fun self => bind_fn X self T.tC) (one_size v) ?_
  refine init_BadRun (s := ⟨(hp.push (kdv_tup [v])).push (excO C hp.objs.size), g, dr, tk, os⟩) T (X.keeps k) (hlim.keeps k) hget hnx ?_ fun h' tk' dx ⟨k', hx, dn, dne, hns⟩ => ?_
  · show A.depth + 1 < recursionLimit
    exact hroom
  · have old : ∀ b o, hp.get? b = some o → h'.get? b = some o := fun b o e => k' b o (Nat.ne_of_lt (Nat.lt_succ_of_lt (Heap.lt_size e))) (k b o e)
    have z : hp.objs.size + 1 + 1 ≤ dx := by
      first
        | (simpa only [Heap.size_push] using dn)
        | exact dn
        | (have q := dn; rw [Heap.size_push, Heap.size_push] at q; exact q)
    exact ⟨rfl, hq h' tk' (hp.objs.size + 1) dx ⟨old, Nat.le_succ _, ⟨_, _, hx, rfl, rfl, rfl, rfl, (by show (4 : Nat) < 6; decide)⟩, Nat.le_trans (Nat.le_trans (Nat.le_succ _) (Nat.le_succ _)) z, dne, hns⟩⟩
end
end BadRunX
end PySem
namespace L2
open PySem PySem.Spec PyProof.Rows
theorem relO_BadRun {v : V} {v' : Value} (r : RelV v v') (f : Str) : RelO (List.lookup f [(("place" : Str), v)]) (if f = "place" then some v' else none) := by
  by_cases hw : f = "place"
  · subst hw
    rw [if_pos rfl]
    have q : List.lookup ("place" : Str) [(("place" : Str), v)] = some v := by simp [List.lookup]
    rw [q]
    exact r
  · rw [if_neg hw]
    have qw : (f == ("place" : Str)) = false := by simpa using hw
    have q2 : List.lookup f [(("place" : Str), v)] = none := by simp [List.lookup, qw]
    rw [q2]
    trivial
section
variable {X : Cx} {C fI : Addr}
/-- Low(e) -/
def tMkBadRun (C : Addr) (ta : TA) : St → Hp → XK → Prop := fun σ H Q => ta σ H fun vs H1 => ∃ v, vs = [v] ∧ ∀ d, H1 d = none → Q (.ref C) (some d) (upd H1 d (.xd [(("place" : Str), v)]))
theorem pmk_BadRun {a : Expr} {ta : TA} {p pos : Pos} {k : Nat} (T : PySem.BadRunX.BadRunTxt X.K X.mg C fI) (hr : Room k X.A) (ha : PA X [a] ta) (hg : Gl X "BadRun" := by rfl)
    (he : starEach (a :: []) X.env = (false, eval a X.env) :: starEach [] X.env := by rfl) (hpl : (backTo pos (starEach [] X.env)).any (·.1) = false := by rfl) :
    PMk X (.Call (.Name "BadRun" p) [a] [] pos) (tMkBadRun C ta) := by
  intro pins s σ H Q I h
  refine wpAny_Call_Name_kw (ld_glob I hg T.gC ?_)
  refine PySem.W.callWith_K (h₀ := X.base) I.ok.mod.kin T.kC (thn (ha.run pos pins s σ H _ I h) fun us s1 hh => ?_) he hpl
  obtain ⟨vs, H1, I1, r1, v, ev, q1⟩ := hh
  subst ev
  refine ⟨I1.kIn, ?_⟩
  cases r1 with
  | cons rv rn =>
    rename_i v' us'
    cases rn
    show wpAny _ _ (call (.ref C) [v']) _ _ _
    have hlim := I1.nolimit
    obtain ⟨hp, g, dr, tk, os⟩ := s1
    refine wpAny_call (PySem.BadRunX.made_BadRun T I1.kIn hlim (by have := hr.dp; omega) fun h' tk' e d M => ?_)
    show MkP X pins σ Q (.ref e) ⟨h', g, dr, tk', os⟩
    obtain ⟨oe, fv, hoe, hc, hd, hdat, h1, _⟩ := M.obj
    have hns := M.ns
    obtain ⟨G', g1, g2⟩ := restrict h' fun b => decide (b ≠ e)
    have gk : ∀ b, b ≠ e → G'.get? b = h'.get? b := fun b hb => g1 b (decide_eq_true hb)
    have ge : G'.get? e = none := g2 e (by simp)
    have old : ∀ b o, hp.get? b = some o → G'.get? b = some o := fun b o q => (gk b (Nat.ne_of_lt (Nat.lt_of_lt_of_le (Heap.lt_size q) M.new))).trans (M.keep b o q)
    have ob : ObjOk X.prog X.w (upd H1 d (.xd [(("place" : Str), v)])) G' d (.xd [(("place" : Str), v)]) :=
      ⟨_, hns.at (fun o q => (gk d M.dne).trans q), fun f => relO_BadRun rv f⟩
    have J : Inv X pins σ (upd H1 d (.xd [(("place" : Str), v)])) ⟨G', g, dr, tk', os⟩ := I1.laid (t' := tk') old M.dbig ob
    refine ⟨e, oe, fv, ⟨G', g, dr, tk', os⟩, _, .ref C, some d, rfl, J, fun b o q => ?_, ge, hoe, ⟨hc, hd⟩, hdat, h1, ?_, rfl, I1.bare, raises_own T.exC T.tyC, q1 d (I1.hok.fresh M.dbig)⟩
    · by_cases hb : b = e
      · have q' : G'.get? b = some o := q
        rw [hb, ge] at q'; cases q'
      · exact (gk b hb).symm.trans q
    · rw [upd_ne (Ne.symm M.dne)]
      exact I1.hok.fresh M.new
/-- raise Low(e) -/
def tRaiseBadRun (C : Addr) (W : WX) (ta : TA) : TS := fun _ σ H => tMkBadRun C ta σ H fun cls d H' => W cls d σ H'
theorem ps_raiseBadRun {a : Expr} {ta : TA} {W : WX} {p pos pos2 : Pos} {k : Nat} (hc : X.calm = true) (T : PySem.BadRunX.BadRunTxt X.K X.mg C fI) (hr : Room k X.A) (tk : Takes X W) (ha : PA X [a] ta) (hg : Gl X "BadRun" := by rfl)
    (he : starEach (a :: []) X.env = (false, eval a X.env) :: starEach [] X.env := by rfl) (hpl : (backTo pos (starEach [] X.env)).any (·.1) = false := by rfl) :
    PS X (.Raise (some (.Call (.Name "BadRun" p) [a] [] pos)) none pos2) (tRaiseBadRun C W ta) := ps_raise hc tk (pmk_BadRun T hr ha hg he hpl)
/-- low.by, low the exception that the suite holds (at a; its class cls, its dict d) -/
def tByBadRun (C : Addr) (a : Addr) (cls : Value) (d : Option Addr) (te : TE) : TE := fun σ H Q => te σ H fun x H1 => x = .ref a ∧ cls = .ref C ∧ ∃ (dd : Addr) (v : V), d = some dd ∧ H1 dd = some (.xd [(("place" : Str), v)]) ∧ Q v H1
theorem pe_byBadRun {a : Addr} {oe : Obj} {cls : Value} {d : Option Addr} {pn : List (Addr × Obj)} {e : Expr} {te : TE} {pos : Pos} (T : PySem.BadRunX.BadRunTxt X.K X.mg C fI) (hz : Zc cls d oe) (hf : ∃ vs, oe.data = .fields vs) (he : PE (X.suite a ((a, oe) :: pn)) e te)
    (hb : attributeBase e "place" X.env (eval e X.env) = eval e X.env := by rfl) :
    PE (X.suite a ((a, oe) :: pn)) (.Attribute e "place" pos) (tByBadRun C a cls d te) := by
  refine ⟨fun pins s σ H Q I h => ?_⟩
  refine attr_of hb (thn (he.run pins s σ H _ I h) fun u s1 hh => ?_)
  obtain ⟨x, H1, I1, rx, ex, ec, dd, v, ed, ea, q⟩ := hh
  subst ex
  obtain rfl : u = Value.ref a := rx
  subst ec
  subst ed
  obtain ⟨ha, _⟩ := I1.pin (a, oe) (List.mem_append_left _ List.mem_cons_self)
  obtain ⟨vs, hd⟩ := hf
  have hx : ObjOk X.prog X.w H1 s1.heap dd (.xd [(("place" : Str), v)]) := I1.hok dd _ ea
  obtain ⟨mA, hns, hr⟩ := hx
  obtain ⟨od, ho, hl⟩ := lookIn_ns hns
  have l : List.lookup ("place" : Str) [(("place" : Str), v)] = some v := by simp [List.lookup]
  obtain ⟨u, hu, ru⟩ := RelO.some_of (v := v) (o := mA "place") (by rw [← l]; exact hr "place")
  have J : PySem.W.InstAt s1.heap a oe C (some od) := ⟨ha, hz.1, by unfold PySem.W.notCls; rw [hd] <;> rfl, by rw [hz.2]; exact ho⟩
  exact HandSPX.exc_get I1.kIn J T.ga T.gg T.exC (PySem.W.findObj_own T.hdC T.noN rfl (by rw [hl, hu])) (handed_of ru) ⟨v, H1, I1.tok _, ru, q⟩
end
end L2



namespace L2
open PySem PySem.Spec PyProof.Rows HotX
/-- an argument that makes nothing -/
def Plain1 (X : Cx) (a : Expr) (t : St → Prop) : Prop := ∀ (pins : List (Addr × Obj)) (s : Shared) (σ : St) (H : Hp) (Q : Value → Shared → Prop), Inv X pins σ H s → t σ → (∀ u tk, Q u { s with toks := tk }) → wpAny (model X.prog X.w) X.A (eval a X.env) Q X.xe s
theorem plain_str {X : Cx} {x : Str} {j pos} : Plain1 X (.Constant (.str x) j pos) (fun _ => True) := fun _ _ _ _ _ _ _ h => Calls.Constant_str (h _ _)
theorem plain_var {X : Cx} {i : Nat} {x : Str} {pos : Pos} (hN : X.N[i]? = some x) (hv : Vis X.env.scope x) (hd : (x == ("__debug__" : Str)) = false := by decide) (hcd : (x == ("__classdict__" : Str)) = false := by decide) :
    Plain1 X (.Name x pos) (fun σ => ∃ v, σ[i]? = some (some v)) := by
  intro pins s σ H Q I ⟨v, e⟩ h
  obtain ⟨m, hn, hl⟩ := I.loc
  obtain ⟨u, r, l⟩ := hl i x v hN e hv
  rcases l with ⟨hk, hm⟩ | ⟨hk, c, hc, hcell⟩
  · exact wpAny_Name (wpAny_loadName_local I.ok.kind hk hn hm (h u s.toks)) hd
  · rcases hk with hk | hk
    · exact wpAny_Name (wpAny_loadName_cell I.ok.kind hk hc hcell (h u s.toks)) hd
    · exact wpAny_Name (wpAny_loadName_free I.ok.kind hk hc hcell (h u s.toks) hcd) hd
/-- an expression that makes an exception; all that stood stands -/
def Caus (X : Cx) (c : Expr) (t : St → Prop) : Prop := ∀ (pins : List (Addr × Obj)) (s : Shared) (σ : St) (H : Hp) (Q : Value → Shared → Prop), Inv X pins σ H s → t σ →
  (∀ (h' : Heap) (tk : Nat) (b : Addr) (ob : Obj) (cls : Value) (vs : Array Value), (∀ a o, s.heap.get? a = some o → h'.get? a = some o) → h'.get? b = some ob → ob.cls = cls → ob.data = .fields vs → Raises X cls → Q (.ref b) { s with heap := h', toks := tk }) →
  wpAny (model X.prog X.w) X.A (eval c X.env) Q X.xe s

theorem caus_BadNumber {X : Cx} {C fI : Addr} {a : Expr} {ta : St → Prop} {p pos : Pos} {k : Nat} (T : PySem.BadNumberX.BadNumberTxt X.K X.mg C fI) (hr : Room k X.A) (ha : Plain1 X a ta) (hg : Gl X "BadNumber" := by rfl)
    (he : starEach (a :: []) X.env = (false, eval a X.env) :: starEach [] X.env := by rfl) (hpl : (backTo pos (starEach [] X.env)).any (·.1) = false := by rfl) :
    Caus X (.Call (.Name "BadNumber" p) [a] [] pos) ta := by
  intro pins s σ H Q I h hq
  refine wpAny_Call_Name_kw (ld_glob I hg T.gC ?_)
  refine PySem.W.callWith_K (h₀ := X.base) I.ok.mod.kin T.kC ?_ he hpl
  rw [he]
  show wpAny _ _ (spliced ((false, eval a X.env) :: backTo pos (starEach [] X.env))) _ _ s
  refine Calls.spliced_cons (ha pins s σ H _ I h fun u tk => ?_)
  refine PySem.Calls.spliced_nil ?_
  have I2 : Inv X pins σ H { s with toks := tk } := I.tok tk
  refine ⟨I2.kIn, wpAny_call (PySem.BadNumberX.made_BadNumber (s := { s with toks := tk }) T I2.kIn I2.nolimit (by have := hr.dp; omega) fun h' tk' e d M => ?_)⟩
  obtain ⟨oe, fv, hoe, hc, hd, hdat, h1, _⟩ := M.obj
  exact hq h' tk' e oe (.ref C) fv M.keep hoe hc hdat (raises_own T.exC T.tyC)

theorem caus_BadRun {X : Cx} {C fI : Addr} {a : Expr} {ta : St → Prop} {p pos : Pos} {k : Nat} (T : PySem.BadRunX.BadRunTxt X.K X.mg C fI) (hr : Room k X.A) (ha : Plain1 X a ta) (hg : Gl X "BadRun" := by rfl)
    (he : starEach (a :: []) X.env = (false, eval a X.env) :: starEach [] X.env := by rfl) (hpl : (backTo pos (starEach [] X.env)).any (·.1) = false := by rfl) :
    Caus X (.Call (.Name "BadRun" p) [a] [] pos) ta := by
  intro pins s σ H Q I h hq
  refine wpAny_Call_Name_kw (ld_glob I hg T.gC ?_)
  refine PySem.W.callWith_K (h₀ := X.base) I.ok.mod.kin T.kC ?_ he hpl
  rw [he]
  show wpAny _ _ (spliced ((false, eval a X.env) :: backTo pos (starEach [] X.env))) _ _ s
  refine Calls.spliced_cons (ha pins s σ H _ I h fun u tk => ?_)
  refine PySem.Calls.spliced_nil ?_
  have I2 : Inv X pins σ H { s with toks := tk } := I.tok tk
  refine ⟨I2.kIn, wpAny_call (PySem.BadRunX.made_BadRun (s := { s with toks := tk }) T I2.kIn I2.nolimit (by have := hr.dp; omega) fun h' tk' e d M => ?_)⟩
  obtain ⟨oe, fv, hoe, hc, hd, hdat, h1, _⟩ := M.obj
  exact hq h' tk' e oe (.ref C) fv M.keep hoe hc hdat (raises_own T.exC T.tyC)

/-- the heap behind «from c» -/
def causeIn (h : Heap) (a : Addr) (c : Value) : Heap := (h.update a (Obj.mapFields (·.setIfInBounds 3 c))).update a (Obj.mapFields (·.setIfInBounds 4 (.bool true)))
theorem causeIn_at {h : Heap} {a : Addr} {c : Value} {oe : Obj} {vs : Array Value} (ha : h.get? a = some oe) (hd : oe.data = .fields vs) :
    (causeIn h a c).get? a = some ((oe.mapFields (·.setIfInBounds 3 c)).mapFields (·.setIfInBounds 4 (.bool true))) ∧ ((oe.mapFields (·.setIfInBounds 3 c)).mapFields (·.setIfInBounds 4 (.bool true))).data = .fields ((vs.setIfInBounds 3 c).setIfInBounds 4 (.bool true)) := by
  have hd3 := Obj.data_mapFields hd (·.setIfInBounds 3 c)
  have ha3 := Heap.get?_update_self (Obj.mapFields (·.setIfInBounds 3 c)) ha (Obj.isFreed_of_fields hd3)
  have hd4 := Obj.data_mapFields hd3 (·.setIfInBounds 4 (.bool true))
  exact ⟨Heap.get?_update_self (Obj.mapFields (·.setIfInBounds 4 (.bool true))) ha3 (Obj.isFreed_of_fields hd4), hd4⟩
theorem causeIn_other {h : Heap} {a b : Addr} {c : Value} (hne : a ≠ b) : (causeIn h a c).get? b = h.get? b := by
  unfold causeIn
  rw [Heap.get?_update_other _ _ hne, Heap.get?_update_other _ _ hne]
theorem raise_made_from {M : Model} {A : Around} {E : Value → Shared → Prop} {env : Env} {s : Shared} {x c : Sem Value} {Q : Flow → Shared → Prop} (hh : A.handled = none)
    (h : wpAny M A x (fun v s₁ => wpAny M A c (fun cv s₂ => ∃ a oe vs cls b ob cls2 ws, v = .ref a ∧ cv = .ref b ∧ s₂.heap.get? a = some oe ∧ oe.cls = cls ∧ oe.data = .fields vs ∧ vs[1]? = some .none ∧ 4 < vs.size ∧
      s₂.heap.get? b = some ob ∧ ob.cls = cls2 ∧ ob.data = .fields ws ∧
      PySem.W.Looks M s₂.heap (isSubtype cls (.type "BaseException")) true ∧ PySem.W.Looks M (causeIn s₂.heap a cv) (typeOf cls) (.type "type") ∧ PySem.W.Looks M s₂.heap (isSubtype cls2 (.type "BaseException")) true ∧ E (.ref a) { s₂ with heap := causeIn s₂.heap a cv }) E s₁) E s) :
    wpAny M A (raiseStmt env (some x) (some c)) Q E s := by
  unfold raiseStmt
  dsimp only
  refine wpAny_bind (wpAny_mono h (fun v s₁ h₁ => ?_) fun _ _ x => x)
  refine wpAny_bind (wpAny_holding (wpAny_mono h₁ (fun cv s₂ h₂ => ?_) fun _ _ x => x))
  obtain ⟨a, oe, vs, cls, b, ob, cls2, ws, rfl, rfl, ha, hcls, hd, h1, hi, hb, hcls2, hd2, L1, L3, L2', hE⟩ := h₂
  have LT : PySem.W.Looks M s₂.heap (typeOf (.ref a)) cls := fun A Q E s k q => wpAny_typeOf_ref (k _ _ ha) (by rw [hcls]; exact q)
  have LI : PySem.W.Looks M s₂.heap (isInstance (.ref a) (.type "BaseException")) true := LT.andThen L1
  have LTb : PySem.W.Looks M s₂.heap (typeOf (.ref b)) cls2 := fun A Q E s k q => wpAny_typeOf_ref (k _ _ hb) (by rw [hcls2]; exact q)
  have LIb : PySem.W.Looks M s₂.heap (isInstance (.ref b) (.type "BaseException")) true := LTb.andThen L2'
  have hnt : ∀ {Q' : Bool → Shared → Prop}, Q' false s₂ → wpAny M A (isType (.ref a)) Q' E s₂ := by
    intro Q' hq
    simp only [isType, loadHead]
    refine wpAny_bind (wpAny_loadPart ha ?_)
    rw [hd]; exact wpAny_pure hq
  have hntb : ∀ {Q' : Bool → Shared → Prop}, Q' false s₂ → wpAny M A (isType (.ref b)) Q' E s₂ := by
    intro Q' hq
    simp only [isType, loadHead]
    refine wpAny_bind (wpAny_loadPart hb ?_)
    rw [hd2]; exact wpAny_pure hq
  have hd3 := Obj.data_mapFields hd (·.setIfInBounds 3 (.ref b))
  have ha3 := Heap.get?_update_self (Obj.mapFields (·.setIfInBounds 3 (.ref b))) ha (Obj.isFreed_of_fields hd3)
  obtain ⟨ha4, hd4⟩ := causeIn_at (c := .ref b) ha hd
  have s3 : 3 < vs.size := by omega
  have s4 : 4 < (vs.setIfInBounds 3 (Value.ref b)).size := by rw [set_size]; exact hi
  have h14 : ((vs.setIfInBounds 3 (Value.ref b)).setIfInBounds 4 (Value.bool true))[1]? = some Value.none := set_other (by decide) (set_other (by decide) h1)
  have hcls4 : ((oe.mapFields (·.setIfInBounds 3 (.ref b))).mapFields (·.setIfInBounds 4 (.bool true))).cls = cls := by rw [Obj.cls_mapFields, Obj.cls_mapFields]; exact hcls
  have LT4 : PySem.W.Looks M (causeIn s₂.heap a (.ref b)) (typeOf (.ref a)) cls := fun A Q E s k q => wpAny_typeOf_ref (k _ _ ha4) (by rw [hcls4]; exact q)
  have hnt4 : ∀ {Q' : Bool → Shared → Prop}, Q' false { s₂ with heap := causeIn s₂.heap a (.ref b) } → wpAny M A (isType (.ref a)) Q' E { s₂ with heap := causeIn s₂.heap a (.ref b) } := by
    intro Q' hq
    simp only [isType, loadHead]
    refine wpAny_bind (wpAny_loadPart ha4 ?_)
    rw [hd4]; exact wpAny_pure hq
  have rest : wpAny M A (do
      let b ← isType (.ref a)
      if b = true then do
        let e ← holding [.ref a] (raisedFor (.ref a) (.ref a))
        setFlight e none
        raiseNew e
      else do
        let e ← raisedInstance (.ref a)
        setFlight e none
        raiseNew e : Sem Flow) Q E { s₂ with heap := causeIn s₂.heap a (.ref b) } := by
    refine wpAny_bind (hnt4 ?_)
    simp only [Bool.false_eq_true, if_false]
    unfold raisedInstance
    refine wpAny_bind (wpAny_bind (LT4.here (wpAny_bind (L3.here ?_))))
    rw [if_pos (beq_self_eq_true _)]
    refine wpAny_pure ?_
    unfold setFlight raiseNew
    refine wpAny_bind (wpAny_bind (wpAny_field ha4 hd4 h14 ?_))
    rw [if_neg (by decide)]
    refine wpAny_pure (wpAny_bind (wpAny_handled ?_))
    rw [hh]
    first
      | exact wpAny_throw hE
      | exact wpAny_bind (wpAny_pure (wpAny_throw hE))
  refine wpAny_bind (wpAny_pure ?_)
  dsimp only
  refine wpAny_bind (wpAny_holding ?_)
  unfold excFromValue isExcClass
  refine wpAny_bind (wpAny_bind (hnt ?_))
  simp only [Bool.false_eq_true, if_false]
  refine wpAny_pure ?_
  simp only [Bool.false_eq_true, if_false]
  refine wpAny_bind (LI.here ?_)
  simp only [if_true]
  refine wpAny_pure ?_
  rw [if_neg (show ¬ ((Value.ref b == Value.none) = true) from Bool.false_ne_true)]
  refine wpAny_bind (wpAny_holding ?_)
  refine wpAny_bind (wpAny_bind (hntb ?_))
  simp only [Bool.false_eq_true, if_false]
  refine wpAny_pure ?_
  simp only [Bool.false_eq_true, if_false]
  refine wpAny_bind (LIb.here ?_)
  simp only [if_true]
  refine wpAny_pure ?_
  refine wpAny_bind (wpAny_setField ha hd s3 (wpAny_bind (wpAny_setField ha3 hd3 s4 ?_)))
  exact rest
/-- raise X(..) from Y(..) -/
theorem ps_raiseFrom {X : Cx} {W : WX} {e c : Expr} {t : St → Hp → XK → Prop} {tc : St → Prop} {pos : Pos} (hc : X.calm = true) (tk : Takes X W) (he : PMk6 X e t) (hcs : Caus X c tc) :
    PS X (.Raise (some e) (some c) pos) (fun _ σ H => tc σ ∧ t σ H fun cls d H' => W cls d σ H') := by
  refine ⟨fun pins s σ H D I h => ?_⟩
  obtain ⟨h0, h⟩ := h
  show wpAny _ _ (do standAt pos; raiseStmt X.env (some (do let v ← eval e X.env; standAt pos; pure v)) (some (do let v ← eval c X.env; standAt pos; pure v))) _ _ _
  refine wpAny_bind (wpAny_standAt (raise_made_from (I.ok.hd hc) (wpAny_bind (wpAny_mono (he pins s σ H _ I h) (fun u s1 hu => wpAny_bind (wpAny_standAt (wpAny_pure ?_))) fun _ _ x => x))))
  obtain ⟨⟨a, oe, vs, sI, H', cls, d, rfl, J, k, hne, ha, hz, hd, h1, na, os, ag, r, q⟩, h5⟩ := hu
  have hi : 4 < vs.size := h5 a oe vs rfl ha hd
  have J1 : Inv X pins σ H' s1 := by
    obtain ⟨hh, g, dr, tk', os'⟩ := s1
    obtain rfl : os' = sI.os := os
    exact J.call (h' := hh) (g' := g) (t' := tk') (d' := dr) (ch := []) (Un.kept k) (J.hok.kept k) ag (fun b z => absurd z (by simp))
  refine wpAny_bind (wpAny_mono (hcs pins s1 σ H' (fun cv s2 => ∃ a' oe' vs' cls' b ob cls2 ws, Value.ref a = .ref a' ∧ cv = .ref b ∧ s2.heap.get? a' = some oe' ∧ oe'.cls = cls' ∧ oe'.data = .fields vs' ∧ vs'[1]? = some .none ∧ 4 < vs'.size ∧
      s2.heap.get? b = some ob ∧ ob.cls = cls2 ∧ ob.data = .fields ws ∧
      PySem.W.Looks (model X.prog X.w) s2.heap (isSubtype cls' (.type "BaseException")) true ∧ PySem.W.Looks (model X.prog X.w) (causeIn s2.heap a' cv) (typeOf cls') (.type "type") ∧ PySem.W.Looks (model X.prog X.w) s2.heap (isSubtype cls2 (.type "BaseException")) true ∧ X.xe (.ref a') { s2 with heap := causeIn s2.heap a' cv }) J1 h0 fun h' tk' b ob cls2 ws k2 hb hcl hw r2 => ?_) (fun u s1 hu => wpAny_bind (wpAny_standAt (wpAny_pure hu))) fun _ _ x => x)
  have ha2 := k2 _ _ ha
  have kk : ∀ y u, sI.heap.get? y = some u → (causeIn h' a (.ref b)).get? y = some u := fun y u z => by
    have nay : a ≠ y := fun e => by
      rw [← e, hne] at z
      cases z
    rw [causeIn_other nay]
    exact k2 _ _ (k y u z)
  obtain ⟨r3, _⟩ := r (model X.prog X.w) h' (J1.kIn.keeps k2)
  obtain ⟨_, r4⟩ := r (model X.prog X.w) (causeIn h' a (.ref b)) (J.kIn.keeps kk)
  obtain ⟨r5, _⟩ := r2 (model X.prog X.w) h' (J1.kIn.keeps k2)
  obtain ⟨ha4, hd4⟩ := causeIn_at (c := .ref b) ha2 hd
  refine ⟨a, oe, vs, cls, b, ob, cls2, ws, rfl, rfl, ha2, hz.1, hd, h1, hi, hb, hcl, hw, r3, r4, r5, tk _ _ (XE.new (s' := { s1 with heap := causeIn h' a (.ref b), toks := tk' }) J kk hne ha4 ⟨?_, ?_⟩ hd4 (set_other (by decide) (set_other (by decide) h1)) na os ag q)⟩
  · rw [Obj.cls_mapFields, Obj.cls_mapFields]
    exact hz.1
  · rw [HandSPX.dict_mapFields, HandSPX.dict_mapFields]
    exact hz.2
end L2


set_option Elab.async false
set_option linter.all false
set_option maxRecDepth 100000
set_option maxHeartbeats 4000000
/-! The head's facts: names, defs, defs over a cell, and a row of Bools. -/
namespace HkK
open PySem PySem.Spec PyProof.Rows L2 He
/-- a def that closes over one cell -/
abbrev FnC : Type := Option (Str × Str × Arguments × FuncBody × Scope × Addr × Addr)
def fnC (K : PySem.W.Frag) (p : Str × Option Str) : FnC := match K.lookup (fAd K p) with
  | some ⟨_, _, .func fd, _⟩ => some (fd.name, fd.qualname, fd.params, fd.body, fd.scope, fd.globals, fd.builtins)
  | _ => none
def valC (d : DefD) : FnC := some (d.name, d.qual, d.params, .stmts d.body, d.scope, mainGlobals, builtinsNs)
/-- the cell of its closure, its code -/
def cellAd (K : PySem.W.Frag) (p : Str × Option Str) : Addr := match K.lookup (fAd K p) with
  | some ⟨_, _, .func fd, _⟩ => (match fd.closure with
    | (_, c) :: _ => c
    | _ => 0)
  | _ => 0
def codeAd (K : PySem.W.Frag) (p : Str × Option Str) : Addr := match K.lookup (fAd K p) with
  | some ⟨_, _, .func fd, _⟩ => (match fd.code with
    | .ref c => c
    | _ => 0)
  | _ => 0
def supB (P : Program) (K : PySem.W.Frag) (C f2 : Addr) (p : Str × Option Str) (qual : Str) : Bool :=
  (match K.lookup (fAd K p) with
    | some ⟨_, _, .func fd, _⟩ => (match fd.closure with
      | [(x, c)] => decide (x = "__class__") && ((match fd.code with
        | .ref _ => true
        | _ => false) && ((match fd.defaults with
        | .none => true
        | _ => false) && (match fd.kwdefaults with
        | .ref _ => true
        | _ => false)))
      | _ => false)
    | _ => false) &&
  (PySem.W.codeIn K (.ref (codeAd K p)) qual && ((match K.lookup (codeAd K p) with
    | some ⟨_, _, .fields vs, _⟩ => (match ((vs : Array Value)[2]? : Option Value) with
      | some (.str file _) => ((P.main.file : Str) == file)
      | _ => false)
    | _ => false) && ((match K.lookup (cellAd K p) with
    | some ⟨_, _, .cell (some (.ref D)), _⟩ => decide (D = C)
    | _ => false) && (decide (PySem.W.mroIn K C (.ref C) = some true) && (eqO (PySem.W.ks_superIn K C C "__init__") (some (some (.ref f2))) && (decide (PySem.W.typeIn K (.ref f2) = some (.type "function")) && (PySem.W.fnIn K f2 &&
      (eqO (PySem.W.nsIn K cStatics "thirdparty.any") (some none) && (!(P.main.scope.names.lookup ("super" : Str)).isSome && (PySem.W.clsIn K C).isSome)))))))))
theorem supB_ok {P : Program} {K : PySem.W.Frag} {mg : Str → Option Value} {C f2 : Addr} {d : DefD} (e : fnC K d.at_ = valC d) (h : supB P K C f2 d.at_ d.qual = true) (hs : mg "super" = none) (hn : d.name = "__init__") :
    ∃ fd, SupI.SupTxt P K mg C (fAd K d.at_) f2 (cellAd K d.at_) (codeAd K d.at_) fd d.qual d.params d.body d.scope ∧ ∃ cd, PySem.W.clsIn K C = some cd := by
  obtain ⟨h1, h⟩ := ba h
  obtain ⟨h2, h⟩ := ba h
  obtain ⟨h3, h⟩ := ba h
  obtain ⟨h4, h⟩ := ba h
  obtain ⟨h5, h⟩ := ba h
  obtain ⟨h6, h⟩ := ba h
  obtain ⟨h7, h⟩ := ba h
  obtain ⟨h8, h⟩ := ba h
  obtain ⟨h9, h⟩ := ba h
  obtain ⟨h10, h11⟩ := ba h
  unfold fnC at e
  cases q : K.lookup (fAd K d.at_) with
  | none =>
    rw [q] at h1
    cases h1
  | some o =>
    obtain ⟨oc, od, dt, osl⟩ := o
    rw [q] at h1 e
    cases dt with
    | func fd =>
      obtain ⟨n1, n2, n3, n4, n5, n6, n7, n8, n9, n10, n11, n12, n13, n14, n15⟩ := fd
      have e2 : (some (n1, n2, n3, n4, n5, n6, n15) : FnC) = some (d.name, d.qual, d.params, .stmts d.body, d.scope, mainGlobals, builtinsNs) := e
      simp only [Option.some.injEq, Prod.mk.injEq] at e2
      obtain ⟨e1, e2, e3, e4, e5, e6, e7⟩ := e2
      subst e1 e2 e3 e4 e5 e6 e7
      cases n7 with
      | nil => cases h1
      | cons xc rest =>
        obtain ⟨x, c⟩ := xc
        cases rest with
        | cons _ _ => cases h1
        | nil =>
        obtain ⟨hx, h1'⟩ := ba h1
        obtain ⟨h1a, h1b⟩ := ba h1'
        obtain ⟨h1b, h1c⟩ := ba h1b
        obtain ⟨cda, rfl⟩ : ∃ cda, n13 = Value.ref cda := by
          cases n13 with
          | ref a => exact ⟨a, rfl⟩
          | _ => cases h1a
        obtain rfl : n8 = Value.none := by
          cases n8 with
          | none => rfl
          | _ => cases h1b
        obtain ⟨Dk, rfl⟩ : ∃ Dk, n9 = Value.ref Dk := by
          cases n9 with
          | ref a => exact ⟨a, rfl⟩
          | _ => cases h1c
        have hx' : x = "__class__" := of_decide_eq_true hx
        subst hx'
        have ec : cellAd K d.at_ = c := by
          unfold cellAd
          rw [q]
        have ed : codeAd K d.at_ = cda := by
          unfold codeAd
          rw [q]
        refine ⟨_, ⟨⟨oc, od, n12, Dk, n10, n11, n14, osl, ?_, q⟩, h2, ?_, ?_, of_decide_eq_true h5, hs, eqO_ok h6, of_decide_eq_true h7, h8, eqO_ok h9, by simpa using h10⟩, Option.isSome_iff_exists.mp h11⟩
        · rw [hn, ec, ed]
        · split at h3
          · rename_i a b vs cc hh
            split at h3
            · rename_i file tf hv
              exact ⟨a, b, vs, cc, file, tf, hh, hv, h3⟩
            · cases h3
          · cases h3
        · split at h4
          · rename_i a b D cc hh
            have : D = C := of_decide_eq_true h4
            subst this
            exact ⟨a, b, cc, hh⟩
          · cases h4
    | _ => cases h1
/-- an exception class of the program, its __init__ -/
def excB (K : PySem.W.Frag) (C : Addr) : Bool := match K.lookup C with
  | some ⟨.type "type", _, .cls cd, sl⟩ => (match cd.mro, sl.toList with
    | .ref C' :: bm, [_, _, _, _, some (.builtin n), _] => decide (C' = C) && (decide (n = "ValueError.__new__") && (!cd.hasDel && (cd.hasDict && PySem.HandSPX.refsVE bm)))
    | _, _ => false)
  | _ => false
theorem excB_ok {K : PySem.W.Frag} {C : Addr} (h : excB K C = true) : ∃ nm q N bs bm sn sub ab col dd k0 k1 k2 k3 k5, K.lookup C = some (excClassObj nm q C N bs bm true sn sub ab col dd k0 k1 k2 k3 k5 "ValueError.__new__") ∧ PySem.HandSPX.refsVE bm = true := by
  unfold excB at h
  split at h
  · rename_i dd cd sl ho
    split at h
    · rename_i C' bm k0 k1 k2 k3 n k5 hm hs
      obtain ⟨h1, h⟩ := ba h
      obtain ⟨h2, h⟩ := ba h
      obtain ⟨h3, h⟩ := ba h
      obtain ⟨h4, h5⟩ := ba h
      have e1 : C' = C := of_decide_eq_true h1
      have e2 : n = "ValueError.__new__" := of_decide_eq_true h2
      subst e1 e2
      obtain ⟨nm, bs, mro, ns, qn, hd, sn, sb, ab, col, del⟩ := cd
      dsimp only at hm h3 h4
      subst hm
      have e3 : del = false := by simpa using h3
      subst e3 h4
      have e4 : sl = #[k0, k1, k2, k3, some (.builtin "ValueError.__new__"), k5] := by
        apply Array.ext'
        simpa using hs
      subst e4
      exact ⟨nm, qn, ns, bs, bm, sn, sb, ab, col, dd, k0, k1, k2, k3, k5, ho, h5⟩
    · cases h
  · cases h
/-! ### the Hook -/
abbrev AlK : Type := AlD × List FnC × Bool
def obsK (fa : List Fa) (fn fc : List DefD) (ex : PySem.W.Frag → List Bool) (K : PySem.W.Frag) : AlK := (obsD fa fn K, fc.map (fun d => fnC K d.at_), (ex K).all id)
def valK (fn fc : List DefD) : AlK := (valD fn, fc.map valC, true)
def frK (n : Nat) (g : Addr → Option Obj) : PySem.W.Frag := frG g (asD g n ++ [cStatics])
def hookK (n : Nat) (fa : List Fa) (fn fc : List DefD) (ex : PySem.W.Frag → List Bool) : PySem.W.Hook where
  α := AlK
  obs := fun s => obsK fa fn fc ex (frK n s.heap.get?)
  val := fun _ => valK fn fc
  says := fun _ h => ∃ K : PySem.W.Frag, K.In h ∧ obsK fa fn fc ex K = valK fn fc
  of := fun _ _ e => ⟨_, frG_in, e⟩
  keeps := fun _ _ _ ⟨K, hK, c⟩ k => ⟨K, PySem.W.Frag.In.keeps hK k, c⟩
theorem obsK_eq {n : Nat} {fa : List Fa} {fn fc : List DefD} {ex : PySem.W.Frag → List Bool} {g : Addr → Option Obj} {s : Shared} (h : ∀ a, g a = s.heap.get? a) : obsK fa fn fc ex (frK n g) = (hookK n fa fn fc ex).obs s := by
  have e : g = s.heap.get? := funext h
  rw [e] <;> rfl
section
variable {fa : List Fa} {fn fc : List DefD} {ex : PySem.W.Frag → List Bool} {K : PySem.W.Frag}
theorem saysD_of (c : obsK fa fn fc ex K = valK fn fc) : SaysD fa fn K := congrArg (fun z : AlK => z.1) c
theorem says_ex (c : obsK fa fn fc ex K = valK fn fc) (i : Nat) {b : Bool} (h : (ex K)[i]? = some b) : b = true := by
  have e : (ex K).all id = true := congrArg (fun z : AlK => z.2.2) c
  exact List.all_eq_true.mp e b (List.mem_of_getElem? h)
theorem says_fc (c : obsK fa fn fc ex K = valK fn fc) (i : Nat) {d : DefD} (h : fc[i]? = some d) : fnC K d.at_ = valC d := by
  have e : fc.map (fun d => fnC K d.at_) = fc.map valC := congrArg (fun z : AlK => z.2.1) c
  have e2 : (fc.map fun d => fnC K d.at_)[i]? = (fc.map valC)[i]? := by rw [e]
  rw [List.getElem?_map, List.getElem?_map, h] at e2
  exact Option.some.inj e2
end
end HkK


set_option Elab.async false
set_option linter.all false
set_option maxRecDepth 100000
set_option maxHeartbeats 4000000
/-! The head's facts, widened by the getters of properties. -/
namespace HkQ
open PySem PySem.Spec PyProof.Rows L2 He HkK
def gAd (K : PySem.W.Frag) (p : Str × Option Str) : Addr := match PySem.W.recIn K (fAd K p) "property" with
  | some (.ref g :: _) => g
  | _ => 0
def fnG (K : PySem.W.Frag) (p : Str × Option Str) : FnV := match K.lookup (gAd K p) with
  | some ⟨_, _, .func fd, _⟩ => some (fd.name, fd.qualname, fd.params, fd.body, fd.scope, fd.globals, fd.closure, fd.defaults, fd.builtins)
  | _ => none
def valG (d : DefD) : FnV := some (d.name, d.qual, d.params, .stmts d.body, d.scope, mainGlobals, [], .none, builtinsNs)
def codeG (K : PySem.W.Frag) (p : Str × Option Str) (q : Str) : Bool := (match K.lookup (gAd K p) with
    | some ⟨_, _, .func fd, _⟩ => PySem.W.codeIn K fd.code q
    | _ => false) && PySem.W.keepIn K (.ref (gAd K p))
theorem fnG_ok {K : PySem.W.Frag} {d : DefD} (e : fnG K d.at_ = valG d) (c : codeG K d.at_ d.qual = true) : ∃ fd, FunD K d.name d.qual d.params d.body d.scope [] [] (gAd K d.at_) fd := by
  obtain ⟨c2, c3⟩ := ba c
  unfold fnG at e
  cases q : K.lookup (gAd K d.at_) with
  | none =>
    rw [q] at c2
    cases c2
  | some o =>
    obtain ⟨oc, od, dt, osl⟩ := o
    rw [q] at c2 e
    cases dt with
    | func fd =>
      obtain ⟨n1, n2, n3, n4, n5, n6, n7, n8, n9, n10, n11, n12, n13, n14, n15⟩ := fd
      have e2 : (some (n1, n2, n3, n4, n5, n6, n7, n8, n15) : FnV) = some (d.name, d.qual, d.params, .stmts d.body, d.scope, mainGlobals, [], .none, builtinsNs) := e
      simp only [Option.some.injEq, Prod.mk.injEq] at e2
      obtain ⟨h1, h2, h3, h4, h5, h6, h7, h8, h9⟩ := e2
      subst h1 h2 h3 h4 h5 h6 h7 h8 h9
      exact ⟨_, ⟨oc, od, .none, n9, n10, n11, n12, n13, n14, osl, rfl, q, c2, .inl ⟨rfl, rfl⟩, .inl rfl⟩, c3⟩
    | _ => cases c2
def prB (K : PySem.W.Frag) (C : Addr) (f : Str) (p g : Addr) : Bool :=
  eqO (PySem.W.findIn K (.ref C) f) (some (some (.ref p))) && (eqO (PySem.W.specialIn K (.ref p) "__get__") (some (some (.builtin "property.__get__"))) && (decide (PySem.W.takesIn K (.ref p) = some true) && (match PySem.W.recIn K p "property" with
    | some (.ref g' :: _) => decide (g' = g)
    | _ => false)))
theorem prB_ok {K : PySem.W.Frag} {C : Addr} {f : Str} {p g : Addr} (h : prB K C f p g = true) : PropOf K C f p g := by
  obtain ⟨h1, h⟩ := ba h
  obtain ⟨h2, h⟩ := ba h
  obtain ⟨h3, h4⟩ := ba h
  refine ⟨eqO_ok h1, eqO_ok h2, of_decide_eq_true h3, ?_⟩
  split at h4
  · rename_i g' r q
    have e : g' = g := of_decide_eq_true h4
    exact ⟨r, by rw [q, e]⟩
  · cases h4
abbrev AlQ : Type := AlK × List FnV
def obsQ (fa : List Fa) (fn fc fg : List DefD) (ex : PySem.W.Frag → List Bool) (K : PySem.W.Frag) : AlQ := (obsK fa fn fc ex K, fg.map (fun d => fnG K d.at_))
def valQ (fn fc fg : List DefD) : AlQ := (valK fn fc, fg.map valG)
def hookQ (n : Nat) (fa : List Fa) (fn fc fg : List DefD) (ex : PySem.W.Frag → List Bool) : PySem.W.Hook where
  α := AlQ
  obs := fun s => obsQ fa fn fc fg ex (frK n s.heap.get?)
  val := fun _ => valQ fn fc fg
  says := fun _ h => ∃ K : PySem.W.Frag, K.In h ∧ obsQ fa fn fc fg ex K = valQ fn fc fg
  of := fun _ _ e => ⟨_, frG_in, e⟩
  keeps := fun _ _ _ ⟨K, hK, c⟩ k => ⟨K, PySem.W.Frag.In.keeps hK k, c⟩
theorem obsQ_eq {n : Nat} {fa : List Fa} {fn fc fg : List DefD} {ex : PySem.W.Frag → List Bool} {g : Addr → Option Obj} {s : Shared} (h : ∀ a, g a = s.heap.get? a) : obsQ fa fn fc fg ex (frK n g) = (hookQ n fa fn fc fg ex).obs s := by
  have e : g = s.heap.get? := funext h
  rw [e] <;> rfl
section
variable {fa : List Fa} {fn fc fg : List DefD} {ex : PySem.W.Frag → List Bool} {K : PySem.W.Frag}
theorem saysK (c : obsQ fa fn fc fg ex K = valQ fn fc fg) : obsK fa fn fc ex K = valK fn fc := congrArg (fun z : AlQ => z.1) c
theorem says_fg (c : obsQ fa fn fc fg ex K = valQ fn fc fg) (i : Nat) {d : DefD} (h : fg[i]? = some d) : fnG K d.at_ = valG d := by
  have e : fg.map (fun d => fnG K d.at_) = fg.map valG := congrArg (fun z : AlQ => z.2) c
  have e2 : (fg.map fun d => fnG K d.at_)[i]? = (fg.map valG)[i]? := by rw [e]
  rw [List.getElem?_map, List.getElem?_map, h] at e2
  exact Option.some.inj e2
end
end HkQ


set_option Elab.async false
set_option linter.all false
set_option maxRecDepth 100000
set_option maxHeartbeats 4000000
/-! what the module's names reach, level by level, each object once (a number's bits tell which were met): the head's facts over it. -/
namespace HkB
open PySem PySem.Spec PyProof.Rows L2
def hasBit (m a : Nat) : Bool := Nat.beq (Nat.land 1 (Nat.shiftRight m a)) 1
def frN {α : Type} (n : Nat) (k : Nat → α) : α := match n with
  | 0 => k 0
  | m + 1 => k (m + 1)
/-- those that are new -/
def addNew : List Addr → Nat → List Addr → (Nat → List Addr → List Addr) → List Addr
  | [], m, nw, k => k m nw
  | a :: t, m, nw, k => frN a fun a => match hasBit m a with
    | true => addNew t m nw k
    | false => frN (Nat.lor m (Nat.shiftLeft 1 a)) fun m => addNew t m (a :: nw) k
def refsG (g : Addr → Option Obj) : List Addr → List Addr
  | [] => []
  | a :: t => (match g a with
    | some o => He.refsD o
    | none => []) ++ refsG g t
def levels (g : Addr → Option Obj) : Nat → Nat → List Addr → List Addr → List Addr
  | 0, _, fr, all => fr ++ all
  | n + 1, m, fr, all => addNew (refsG g fr) m [] fun m nw => levels g n m nw (fr ++ all)
def asB (g : Addr → Option Obj) (n : Nat) : List Addr := addNew [mainGlobals] 0 [] fun m nw => levels g n m nw []
def frB (n : Nat) (g : Addr → Option Obj) : PySem.W.Frag := He.frG g (asB g n ++ [cStatics])
def hookB (n : Nat) (fa : List He.Fa) (fn fc fg : List He.DefD) (ex : PySem.W.Frag → List Bool) : PySem.W.Hook where
  α := HkQ.AlQ
  obs := fun s => HkQ.obsQ fa fn fc fg ex (frB n s.heap.get?)
  val := fun _ => HkQ.valQ fn fc fg
  says := fun _ h => ∃ K : PySem.W.Frag, K.In h ∧ HkQ.obsQ fa fn fc fg ex K = HkQ.valQ fn fc fg
  of := fun _ _ e => ⟨_, He.frG_in, e⟩
  keeps := fun _ _ _ ⟨K, hK, c⟩ k => ⟨K, PySem.W.Frag.In.keeps hK k, c⟩
theorem obsB_eq {n : Nat} {fa : List He.Fa} {fn fc fg : List He.DefD} {ex : PySem.W.Frag → List Bool} {g : Addr → Option Obj} {s : Shared} (h : ∀ a, g a = s.heap.get? a) : HkQ.obsQ fa fn fc fg ex (frB n g) = (hookB n fa fn fc fg ex).obs s := by
  have e : g = s.heap.get? := funext h
  rw [e] <;> rfl
end HkB


set_option Elab.async false
set_option linter.all false
set_option maxRecDepth 100000
set_option maxHeartbeats 4000000
/-! The head's facts: constants read off a class object; keyword defaults that are the empty tuple. -/
namespace HkT
open PySem PySem.Spec PyProof.Rows L2 He
def kwT (K : PySem.W.Frag) (f : Addr) (x : Str) : Bool := match K.lookup f with
  | some ⟨_, _, .func fd, _⟩ => (match fd.kwdefaults with
    | .ref D => (match PySem.W.nsIn K D x with
      | some (some (.ref a)) => (match K.lookup a with
        | some ⟨.type c, _, .seq its _, _⟩ => c == "tuple" && its.toList.isEmpty
        | _ => false)
      | _ => false)
    | _ => false)
  | _ => false
structure KwT (K : PySem.W.Frag) (f : Addr) (x : Str) : Prop where
  ex : ∃ oc od fd osl D a, K.lookup f = some ⟨oc, od, .func fd, osl⟩ ∧ fd.kwdefaults = .ref D ∧ PySem.W.nsIn K D x = some (some (.ref a)) ∧ ∃ o its n, K.lookup a = some o ∧ o.cls = .type "tuple" ∧ o.data = .seq its n ∧ its.toList = []
theorem kwT_ok {K : PySem.W.Frag} {f : Addr} {x : Str} (h : kwT K f x = true) : KwT K f x := by
  unfold kwT at h
  split at h
  · rename_i oc od fd osl e1
    split at h
    · rename_i D e2
      split at h
      · rename_i a e3
        split at h
        · rename_i c dd its n sl e4
          rw [Bool.and_eq_true] at h
          exact ⟨⟨_, _, _, _, D, a, e1, e2, e3, _, its, n, e4, by rw [eq_of_beq h.1], rfl, List.isEmpty_iff.mp h.2⟩⟩
        · cases h
      · cases h
    · cases h
  · cases h
def cvB (K : PySem.W.Frag) (C : Addr) (f : Str) (v : V) : Bool := PySem.W.readsIn K C (.type "type") && (eqO (PySem.W.specialIn K (.ref C) "__getattribute__") (some (some (.builtin "type.__getattribute__"))) && (match PySem.W.findCls K (.ref C) (.type "type") f with
  | some (.val u) => relB v u
  | _ => false))
structure CV (K : PySem.W.Frag) (C : Addr) (f : Str) (v : V) : Prop where
  rd : ClX.CRead K C (.type "type")
  vl : ∃ u, ClX.CVal K C (.type "type") f v u
theorem cvB_ok {K : PySem.W.Frag} {C : Addr} {f : Str} {v : V} (h : cvB K C f v = true) : CV K C f v := by
  unfold cvB at h
  obtain ⟨h1, h⟩ := ba h
  obtain ⟨h2, h3⟩ := ba h
  refine ⟨⟨h1, eqO_ok h2⟩, ?_⟩
  split at h3
  · rename_i u e
    exact ⟨u, e, relB_ok h3⟩
  · cases h3
end HkT


set_option Elab.async false
set_option linter.all false
set_option maxRecDepth 100000
set_option maxHeartbeats 4000000
namespace K05
open PySem PySem.Spec PyProof.Rows L2
def top (i : Nat) : Stmt := PySem.Challenge.pw_keptparts_k05_a_stock_or_points.main.body.getD i (.Pass ⟨0, 0, 0, 0⟩)
abbrev s__wall : Stmt := top 0
abbrev s_BadNumber___init__ : Stmt := inClass (top 3) 0
abbrev s_BadRun___init__ : Stmt := inClass (top 4) 0
abbrev s_BadSet___init__ : Stmt := inClass (top 5) 0
abbrev s_BadDemand___init__ : Stmt := inClass (top 6) 0
abbrev s_NotJoin___init__ : Stmt := inClass (top 7) 0
abbrev s_BadPoint___init__ : Stmt := inClass (top 8) 0
abbrev s_is_whole : Stmt := top 10
abbrev s_is_within : Stmt := top 11
abbrev s_is_count : Stmt := top 12
abbrev s_is_row : Stmt := top 13
abbrev s_is_pair : Stmt := top 14
abbrev s_is_run : Stmt := top 15
abbrev s_first_wrong : Stmt := top 16
abbrev s_set_of : Stmt := top 18
abbrev s_both : Stmt := top 19
abbrev s_minus : Stmt := top 20
abbrev s_Market___init__ : Stmt := inClass (top 23) 1
abbrev s_Market_many : Stmt := inClass (top 23) 2
abbrev s_Market_there : Stmt := inClass (top 23) 3
abbrev s_Market_run_of : Stmt := inClass (top 23) 4
abbrev s_Market_parts_over : Stmt := inClass (top 23) 5
abbrev s_Market___len__ : Stmt := inClass (top 23) 6
abbrev s_Market___iter__ : Stmt := inClass (top 23) 7
abbrev s_Market___contains__ : Stmt := inClass (top 23) 8
abbrev s_Market___eq__ : Stmt := inClass (top 23) 9
abbrev s_Join___init__ : Stmt := inClass (top 24) 1
abbrev s_Join_lose : Stmt := inClass (top 24) 2
abbrev s_Join_keep : Stmt := inClass (top 24) 3
abbrev s_Join_and_run : Stmt := inClass (top 24) 4
abbrev s_Join___sub__ : Stmt := inClass (top 24) 5
abbrev s_Join___add__ : Stmt := inClass (top 24) 6
abbrev s_Join___or__ : Stmt := inClass (top 24) 7
abbrev s_Join___invert__ : Stmt := inClass (top 24) 8
abbrev s_Join___mul__ : Stmt := inClass (top 24) 9
abbrev s_Lap___init__ : Stmt := inClass (top 25) 1
abbrev s_Lap_lose : Stmt := inClass (top 25) 2
abbrev s_Lap_keep : Stmt := inClass (top 25) 3
abbrev s_Lap_and_run : Stmt := inClass (top 25) 4
abbrev s_Lap___sub__ : Stmt := inClass (top 25) 5
abbrev s_Lap___add__ : Stmt := inClass (top 25) 6
abbrev s_Lap___or__ : Stmt := inClass (top 25) 7
abbrev s_Lap___invert__ : Stmt := inClass (top 25) 8
abbrev s_Lap___mul__ : Stmt := inClass (top 25) 9
abbrev s_checked_runs : Stmt := top 26
abbrev s_gone_after : Stmt := top 27
abbrev s_end_to_end_shape : Stmt := top 28
abbrev s_beside_shape : Stmt := top 29
abbrev s_joined_gone : Stmt := top 30
abbrev s_turned_runs : Stmt := top 31
abbrev s_repeated_parts : Stmt := top 32
abbrev s_check_times : Stmt := top 33
abbrev s_is_lap : Stmt := top 34
abbrev s_check_join : Stmt := top 35
abbrev s_demand_of : Stmt := top 37
abbrev s_covered : Stmt := top 38
abbrev s_fits_place : Stmt := top 39
abbrev s_wrong_place : Stmt := top 40
abbrev s_is_stock_of : Stmt := top 41
abbrev s_is_stock : Stmt := top 42
abbrev s_begins_of : Stmt := top 43
abbrev s_steps_from : Stmt := top 46
abbrev s_move_of : Stmt := top 47
abbrev s_behind : Stmt := top 48
abbrev s_priced : Stmt := top 50
abbrev s_price_of_step : Stmt := top 51
abbrev s_spread : Stmt := top 52
abbrev s_row_to : Stmt := top 53
abbrev s_reached_points : Stmt := top 54
abbrev s_carried : Stmt := top 55
abbrev s_row_between : Stmt := top 56
abbrev s_cheapest_of : Stmt := top 57
abbrev s_filled : Stmt := top 58
abbrev s_some_stock : Stmt := top 60
abbrev s_any_stock : Stmt := top 61
abbrev s_has_stock : Stmt := top 62
abbrev s_points_up_to : Stmt := top 64
abbrev s_point_flags : Stmt := top 65
abbrev s_leaving : Stmt := top 66
abbrev s_entering : Stmt := top 67
abbrev s_outflow : Stmt := top 68
abbrev s_lacking : Stmt := top 69
abbrev s__law_draws : Stmt := top 71
abbrev s__law_take : Stmt := top 72
abbrev s__law_int : Stmt := top 73
abbrev s__law_set : Stmt := top 74
abbrev s__law_chains : Stmt := top 75
abbrev s__law_special : Stmt := top 76
abbrev s__law_market : Stmt := top 77
abbrev s__law_built : Stmt := top 78
abbrev s__law_kind : Stmt := top 79
abbrev s__law_size_wanted : Stmt := top 80
abbrev s__law_run : Stmt := top 81
abbrev s__law_demand : Stmt := top 82
abbrev s__law_parts : Stmt := top 83
abbrev s__law_cover : Stmt := top 84
abbrev s__law_is_stock : Stmt := top 85
abbrev s__law_sets : Stmt := top 86
abbrev s__law_outflow : Stmt := top 87
abbrev s__law_over_edge : Stmt := top 88
abbrev s__law_lack_right : Stmt := top 89
abbrev s__law_refused : Stmt := top 90
abbrev s__law_door_refused : Stmt := top 91
abbrev s__law_doors_right : Stmt := top 92
abbrev s__law_points : Stmt := top 93
abbrev s_law : Stmt := top 94
/-- the keyword-only default x of the def at f, if it is an object -/
def kwA (f : Str × Option Str) (x : Str) (K : PySem.W.Frag) : Addr := match K.lookup (He.fAd K f) with
  | some ⟨_, _, .func fd, _⟩ => (match fd.kwdefaults with
    | .ref D => (match PySem.W.nsIn K D x with
      | some (some (.ref a)) => a
      | _ => 0)
    | _ => 0)
  | _ => 0
def d__wall : He.DefD := ⟨("_wall", none), "_wall", "_wall", defArgs s__wall, defBody s__wall, defScope s__wall, [], []⟩
def d_BadNumber___init__ : He.DefD := ⟨("BadNumber", some "__init__"), "__init__", "BadNumber.__init__", defArgs s_BadNumber___init__, defBody s_BadNumber___init__, defScope s_BadNumber___init__, [], []⟩
def d_BadRun___init__ : He.DefD := ⟨("BadRun", some "__init__"), "__init__", "BadRun.__init__", defArgs s_BadRun___init__, defBody s_BadRun___init__, defScope s_BadRun___init__, [], []⟩
def d_BadSet___init__ : He.DefD := ⟨("BadSet", some "__init__"), "__init__", "BadSet.__init__", defArgs s_BadSet___init__, defBody s_BadSet___init__, defScope s_BadSet___init__, [], []⟩
def d_BadDemand___init__ : He.DefD := ⟨("BadDemand", some "__init__"), "__init__", "BadDemand.__init__", defArgs s_BadDemand___init__, defBody s_BadDemand___init__, defScope s_BadDemand___init__, [], []⟩
def d_NotJoin___init__ : He.DefD := ⟨("NotJoin", some "__init__"), "__init__", "NotJoin.__init__", defArgs s_NotJoin___init__, defBody s_NotJoin___init__, defScope s_NotJoin___init__, [], []⟩
def d_BadPoint___init__ : He.DefD := ⟨("BadPoint", some "__init__"), "__init__", "BadPoint.__init__", defArgs s_BadPoint___init__, defBody s_BadPoint___init__, defScope s_BadPoint___init__, [], []⟩
def d_is_whole : He.DefD := ⟨("is_whole", none), "is_whole", "is_whole", defArgs s_is_whole, defBody s_is_whole, defScope s_is_whole, [], []⟩
def d_is_within : He.DefD := ⟨("is_within", none), "is_within", "is_within", defArgs s_is_within, defBody s_is_within, defScope s_is_within, [], []⟩
def d_is_count : He.DefD := ⟨("is_count", none), "is_count", "is_count", defArgs s_is_count, defBody s_is_count, defScope s_is_count, [], []⟩
def d_is_row : He.DefD := ⟨("is_row", none), "is_row", "is_row", defArgs s_is_row, defBody s_is_row, defScope s_is_row, [], []⟩
def d_is_pair : He.DefD := ⟨("is_pair", none), "is_pair", "is_pair", defArgs s_is_pair, defBody s_is_pair, defScope s_is_pair, [], []⟩
def d_is_run : He.DefD := ⟨("is_run", none), "is_run", "is_run", defArgs s_is_run, defBody s_is_run, defScope s_is_run, [], []⟩
def d_first_wrong : He.DefD := ⟨("first_wrong", none), "first_wrong", "first_wrong", defArgs s_first_wrong, defBody s_first_wrong, defScope s_first_wrong, [], []⟩
def d_set_of : He.DefD := ⟨("set_of", none), "set_of", "set_of", defArgs s_set_of, defBody s_set_of, defScope s_set_of, [], []⟩
def d_both : He.DefD := ⟨("both", none), "both", "both", defArgs s_both, defBody s_both, defScope s_both, [], []⟩
def d_minus : He.DefD := ⟨("minus", none), "minus", "minus", defArgs s_minus, defBody s_minus, defScope s_minus, [], []⟩
def d_Market___init__ : He.DefD := ⟨("Market", some "__init__"), "__init__", "Market.__init__", defArgs s_Market___init__, defBody s_Market___init__, defScope s_Market___init__, [], [("gone", .adr (kwA (("Market", some "__init__")) "gone"))]⟩
def d_Market_many : He.DefD := ⟨("Market", some "many"), "many", "Market.many", defArgs s_Market_many, defBody s_Market_many, defScope s_Market_many, [], []⟩
def d_Market_there : He.DefD := ⟨("Market", some "there"), "there", "Market.there", defArgs s_Market_there, defBody s_Market_there, defScope s_Market_there, [], []⟩
def d_Market_run_of : He.DefD := ⟨("Market", some "run_of"), "run_of", "Market.run_of", defArgs s_Market_run_of, defBody s_Market_run_of, defScope s_Market_run_of, [], []⟩
def d_Market_parts_over : He.DefD := ⟨("Market", some "parts_over"), "parts_over", "Market.parts_over", defArgs s_Market_parts_over, defBody s_Market_parts_over, defScope s_Market_parts_over, [], []⟩
def d_Market___len__ : He.DefD := ⟨("Market", some "__len__"), "__len__", "Market.__len__", defArgs s_Market___len__, defBody s_Market___len__, defScope s_Market___len__, [], []⟩
def d_Market___iter__ : He.DefD := ⟨("Market", some "__iter__"), "__iter__", "Market.__iter__", defArgs s_Market___iter__, defBody s_Market___iter__, defScope s_Market___iter__, [], []⟩
def d_Market___contains__ : He.DefD := ⟨("Market", some "__contains__"), "__contains__", "Market.__contains__", defArgs s_Market___contains__, defBody s_Market___contains__, defScope s_Market___contains__, [], []⟩
def d_Market___eq__ : He.DefD := ⟨("Market", some "__eq__"), "__eq__", "Market.__eq__", defArgs s_Market___eq__, defBody s_Market___eq__, defScope s_Market___eq__, [], []⟩
def d_Join___init__ : He.DefD := ⟨("Join", some "__init__"), "__init__", "Join.__init__", defArgs s_Join___init__, defBody s_Join___init__, defScope s_Join___init__, [], [("gone", .adr (kwA (("Join", some "__init__")) "gone"))]⟩
def d_Join_lose : He.DefD := ⟨("Join", some "lose"), "lose", "Join.lose", defArgs s_Join_lose, defBody s_Join_lose, defScope s_Join_lose, [], []⟩
def d_Join_keep : He.DefD := ⟨("Join", some "keep"), "keep", "Join.keep", defArgs s_Join_keep, defBody s_Join_keep, defScope s_Join_keep, [], []⟩
def d_Join_and_run : He.DefD := ⟨("Join", some "and_run"), "and_run", "Join.and_run", defArgs s_Join_and_run, defBody s_Join_and_run, defScope s_Join_and_run, [], []⟩
def d_Join___sub__ : He.DefD := ⟨("Join", some "__sub__"), "__sub__", "Join.__sub__", defArgs s_Join___sub__, defBody s_Join___sub__, defScope s_Join___sub__, [], []⟩
def d_Join___add__ : He.DefD := ⟨("Join", some "__add__"), "__add__", "Join.__add__", defArgs s_Join___add__, defBody s_Join___add__, defScope s_Join___add__, [], []⟩
def d_Join___or__ : He.DefD := ⟨("Join", some "__or__"), "__or__", "Join.__or__", defArgs s_Join___or__, defBody s_Join___or__, defScope s_Join___or__, [], []⟩
def d_Join___invert__ : He.DefD := ⟨("Join", some "__invert__"), "__invert__", "Join.__invert__", defArgs s_Join___invert__, defBody s_Join___invert__, defScope s_Join___invert__, [], []⟩
def d_Join___mul__ : He.DefD := ⟨("Join", some "__mul__"), "__mul__", "Join.__mul__", defArgs s_Join___mul__, defBody s_Join___mul__, defScope s_Join___mul__, [], []⟩
def d_Lap___init__ : He.DefD := ⟨("Lap", some "__init__"), "__init__", "Lap.__init__", defArgs s_Lap___init__, defBody s_Lap___init__, defScope s_Lap___init__, [], [("gone", .adr (kwA (("Lap", some "__init__")) "gone"))]⟩
def d_Lap_lose : He.DefD := ⟨("Lap", some "lose"), "lose", "Lap.lose", defArgs s_Lap_lose, defBody s_Lap_lose, defScope s_Lap_lose, [], []⟩
def d_Lap_keep : He.DefD := ⟨("Lap", some "keep"), "keep", "Lap.keep", defArgs s_Lap_keep, defBody s_Lap_keep, defScope s_Lap_keep, [], []⟩
def d_Lap_and_run : He.DefD := ⟨("Lap", some "and_run"), "and_run", "Lap.and_run", defArgs s_Lap_and_run, defBody s_Lap_and_run, defScope s_Lap_and_run, [], []⟩
def d_Lap___sub__ : He.DefD := ⟨("Lap", some "__sub__"), "__sub__", "Lap.__sub__", defArgs s_Lap___sub__, defBody s_Lap___sub__, defScope s_Lap___sub__, [], []⟩
def d_Lap___add__ : He.DefD := ⟨("Lap", some "__add__"), "__add__", "Lap.__add__", defArgs s_Lap___add__, defBody s_Lap___add__, defScope s_Lap___add__, [], []⟩
def d_Lap___or__ : He.DefD := ⟨("Lap", some "__or__"), "__or__", "Lap.__or__", defArgs s_Lap___or__, defBody s_Lap___or__, defScope s_Lap___or__, [], []⟩
def d_Lap___invert__ : He.DefD := ⟨("Lap", some "__invert__"), "__invert__", "Lap.__invert__", defArgs s_Lap___invert__, defBody s_Lap___invert__, defScope s_Lap___invert__, [], []⟩
def d_Lap___mul__ : He.DefD := ⟨("Lap", some "__mul__"), "__mul__", "Lap.__mul__", defArgs s_Lap___mul__, defBody s_Lap___mul__, defScope s_Lap___mul__, [], []⟩
def d_checked_runs : He.DefD := ⟨("checked_runs", none), "checked_runs", "checked_runs", defArgs s_checked_runs, defBody s_checked_runs, defScope s_checked_runs, [], []⟩
def d_gone_after : He.DefD := ⟨("gone_after", none), "gone_after", "gone_after", defArgs s_gone_after, defBody s_gone_after, defScope s_gone_after, [], []⟩
def d_end_to_end_shape : He.DefD := ⟨("end_to_end_shape", none), "end_to_end_shape", "end_to_end_shape", defArgs s_end_to_end_shape, defBody s_end_to_end_shape, defScope s_end_to_end_shape, [], []⟩
def d_beside_shape : He.DefD := ⟨("beside_shape", none), "beside_shape", "beside_shape", defArgs s_beside_shape, defBody s_beside_shape, defScope s_beside_shape, [], []⟩
def d_joined_gone : He.DefD := ⟨("joined_gone", none), "joined_gone", "joined_gone", defArgs s_joined_gone, defBody s_joined_gone, defScope s_joined_gone, [], []⟩
def d_turned_runs : He.DefD := ⟨("turned_runs", none), "turned_runs", "turned_runs", defArgs s_turned_runs, defBody s_turned_runs, defScope s_turned_runs, [], []⟩
def d_repeated_parts : He.DefD := ⟨("repeated_parts", none), "repeated_parts", "repeated_parts", defArgs s_repeated_parts, defBody s_repeated_parts, defScope s_repeated_parts, [], []⟩
def d_check_times : He.DefD := ⟨("check_times", none), "check_times", "check_times", defArgs s_check_times, defBody s_check_times, defScope s_check_times, [], []⟩
def d_is_lap : He.DefD := ⟨("is_lap", none), "is_lap", "is_lap", defArgs s_is_lap, defBody s_is_lap, defScope s_is_lap, [], []⟩
def d_check_join : He.DefD := ⟨("check_join", none), "check_join", "check_join", defArgs s_check_join, defBody s_check_join, defScope s_check_join, [], []⟩
def d_demand_of : He.DefD := ⟨("demand_of", none), "demand_of", "demand_of", defArgs s_demand_of, defBody s_demand_of, defScope s_demand_of, [], []⟩
def d_covered : He.DefD := ⟨("covered", none), "covered", "covered", defArgs s_covered, defBody s_covered, defScope s_covered, [], []⟩
def d_fits_place : He.DefD := ⟨("fits_place", none), "fits_place", "fits_place", defArgs s_fits_place, defBody s_fits_place, defScope s_fits_place, [], []⟩
def d_wrong_place : He.DefD := ⟨("wrong_place", none), "wrong_place", "wrong_place", defArgs s_wrong_place, defBody s_wrong_place, defScope s_wrong_place, [], []⟩
def d_is_stock_of : He.DefD := ⟨("is_stock_of", none), "is_stock_of", "is_stock_of", defArgs s_is_stock_of, defBody s_is_stock_of, defScope s_is_stock_of, [], []⟩
def d_is_stock : He.DefD := ⟨("is_stock", none), "is_stock", "is_stock", defArgs s_is_stock, defBody s_is_stock, defScope s_is_stock, [], []⟩
def d_begins_of : He.DefD := ⟨("begins_of", none), "begins_of", "begins_of", defArgs s_begins_of, defBody s_begins_of, defScope s_begins_of, [], []⟩
def d_steps_from : He.DefD := ⟨("steps_from", none), "steps_from", "steps_from", defArgs s_steps_from, defBody s_steps_from, defScope s_steps_from, [], []⟩
def d_move_of : He.DefD := ⟨("move_of", none), "move_of", "move_of", defArgs s_move_of, defBody s_move_of, defScope s_move_of, [], []⟩
def d_behind : He.DefD := ⟨("behind", none), "behind", "behind", defArgs s_behind, defBody s_behind, defScope s_behind, [], []⟩
def d_priced : He.DefD := ⟨("priced", none), "priced", "priced", defArgs s_priced, defBody s_priced, defScope s_priced, [], []⟩
def d_price_of_step : He.DefD := ⟨("price_of_step", none), "price_of_step", "price_of_step", defArgs s_price_of_step, defBody s_price_of_step, defScope s_price_of_step, [], []⟩
def d_spread : He.DefD := ⟨("spread", none), "spread", "spread", defArgs s_spread, defBody s_spread, defScope s_spread, [], []⟩
def d_row_to : He.DefD := ⟨("row_to", none), "row_to", "row_to", defArgs s_row_to, defBody s_row_to, defScope s_row_to, [], []⟩
def d_reached_points : He.DefD := ⟨("reached_points", none), "reached_points", "reached_points", defArgs s_reached_points, defBody s_reached_points, defScope s_reached_points, [], []⟩
def d_carried : He.DefD := ⟨("carried", none), "carried", "carried", defArgs s_carried, defBody s_carried, defScope s_carried, [], []⟩
def d_row_between : He.DefD := ⟨("row_between", none), "row_between", "row_between", defArgs s_row_between, defBody s_row_between, defScope s_row_between, [], []⟩
def d_cheapest_of : He.DefD := ⟨("cheapest_of", none), "cheapest_of", "cheapest_of", defArgs s_cheapest_of, defBody s_cheapest_of, defScope s_cheapest_of, [], []⟩
def d_filled : He.DefD := ⟨("filled", none), "filled", "filled", defArgs s_filled, defBody s_filled, defScope s_filled, [], []⟩
def d_some_stock : He.DefD := ⟨("some_stock", none), "some_stock", "some_stock", defArgs s_some_stock, defBody s_some_stock, defScope s_some_stock, [], []⟩
def d_any_stock : He.DefD := ⟨("any_stock", none), "any_stock", "any_stock", defArgs s_any_stock, defBody s_any_stock, defScope s_any_stock, [], []⟩
def d_has_stock : He.DefD := ⟨("has_stock", none), "has_stock", "has_stock", defArgs s_has_stock, defBody s_has_stock, defScope s_has_stock, [], []⟩
def d_points_up_to : He.DefD := ⟨("points_up_to", none), "points_up_to", "points_up_to", defArgs s_points_up_to, defBody s_points_up_to, defScope s_points_up_to, [], []⟩
def d_point_flags : He.DefD := ⟨("point_flags", none), "point_flags", "point_flags", defArgs s_point_flags, defBody s_point_flags, defScope s_point_flags, [], []⟩
def d_leaving : He.DefD := ⟨("leaving", none), "leaving", "leaving", defArgs s_leaving, defBody s_leaving, defScope s_leaving, [], []⟩
def d_entering : He.DefD := ⟨("entering", none), "entering", "entering", defArgs s_entering, defBody s_entering, defScope s_entering, [], []⟩
def d_outflow : He.DefD := ⟨("outflow", none), "outflow", "outflow", defArgs s_outflow, defBody s_outflow, defScope s_outflow, [], []⟩
def d_lacking : He.DefD := ⟨("lacking", none), "lacking", "lacking", defArgs s_lacking, defBody s_lacking, defScope s_lacking, [], []⟩
def d__law_draws : He.DefD := ⟨("_law_draws", none), "_law_draws", "_law_draws", defArgs s__law_draws, defBody s__law_draws, defScope s__law_draws, [], []⟩
def d__law_take : He.DefD := ⟨("_law_take", none), "_law_take", "_law_take", defArgs s__law_take, defBody s__law_take, defScope s__law_take, [], []⟩
def d__law_int : He.DefD := ⟨("_law_int", none), "_law_int", "_law_int", defArgs s__law_int, defBody s__law_int, defScope s__law_int, [], []⟩
def d__law_set : He.DefD := ⟨("_law_set", none), "_law_set", "_law_set", defArgs s__law_set, defBody s__law_set, defScope s__law_set, [], []⟩
def d__law_chains : He.DefD := ⟨("_law_chains", none), "_law_chains", "_law_chains", defArgs s__law_chains, defBody s__law_chains, defScope s__law_chains, [], []⟩
def d__law_special : He.DefD := ⟨("_law_special", none), "_law_special", "_law_special", defArgs s__law_special, defBody s__law_special, defScope s__law_special, [], []⟩
def d__law_market : He.DefD := ⟨("_law_market", none), "_law_market", "_law_market", defArgs s__law_market, defBody s__law_market, defScope s__law_market, [], []⟩
def d__law_built : He.DefD := ⟨("_law_built", none), "_law_built", "_law_built", defArgs s__law_built, defBody s__law_built, defScope s__law_built, [], []⟩
def d__law_kind : He.DefD := ⟨("_law_kind", none), "_law_kind", "_law_kind", defArgs s__law_kind, defBody s__law_kind, defScope s__law_kind, [], []⟩
def d__law_size_wanted : He.DefD := ⟨("_law_size_wanted", none), "_law_size_wanted", "_law_size_wanted", defArgs s__law_size_wanted, defBody s__law_size_wanted, defScope s__law_size_wanted, [], []⟩
def d__law_run : He.DefD := ⟨("_law_run", none), "_law_run", "_law_run", defArgs s__law_run, defBody s__law_run, defScope s__law_run, [], []⟩
def d__law_demand : He.DefD := ⟨("_law_demand", none), "_law_demand", "_law_demand", defArgs s__law_demand, defBody s__law_demand, defScope s__law_demand, [], []⟩
def d__law_parts : He.DefD := ⟨("_law_parts", none), "_law_parts", "_law_parts", defArgs s__law_parts, defBody s__law_parts, defScope s__law_parts, [], []⟩
def d__law_cover : He.DefD := ⟨("_law_cover", none), "_law_cover", "_law_cover", defArgs s__law_cover, defBody s__law_cover, defScope s__law_cover, [], []⟩
def d__law_is_stock : He.DefD := ⟨("_law_is_stock", none), "_law_is_stock", "_law_is_stock", defArgs s__law_is_stock, defBody s__law_is_stock, defScope s__law_is_stock, [], []⟩
def d__law_sets : He.DefD := ⟨("_law_sets", none), "_law_sets", "_law_sets", defArgs s__law_sets, defBody s__law_sets, defScope s__law_sets, [], []⟩
def d__law_outflow : He.DefD := ⟨("_law_outflow", none), "_law_outflow", "_law_outflow", defArgs s__law_outflow, defBody s__law_outflow, defScope s__law_outflow, [], []⟩
def d__law_over_edge : He.DefD := ⟨("_law_over_edge", none), "_law_over_edge", "_law_over_edge", defArgs s__law_over_edge, defBody s__law_over_edge, defScope s__law_over_edge, [], []⟩
def d__law_lack_right : He.DefD := ⟨("_law_lack_right", none), "_law_lack_right", "_law_lack_right", defArgs s__law_lack_right, defBody s__law_lack_right, defScope s__law_lack_right, [], []⟩
def d__law_refused : He.DefD := ⟨("_law_refused", none), "_law_refused", "_law_refused", defArgs s__law_refused, defBody s__law_refused, defScope s__law_refused, [], []⟩
def d__law_door_refused : He.DefD := ⟨("_law_door_refused", none), "_law_door_refused", "_law_door_refused", defArgs s__law_door_refused, defBody s__law_door_refused, defScope s__law_door_refused, [], []⟩
def d__law_doors_right : He.DefD := ⟨("_law_doors_right", none), "_law_doors_right", "_law_doors_right", defArgs s__law_doors_right, defBody s__law_doors_right, defScope s__law_doors_right, [], []⟩
def d__law_points : He.DefD := ⟨("_law_points", none), "_law_points", "_law_points", defArgs s__law_points, defBody s__law_points, defScope s__law_points, [], []⟩
def d_law : He.DefD := ⟨("law", none), "law", "law", defArgs s_law, defBody s_law, defScope s_law, [], []⟩
end K05


set_option Elab.async false
set_option linter.all false
set_option maxRecDepth 100000
set_option maxHeartbeats 4000000
namespace K05
open PySem PySem.Spec PyProof.Rows L2
abbrev PP : Program := (PySem.Challenge.rw_keptparts_k05_a_stock_or_points).prog
def fn : List He.DefD := [d_is_whole, d_is_within, d_is_count, d_is_row, d_is_pair, d_is_run, d_first_wrong, d_set_of, d_both, d_minus, d_Market___init__, d_Market_there, d_checked_runs, d_is_lap, d_demand_of, d_covered, d_fits_place, d_wrong_place, d_is_stock_of, d_is_stock, d_begins_of, d_steps_from, d_move_of, d_behind, d_priced, d_price_of_step, d_spread, d_row_to, d_reached_points, d_carried, d_row_between, d_cheapest_of, d_some_stock, d_any_stock, d_has_stock, d_points_up_to, d_point_flags, d_leaving, d_entering, d_outflow, d_lacking, d__law_draws, d__law_take, d__law_int, d__law_set, d__law_chains, d__law_special, d__law_market, d__law_built, d__law_kind, d__law_size_wanted, d__law_run, d__law_demand, d__law_parts, d__law_cover, d__law_is_stock, d__law_sets, d__law_outflow, d__law_over_edge, d__law_lack_right, d__law_refused, d__law_door_refused, d__law_doors_right, d__law_points, d_law, d_BadNumber___init__, d_BadRun___init__, d_BadSet___init__, d_BadDemand___init__, d_BadPoint___init__]
def fc : List He.DefD := [d_Join___init__, d_Lap___init__]
def fg : List He.DefD := [d_Market_many]
def fa1 : List He.Fa := [.glo "is_whole", .glo "is_within", .glo "is_count", .glo "is_row", .glo "is_pair", .glo "is_run", .glo "first_wrong", .glo "set_of", .glo "both", .glo "minus", .glo "checked_runs", .glo "is_lap", .glo "demand_of", .glo "covered", .glo "fits_place", .glo "wrong_place", .glo "is_stock_of", .glo "is_stock", .glo "begins_of", .glo "steps_from", .glo "move_of", .glo "behind", .glo "priced", .glo "price_of_step", .glo "spread", .glo "row_to", .glo "reached_points", .glo "carried", .glo "row_between", .glo "cheapest_of"]
def fa2 : List He.Fa := [.glo "some_stock", .glo "any_stock", .glo "has_stock", .glo "points_up_to", .glo "point_flags", .glo "leaving", .glo "entering", .glo "outflow", .glo "lacking", .glo "_law_draws", .glo "_law_take", .glo "_law_int", .glo "_law_set", .glo "_law_chains", .glo "_law_special", .glo "_law_market", .glo "_law_built", .glo "_law_kind", .glo "_law_size_wanted", .glo "_law_run", .glo "_law_demand", .glo "_law_parts", .glo "_law_cover", .glo "_law_is_stock", .glo "_law_sets", .glo "_law_outflow", .glo "_law_over_edge", .glo "_law_lack_right", .glo "_law_refused", .glo "_law_door_refused", .glo "_law_doors_right", .glo "_law_points", .glo "law", .glo "Market", .glo "Join", .glo "Lap", .glo "PartsError", .glo "BadNumber", .glo "BadRun", .glo "BadSet", .glo "BadDemand", .glo "BadPoint", .free "zip", .free "abs", .free "len", .free "isinstance", .free "int", .free "bool", .free "tuple", .free "list", .free "enumerate", .free "range", .free "set", .free "sorted", .free "str", .free "min", .free "super", .free "all", .free "sum", .free "any", .free "max", .int "GREATEST_SIZE" 30, .int "BARE" (-1), .cls "Join", .mkr "Join", .noat "Join" "size", .noat "Join" "runs", .noat "Join" "gone", .cls "Lap", .mkr "Lap", .noat "Lap" "size", .noat "Lap" "runs", .noat "Lap" "gone", .exm "BadNumber" "BadNumber" true, .exm "BadRun" "BadRun" true, .exm "BadSet" "BadSet" true, .exm "BadDemand" "BadDemand" true, .exm "BadPoint" "BadPoint" true, .exm "BadPoint" "BadDemand" false]
def fa : List He.Fa := fa1 ++ fa2
def ex0 (K : PySem.W.Frag) : List Bool := [HkK.supB PP K (He.ga K "Join") (He.ma K (He.ga K "Market") "__init__") ("Join", some "__init__") "Join.__init__", He.conB K "Join" "KIND" (.str "join"), He.eqO (PySem.W.findIn K (.ref (He.ga K "Join")) "__class__") (some (some (.builtin "object.__class__"))), decide (PySem.W.mroIn K (He.ga K "Join") (.type "object") = some true), He.eqO (PySem.W.findIn K (.ref (He.ga K "Join")) "there") (some (some (.ref (He.ma K (He.ga K "Market") "there")))), PySem.W.isFn K (.ref (He.ma K (He.ga K "Market") "there")), PySem.W.keepIn K (.ref (He.ma K (He.ga K "Market") "there")), decide (He.ga K "Join" ≠ He.ga K "Lap"), HkQ.prB K (He.ga K "Join") "many" (He.ma K (He.ga K "Join") "many") (HkQ.gAd K ("Market", some "many")), HkK.supB PP K (He.ga K "Lap") (He.ma K (He.ga K "Market") "__init__") ("Lap", some "__init__") "Lap.__init__", He.conB K "Lap" "KIND" (.str "lap"), He.eqO (PySem.W.findIn K (.ref (He.ga K "Lap")) "__class__") (some (some (.builtin "object.__class__")))]
def ex1 (K : PySem.W.Frag) : List Bool := [decide (PySem.W.mroIn K (He.ga K "Lap") (.type "object") = some true), He.eqO (PySem.W.findIn K (.ref (He.ga K "Lap")) "there") (some (some (.ref (He.ma K (He.ga K "Market") "there")))), HkQ.prB K (He.ga K "Lap") "many" (He.ma K (He.ga K "Lap") "many") (HkQ.gAd K ("Market", some "many")), HkQ.codeG K d_Market_many.at_ d_Market_many.qual, He.eqO (PySem.W.specialIn K (.builtin "object.__class__") "__get__") (some (some (.builtin "getset_descriptor.__get__"))), decide (PySem.W.takesIn K (.builtin "object.__class__") = some true), HkK.excB K (He.ga K "BadNumber"), He.eqO (PySem.W.findIn K (.ref (He.ga K "BadNumber")) "__setattr__") (some (some (.builtin "object.__setattr__"))), He.eqO (PySem.W.findIn K (.ref (He.ga K "BadNumber")) "__getattribute__") (some (some (.builtin "BaseException.__getattribute__"))), He.eqO (PySem.W.findIn K (.ref (He.ga K "BadNumber")) "__getattr__") (some none), He.eqO (PySem.W.findIn K (.ref (He.ga K "BadNumber")) "name") (some none), He.eqO (PySem.W.findIn K (.ref (He.ga K "BadNumber")) "__init__") (some (some (.ref (He.ma K (He.ga K "BadNumber") "__init__"))))]
def ex2 (K : PySem.W.Frag) : List Bool := [He.eqO (PySem.W.findIn K (.ref (He.ga K "BadNumber")) "__class__") (some (some (.builtin "object.__class__"))), decide (PySem.W.typeIn K (.ref (He.ma K (He.ga K "BadNumber") "__init__")) = some (.type "function")), PySem.W.keepIn K (.ref (He.ga K "BadNumber")), decide (PySem.W.subIn K (.ref (He.ga K "BadNumber")) (.type "BaseException") = some true), decide (PySem.W.typeIn K (.ref (He.ga K "BadNumber")) = some (.type "type")), PySem.W.hasDictIn K (He.ga K "BadNumber"), decide (PySem.W.mroIn K (He.ga K "BadNumber") (.type "object") = some true), HkK.excB K (He.ga K "BadRun"), He.eqO (PySem.W.findIn K (.ref (He.ga K "BadRun")) "__setattr__") (some (some (.builtin "object.__setattr__"))), He.eqO (PySem.W.findIn K (.ref (He.ga K "BadRun")) "__getattribute__") (some (some (.builtin "BaseException.__getattribute__"))), He.eqO (PySem.W.findIn K (.ref (He.ga K "BadRun")) "__getattr__") (some none), He.eqO (PySem.W.findIn K (.ref (He.ga K "BadRun")) "place") (some none)]
def ex3 (K : PySem.W.Frag) : List Bool := [He.eqO (PySem.W.findIn K (.ref (He.ga K "BadRun")) "__init__") (some (some (.ref (He.ma K (He.ga K "BadRun") "__init__")))), He.eqO (PySem.W.findIn K (.ref (He.ga K "BadRun")) "__class__") (some (some (.builtin "object.__class__"))), decide (PySem.W.typeIn K (.ref (He.ma K (He.ga K "BadRun") "__init__")) = some (.type "function")), PySem.W.keepIn K (.ref (He.ga K "BadRun")), decide (PySem.W.subIn K (.ref (He.ga K "BadRun")) (.type "BaseException") = some true), decide (PySem.W.typeIn K (.ref (He.ga K "BadRun")) = some (.type "type")), PySem.W.hasDictIn K (He.ga K "BadRun"), decide (PySem.W.mroIn K (He.ga K "BadRun") (.type "object") = some true), HkK.excB K (He.ga K "BadSet"), He.eqO (PySem.W.findIn K (.ref (He.ga K "BadSet")) "__setattr__") (some (some (.builtin "object.__setattr__"))), He.eqO (PySem.W.findIn K (.ref (He.ga K "BadSet")) "__getattribute__") (some (some (.builtin "BaseException.__getattribute__"))), He.eqO (PySem.W.findIn K (.ref (He.ga K "BadSet")) "__getattr__") (some none)]
def ex4 (K : PySem.W.Frag) : List Bool := [He.eqO (PySem.W.findIn K (.ref (He.ga K "BadSet")) "place") (some none), He.eqO (PySem.W.findIn K (.ref (He.ga K "BadSet")) "__init__") (some (some (.ref (He.ma K (He.ga K "BadSet") "__init__")))), He.eqO (PySem.W.findIn K (.ref (He.ga K "BadSet")) "__class__") (some (some (.builtin "object.__class__"))), decide (PySem.W.typeIn K (.ref (He.ma K (He.ga K "BadSet") "__init__")) = some (.type "function")), PySem.W.keepIn K (.ref (He.ga K "BadSet")), decide (PySem.W.subIn K (.ref (He.ga K "BadSet")) (.type "BaseException") = some true), decide (PySem.W.typeIn K (.ref (He.ga K "BadSet")) = some (.type "type")), PySem.W.hasDictIn K (He.ga K "BadSet"), decide (PySem.W.mroIn K (He.ga K "BadSet") (.type "object") = some true), HkK.excB K (He.ga K "BadDemand"), He.eqO (PySem.W.findIn K (.ref (He.ga K "BadDemand")) "__setattr__") (some (some (.builtin "object.__setattr__"))), He.eqO (PySem.W.findIn K (.ref (He.ga K "BadDemand")) "__getattribute__") (some (some (.builtin "BaseException.__getattribute__")))]
def ex5 (K : PySem.W.Frag) : List Bool := [He.eqO (PySem.W.findIn K (.ref (He.ga K "BadDemand")) "__getattr__") (some none), He.eqO (PySem.W.findIn K (.ref (He.ga K "BadDemand")) "place") (some none), He.eqO (PySem.W.findIn K (.ref (He.ga K "BadDemand")) "__init__") (some (some (.ref (He.ma K (He.ga K "BadDemand") "__init__")))), He.eqO (PySem.W.findIn K (.ref (He.ga K "BadDemand")) "__class__") (some (some (.builtin "object.__class__"))), decide (PySem.W.typeIn K (.ref (He.ma K (He.ga K "BadDemand") "__init__")) = some (.type "function")), PySem.W.keepIn K (.ref (He.ga K "BadDemand")), decide (PySem.W.subIn K (.ref (He.ga K "BadDemand")) (.type "BaseException") = some true), decide (PySem.W.typeIn K (.ref (He.ga K "BadDemand")) = some (.type "type")), PySem.W.hasDictIn K (He.ga K "BadDemand"), decide (PySem.W.mroIn K (He.ga K "BadDemand") (.type "object") = some true), HkK.excB K (He.ga K "BadPoint"), He.eqO (PySem.W.findIn K (.ref (He.ga K "BadPoint")) "__setattr__") (some (some (.builtin "object.__setattr__")))]
def ex6 (K : PySem.W.Frag) : List Bool := [He.eqO (PySem.W.findIn K (.ref (He.ga K "BadPoint")) "__getattribute__") (some (some (.builtin "BaseException.__getattribute__"))), He.eqO (PySem.W.findIn K (.ref (He.ga K "BadPoint")) "__getattr__") (some none), He.eqO (PySem.W.findIn K (.ref (He.ga K "BadPoint")) "point") (some none), He.eqO (PySem.W.findIn K (.ref (He.ga K "BadPoint")) "__init__") (some (some (.ref (He.ma K (He.ga K "BadPoint") "__init__")))), He.eqO (PySem.W.findIn K (.ref (He.ga K "BadPoint")) "__class__") (some (some (.builtin "object.__class__"))), decide (PySem.W.typeIn K (.ref (He.ma K (He.ga K "BadPoint") "__init__")) = some (.type "function")), PySem.W.keepIn K (.ref (He.ga K "BadPoint")), decide (PySem.W.subIn K (.ref (He.ga K "BadPoint")) (.type "BaseException") = some true), decide (PySem.W.typeIn K (.ref (He.ga K "BadPoint")) = some (.type "type")), PySem.W.hasDictIn K (He.ga K "BadPoint"), decide (PySem.W.mroIn K (He.ga K "BadPoint") (.type "object") = some true), decide (PySem.W.kitOne K (.ref (He.ga K "BadPoint")) (.ref (He.ga K "PartsError")) = some true)]
def ex7 (K : PySem.W.Frag) : List Bool := [decide (PySem.W.kitOne K (.ref (He.ga K "BadPoint")) (.ref (He.ga K "BadDemand")) = some false)]
def ex (K : PySem.W.Frag) : List Bool := ex0 K ++ ex1 K ++ ex2 K ++ ex3 K ++ ex4 K ++ ex5 K ++ ex6 K ++ ex7 K
structure Ctx (K : PySem.W.Frag) (mg : Str → Option Value) : Prop where
  g_is_whole : mg "is_whole" = some (.ref (He.ga K "is_whole"))
  g_is_within : mg "is_within" = some (.ref (He.ga K "is_within"))
  g_is_count : mg "is_count" = some (.ref (He.ga K "is_count"))
  g_is_row : mg "is_row" = some (.ref (He.ga K "is_row"))
  g_is_pair : mg "is_pair" = some (.ref (He.ga K "is_pair"))
  g_is_run : mg "is_run" = some (.ref (He.ga K "is_run"))
  g_first_wrong : mg "first_wrong" = some (.ref (He.ga K "first_wrong"))
  g_set_of : mg "set_of" = some (.ref (He.ga K "set_of"))
  g_both : mg "both" = some (.ref (He.ga K "both"))
  g_minus : mg "minus" = some (.ref (He.ga K "minus"))
  g_checked_runs : mg "checked_runs" = some (.ref (He.ga K "checked_runs"))
  g_is_lap : mg "is_lap" = some (.ref (He.ga K "is_lap"))
  g_demand_of : mg "demand_of" = some (.ref (He.ga K "demand_of"))
  g_covered : mg "covered" = some (.ref (He.ga K "covered"))
  g_fits_place : mg "fits_place" = some (.ref (He.ga K "fits_place"))
  g_wrong_place : mg "wrong_place" = some (.ref (He.ga K "wrong_place"))
  g_is_stock_of : mg "is_stock_of" = some (.ref (He.ga K "is_stock_of"))
  g_is_stock : mg "is_stock" = some (.ref (He.ga K "is_stock"))
  g_begins_of : mg "begins_of" = some (.ref (He.ga K "begins_of"))
  g_steps_from : mg "steps_from" = some (.ref (He.ga K "steps_from"))
  g_move_of : mg "move_of" = some (.ref (He.ga K "move_of"))
  g_behind : mg "behind" = some (.ref (He.ga K "behind"))
  g_priced : mg "priced" = some (.ref (He.ga K "priced"))
  g_price_of_step : mg "price_of_step" = some (.ref (He.ga K "price_of_step"))
  g_spread : mg "spread" = some (.ref (He.ga K "spread"))
  g_row_to : mg "row_to" = some (.ref (He.ga K "row_to"))
  g_reached_points : mg "reached_points" = some (.ref (He.ga K "reached_points"))
  g_carried : mg "carried" = some (.ref (He.ga K "carried"))
  g_row_between : mg "row_between" = some (.ref (He.ga K "row_between"))
  g_cheapest_of : mg "cheapest_of" = some (.ref (He.ga K "cheapest_of"))
  g_some_stock : mg "some_stock" = some (.ref (He.ga K "some_stock"))
  g_any_stock : mg "any_stock" = some (.ref (He.ga K "any_stock"))
  g_has_stock : mg "has_stock" = some (.ref (He.ga K "has_stock"))
  g_points_up_to : mg "points_up_to" = some (.ref (He.ga K "points_up_to"))
  g_point_flags : mg "point_flags" = some (.ref (He.ga K "point_flags"))
  g_leaving : mg "leaving" = some (.ref (He.ga K "leaving"))
  g_entering : mg "entering" = some (.ref (He.ga K "entering"))
  g_outflow : mg "outflow" = some (.ref (He.ga K "outflow"))
  g_lacking : mg "lacking" = some (.ref (He.ga K "lacking"))
  g__law_draws : mg "_law_draws" = some (.ref (He.ga K "_law_draws"))
  g__law_take : mg "_law_take" = some (.ref (He.ga K "_law_take"))
  g__law_int : mg "_law_int" = some (.ref (He.ga K "_law_int"))
  g__law_set : mg "_law_set" = some (.ref (He.ga K "_law_set"))
  g__law_chains : mg "_law_chains" = some (.ref (He.ga K "_law_chains"))
  g__law_special : mg "_law_special" = some (.ref (He.ga K "_law_special"))
  g__law_market : mg "_law_market" = some (.ref (He.ga K "_law_market"))
  g__law_built : mg "_law_built" = some (.ref (He.ga K "_law_built"))
  g__law_kind : mg "_law_kind" = some (.ref (He.ga K "_law_kind"))
  g__law_size_wanted : mg "_law_size_wanted" = some (.ref (He.ga K "_law_size_wanted"))
  g__law_run : mg "_law_run" = some (.ref (He.ga K "_law_run"))
  g__law_demand : mg "_law_demand" = some (.ref (He.ga K "_law_demand"))
  g__law_parts : mg "_law_parts" = some (.ref (He.ga K "_law_parts"))
  g__law_cover : mg "_law_cover" = some (.ref (He.ga K "_law_cover"))
  g__law_is_stock : mg "_law_is_stock" = some (.ref (He.ga K "_law_is_stock"))
  g__law_sets : mg "_law_sets" = some (.ref (He.ga K "_law_sets"))
  g__law_outflow : mg "_law_outflow" = some (.ref (He.ga K "_law_outflow"))
  g__law_over_edge : mg "_law_over_edge" = some (.ref (He.ga K "_law_over_edge"))
  g__law_lack_right : mg "_law_lack_right" = some (.ref (He.ga K "_law_lack_right"))
  g__law_refused : mg "_law_refused" = some (.ref (He.ga K "_law_refused"))
  g__law_door_refused : mg "_law_door_refused" = some (.ref (He.ga K "_law_door_refused"))
  g__law_doors_right : mg "_law_doors_right" = some (.ref (He.ga K "_law_doors_right"))
  g__law_points : mg "_law_points" = some (.ref (He.ga K "_law_points"))
  g_law : mg "law" = some (.ref (He.ga K "law"))
  g_Market : mg "Market" = some (.ref (He.ga K "Market"))
  g_Join : mg "Join" = some (.ref (He.ga K "Join"))
  g_Lap : mg "Lap" = some (.ref (He.ga K "Lap"))
  g_PartsError : mg "PartsError" = some (.ref (He.ga K "PartsError"))
  g_BadNumber : mg "BadNumber" = some (.ref (He.ga K "BadNumber"))
  g_BadRun : mg "BadRun" = some (.ref (He.ga K "BadRun"))
  g_BadSet : mg "BadSet" = some (.ref (He.ga K "BadSet"))
  g_BadDemand : mg "BadDemand" = some (.ref (He.ga K "BadDemand"))
  g_BadPoint : mg "BadPoint" = some (.ref (He.ga K "BadPoint"))
  b_zip : mg "zip" = none
  b_abs : mg "abs" = none
  b_len : mg "len" = none
  b_isinstance : mg "isinstance" = none
  b_int : mg "int" = none
  b_bool : mg "bool" = none
  b_tuple : mg "tuple" = none
  b_list : mg "list" = none
  b_enumerate : mg "enumerate" = none
  b_range : mg "range" = none
  b_set : mg "set" = none
  b_sorted : mg "sorted" = none
  b_str : mg "str" = none
  b_min : mg "min" = none
  b_super : mg "super" = none
  b_all : mg "all" = none
  b_sum : mg "sum" = none
  b_any : mg "any" = none
  b_max : mg "max" = none
  c_GREATEST_SIZE : ∃ t, mg "GREATEST_SIZE" = some (.int 30 t)
  c_BARE : ∃ t, mg "BARE" = some (.int (-1) t)
  cl_Join : Cls K (He.ga K "Join")
  mk_Join : Mk K (He.ga K "Join") (He.ma K (He.ga K "Join") "__init__")
  no_Join_size : NoAttr K (He.ga K "Join") "size"
  no_Join_runs : NoAttr K (He.ga K "Join") "runs"
  no_Join_gone : NoAttr K (He.ga K "Join") "gone"
  cl_Lap : Cls K (He.ga K "Lap")
  mk_Lap : Mk K (He.ga K "Lap") (He.ma K (He.ga K "Lap") "__init__")
  no_Lap_size : NoAttr K (He.ga K "Lap") "size"
  no_Lap_runs : NoAttr K (He.ga K "Lap") "runs"
  no_Lap_gone : NoAttr K (He.ga K "Lap") "gone"
  te_BadNumber : PySem.W.exmOne K (.ref (He.ga K "BadNumber")) (.ref (He.ga K "BadNumber")) = some true
  te_BadRun : PySem.W.exmOne K (.ref (He.ga K "BadRun")) (.ref (He.ga K "BadRun")) = some true
  te_BadSet : PySem.W.exmOne K (.ref (He.ga K "BadSet")) (.ref (He.ga K "BadSet")) = some true
  te_BadDemand : PySem.W.exmOne K (.ref (He.ga K "BadDemand")) (.ref (He.ga K "BadDemand")) = some true
  te_BadPoint : PySem.W.exmOne K (.ref (He.ga K "BadPoint")) (.ref (He.ga K "BadPoint")) = some true
  tf_BadPoint_BadDemand : PySem.W.exmOne K (.ref (He.ga K "BadPoint")) (.ref (He.ga K "BadDemand")) = some false
  d_is_whole : ∃ fd, FunD K d_is_whole.name d_is_whole.qual d_is_whole.params d_is_whole.body d_is_whole.scope (d_is_whole.dvs K) (d_is_whole.kws K) (He.fAd K d_is_whole.at_) fd
  d_is_within : ∃ fd, FunD K d_is_within.name d_is_within.qual d_is_within.params d_is_within.body d_is_within.scope (d_is_within.dvs K) (d_is_within.kws K) (He.fAd K d_is_within.at_) fd
  d_is_count : ∃ fd, FunD K d_is_count.name d_is_count.qual d_is_count.params d_is_count.body d_is_count.scope (d_is_count.dvs K) (d_is_count.kws K) (He.fAd K d_is_count.at_) fd
  d_is_row : ∃ fd, FunD K d_is_row.name d_is_row.qual d_is_row.params d_is_row.body d_is_row.scope (d_is_row.dvs K) (d_is_row.kws K) (He.fAd K d_is_row.at_) fd
  d_is_pair : ∃ fd, FunD K d_is_pair.name d_is_pair.qual d_is_pair.params d_is_pair.body d_is_pair.scope (d_is_pair.dvs K) (d_is_pair.kws K) (He.fAd K d_is_pair.at_) fd
  d_is_run : ∃ fd, FunD K d_is_run.name d_is_run.qual d_is_run.params d_is_run.body d_is_run.scope (d_is_run.dvs K) (d_is_run.kws K) (He.fAd K d_is_run.at_) fd
  d_first_wrong : ∃ fd, FunD K d_first_wrong.name d_first_wrong.qual d_first_wrong.params d_first_wrong.body d_first_wrong.scope (d_first_wrong.dvs K) (d_first_wrong.kws K) (He.fAd K d_first_wrong.at_) fd
  d_set_of : ∃ fd, FunD K d_set_of.name d_set_of.qual d_set_of.params d_set_of.body d_set_of.scope (d_set_of.dvs K) (d_set_of.kws K) (He.fAd K d_set_of.at_) fd
  d_both : ∃ fd, FunD K d_both.name d_both.qual d_both.params d_both.body d_both.scope (d_both.dvs K) (d_both.kws K) (He.fAd K d_both.at_) fd
  d_minus : ∃ fd, FunD K d_minus.name d_minus.qual d_minus.params d_minus.body d_minus.scope (d_minus.dvs K) (d_minus.kws K) (He.fAd K d_minus.at_) fd
  d_Market___init__ : ∃ fd, FunD K d_Market___init__.name d_Market___init__.qual d_Market___init__.params d_Market___init__.body d_Market___init__.scope (d_Market___init__.dvs K) (d_Market___init__.kws K) (He.fAd K d_Market___init__.at_) fd
  d_Market_there : ∃ fd, FunD K d_Market_there.name d_Market_there.qual d_Market_there.params d_Market_there.body d_Market_there.scope (d_Market_there.dvs K) (d_Market_there.kws K) (He.fAd K d_Market_there.at_) fd
  d_checked_runs : ∃ fd, FunD K d_checked_runs.name d_checked_runs.qual d_checked_runs.params d_checked_runs.body d_checked_runs.scope (d_checked_runs.dvs K) (d_checked_runs.kws K) (He.fAd K d_checked_runs.at_) fd
  d_is_lap : ∃ fd, FunD K d_is_lap.name d_is_lap.qual d_is_lap.params d_is_lap.body d_is_lap.scope (d_is_lap.dvs K) (d_is_lap.kws K) (He.fAd K d_is_lap.at_) fd
  d_demand_of : ∃ fd, FunD K d_demand_of.name d_demand_of.qual d_demand_of.params d_demand_of.body d_demand_of.scope (d_demand_of.dvs K) (d_demand_of.kws K) (He.fAd K d_demand_of.at_) fd
  d_covered : ∃ fd, FunD K d_covered.name d_covered.qual d_covered.params d_covered.body d_covered.scope (d_covered.dvs K) (d_covered.kws K) (He.fAd K d_covered.at_) fd
  d_fits_place : ∃ fd, FunD K d_fits_place.name d_fits_place.qual d_fits_place.params d_fits_place.body d_fits_place.scope (d_fits_place.dvs K) (d_fits_place.kws K) (He.fAd K d_fits_place.at_) fd
  d_wrong_place : ∃ fd, FunD K d_wrong_place.name d_wrong_place.qual d_wrong_place.params d_wrong_place.body d_wrong_place.scope (d_wrong_place.dvs K) (d_wrong_place.kws K) (He.fAd K d_wrong_place.at_) fd
  d_is_stock_of : ∃ fd, FunD K d_is_stock_of.name d_is_stock_of.qual d_is_stock_of.params d_is_stock_of.body d_is_stock_of.scope (d_is_stock_of.dvs K) (d_is_stock_of.kws K) (He.fAd K d_is_stock_of.at_) fd
  d_is_stock : ∃ fd, FunD K d_is_stock.name d_is_stock.qual d_is_stock.params d_is_stock.body d_is_stock.scope (d_is_stock.dvs K) (d_is_stock.kws K) (He.fAd K d_is_stock.at_) fd
  d_begins_of : ∃ fd, FunD K d_begins_of.name d_begins_of.qual d_begins_of.params d_begins_of.body d_begins_of.scope (d_begins_of.dvs K) (d_begins_of.kws K) (He.fAd K d_begins_of.at_) fd
  d_steps_from : ∃ fd, FunD K d_steps_from.name d_steps_from.qual d_steps_from.params d_steps_from.body d_steps_from.scope (d_steps_from.dvs K) (d_steps_from.kws K) (He.fAd K d_steps_from.at_) fd
  d_move_of : ∃ fd, FunD K d_move_of.name d_move_of.qual d_move_of.params d_move_of.body d_move_of.scope (d_move_of.dvs K) (d_move_of.kws K) (He.fAd K d_move_of.at_) fd
  d_behind : ∃ fd, FunD K d_behind.name d_behind.qual d_behind.params d_behind.body d_behind.scope (d_behind.dvs K) (d_behind.kws K) (He.fAd K d_behind.at_) fd
  d_priced : ∃ fd, FunD K d_priced.name d_priced.qual d_priced.params d_priced.body d_priced.scope (d_priced.dvs K) (d_priced.kws K) (He.fAd K d_priced.at_) fd
  d_price_of_step : ∃ fd, FunD K d_price_of_step.name d_price_of_step.qual d_price_of_step.params d_price_of_step.body d_price_of_step.scope (d_price_of_step.dvs K) (d_price_of_step.kws K) (He.fAd K d_price_of_step.at_) fd
  d_spread : ∃ fd, FunD K d_spread.name d_spread.qual d_spread.params d_spread.body d_spread.scope (d_spread.dvs K) (d_spread.kws K) (He.fAd K d_spread.at_) fd
  d_row_to : ∃ fd, FunD K d_row_to.name d_row_to.qual d_row_to.params d_row_to.body d_row_to.scope (d_row_to.dvs K) (d_row_to.kws K) (He.fAd K d_row_to.at_) fd
  d_reached_points : ∃ fd, FunD K d_reached_points.name d_reached_points.qual d_reached_points.params d_reached_points.body d_reached_points.scope (d_reached_points.dvs K) (d_reached_points.kws K) (He.fAd K d_reached_points.at_) fd
  d_carried : ∃ fd, FunD K d_carried.name d_carried.qual d_carried.params d_carried.body d_carried.scope (d_carried.dvs K) (d_carried.kws K) (He.fAd K d_carried.at_) fd
  d_row_between : ∃ fd, FunD K d_row_between.name d_row_between.qual d_row_between.params d_row_between.body d_row_between.scope (d_row_between.dvs K) (d_row_between.kws K) (He.fAd K d_row_between.at_) fd
  d_cheapest_of : ∃ fd, FunD K d_cheapest_of.name d_cheapest_of.qual d_cheapest_of.params d_cheapest_of.body d_cheapest_of.scope (d_cheapest_of.dvs K) (d_cheapest_of.kws K) (He.fAd K d_cheapest_of.at_) fd
  d_some_stock : ∃ fd, FunD K d_some_stock.name d_some_stock.qual d_some_stock.params d_some_stock.body d_some_stock.scope (d_some_stock.dvs K) (d_some_stock.kws K) (He.fAd K d_some_stock.at_) fd
  d_any_stock : ∃ fd, FunD K d_any_stock.name d_any_stock.qual d_any_stock.params d_any_stock.body d_any_stock.scope (d_any_stock.dvs K) (d_any_stock.kws K) (He.fAd K d_any_stock.at_) fd
  d_has_stock : ∃ fd, FunD K d_has_stock.name d_has_stock.qual d_has_stock.params d_has_stock.body d_has_stock.scope (d_has_stock.dvs K) (d_has_stock.kws K) (He.fAd K d_has_stock.at_) fd
  d_points_up_to : ∃ fd, FunD K d_points_up_to.name d_points_up_to.qual d_points_up_to.params d_points_up_to.body d_points_up_to.scope (d_points_up_to.dvs K) (d_points_up_to.kws K) (He.fAd K d_points_up_to.at_) fd
  d_point_flags : ∃ fd, FunD K d_point_flags.name d_point_flags.qual d_point_flags.params d_point_flags.body d_point_flags.scope (d_point_flags.dvs K) (d_point_flags.kws K) (He.fAd K d_point_flags.at_) fd
  d_leaving : ∃ fd, FunD K d_leaving.name d_leaving.qual d_leaving.params d_leaving.body d_leaving.scope (d_leaving.dvs K) (d_leaving.kws K) (He.fAd K d_leaving.at_) fd
  d_entering : ∃ fd, FunD K d_entering.name d_entering.qual d_entering.params d_entering.body d_entering.scope (d_entering.dvs K) (d_entering.kws K) (He.fAd K d_entering.at_) fd
  d_outflow : ∃ fd, FunD K d_outflow.name d_outflow.qual d_outflow.params d_outflow.body d_outflow.scope (d_outflow.dvs K) (d_outflow.kws K) (He.fAd K d_outflow.at_) fd
  d_lacking : ∃ fd, FunD K d_lacking.name d_lacking.qual d_lacking.params d_lacking.body d_lacking.scope (d_lacking.dvs K) (d_lacking.kws K) (He.fAd K d_lacking.at_) fd
  d__law_draws : ∃ fd, FunD K d__law_draws.name d__law_draws.qual d__law_draws.params d__law_draws.body d__law_draws.scope (d__law_draws.dvs K) (d__law_draws.kws K) (He.fAd K d__law_draws.at_) fd
  d__law_take : ∃ fd, FunD K d__law_take.name d__law_take.qual d__law_take.params d__law_take.body d__law_take.scope (d__law_take.dvs K) (d__law_take.kws K) (He.fAd K d__law_take.at_) fd
  d__law_int : ∃ fd, FunD K d__law_int.name d__law_int.qual d__law_int.params d__law_int.body d__law_int.scope (d__law_int.dvs K) (d__law_int.kws K) (He.fAd K d__law_int.at_) fd
  d__law_set : ∃ fd, FunD K d__law_set.name d__law_set.qual d__law_set.params d__law_set.body d__law_set.scope (d__law_set.dvs K) (d__law_set.kws K) (He.fAd K d__law_set.at_) fd
  d__law_chains : ∃ fd, FunD K d__law_chains.name d__law_chains.qual d__law_chains.params d__law_chains.body d__law_chains.scope (d__law_chains.dvs K) (d__law_chains.kws K) (He.fAd K d__law_chains.at_) fd
  d__law_special : ∃ fd, FunD K d__law_special.name d__law_special.qual d__law_special.params d__law_special.body d__law_special.scope (d__law_special.dvs K) (d__law_special.kws K) (He.fAd K d__law_special.at_) fd
  d__law_market : ∃ fd, FunD K d__law_market.name d__law_market.qual d__law_market.params d__law_market.body d__law_market.scope (d__law_market.dvs K) (d__law_market.kws K) (He.fAd K d__law_market.at_) fd
  d__law_built : ∃ fd, FunD K d__law_built.name d__law_built.qual d__law_built.params d__law_built.body d__law_built.scope (d__law_built.dvs K) (d__law_built.kws K) (He.fAd K d__law_built.at_) fd
  d__law_kind : ∃ fd, FunD K d__law_kind.name d__law_kind.qual d__law_kind.params d__law_kind.body d__law_kind.scope (d__law_kind.dvs K) (d__law_kind.kws K) (He.fAd K d__law_kind.at_) fd
  d__law_size_wanted : ∃ fd, FunD K d__law_size_wanted.name d__law_size_wanted.qual d__law_size_wanted.params d__law_size_wanted.body d__law_size_wanted.scope (d__law_size_wanted.dvs K) (d__law_size_wanted.kws K) (He.fAd K d__law_size_wanted.at_) fd
  d__law_run : ∃ fd, FunD K d__law_run.name d__law_run.qual d__law_run.params d__law_run.body d__law_run.scope (d__law_run.dvs K) (d__law_run.kws K) (He.fAd K d__law_run.at_) fd
  d__law_demand : ∃ fd, FunD K d__law_demand.name d__law_demand.qual d__law_demand.params d__law_demand.body d__law_demand.scope (d__law_demand.dvs K) (d__law_demand.kws K) (He.fAd K d__law_demand.at_) fd
  d__law_parts : ∃ fd, FunD K d__law_parts.name d__law_parts.qual d__law_parts.params d__law_parts.body d__law_parts.scope (d__law_parts.dvs K) (d__law_parts.kws K) (He.fAd K d__law_parts.at_) fd
  d__law_cover : ∃ fd, FunD K d__law_cover.name d__law_cover.qual d__law_cover.params d__law_cover.body d__law_cover.scope (d__law_cover.dvs K) (d__law_cover.kws K) (He.fAd K d__law_cover.at_) fd
  d__law_is_stock : ∃ fd, FunD K d__law_is_stock.name d__law_is_stock.qual d__law_is_stock.params d__law_is_stock.body d__law_is_stock.scope (d__law_is_stock.dvs K) (d__law_is_stock.kws K) (He.fAd K d__law_is_stock.at_) fd
  d__law_sets : ∃ fd, FunD K d__law_sets.name d__law_sets.qual d__law_sets.params d__law_sets.body d__law_sets.scope (d__law_sets.dvs K) (d__law_sets.kws K) (He.fAd K d__law_sets.at_) fd
  d__law_outflow : ∃ fd, FunD K d__law_outflow.name d__law_outflow.qual d__law_outflow.params d__law_outflow.body d__law_outflow.scope (d__law_outflow.dvs K) (d__law_outflow.kws K) (He.fAd K d__law_outflow.at_) fd
  d__law_over_edge : ∃ fd, FunD K d__law_over_edge.name d__law_over_edge.qual d__law_over_edge.params d__law_over_edge.body d__law_over_edge.scope (d__law_over_edge.dvs K) (d__law_over_edge.kws K) (He.fAd K d__law_over_edge.at_) fd
  d__law_lack_right : ∃ fd, FunD K d__law_lack_right.name d__law_lack_right.qual d__law_lack_right.params d__law_lack_right.body d__law_lack_right.scope (d__law_lack_right.dvs K) (d__law_lack_right.kws K) (He.fAd K d__law_lack_right.at_) fd
  d__law_refused : ∃ fd, FunD K d__law_refused.name d__law_refused.qual d__law_refused.params d__law_refused.body d__law_refused.scope (d__law_refused.dvs K) (d__law_refused.kws K) (He.fAd K d__law_refused.at_) fd
  d__law_door_refused : ∃ fd, FunD K d__law_door_refused.name d__law_door_refused.qual d__law_door_refused.params d__law_door_refused.body d__law_door_refused.scope (d__law_door_refused.dvs K) (d__law_door_refused.kws K) (He.fAd K d__law_door_refused.at_) fd
  d__law_doors_right : ∃ fd, FunD K d__law_doors_right.name d__law_doors_right.qual d__law_doors_right.params d__law_doors_right.body d__law_doors_right.scope (d__law_doors_right.dvs K) (d__law_doors_right.kws K) (He.fAd K d__law_doors_right.at_) fd
  d__law_points : ∃ fd, FunD K d__law_points.name d__law_points.qual d__law_points.params d__law_points.body d__law_points.scope (d__law_points.dvs K) (d__law_points.kws K) (He.fAd K d__law_points.at_) fd
  d_law : ∃ fd, FunD K d_law.name d_law.qual d_law.params d_law.body d_law.scope (d_law.dvs K) (d_law.kws K) (He.fAd K d_law.at_) fd
  d_BadNumber___init__ : ∃ fd, FunD K d_BadNumber___init__.name d_BadNumber___init__.qual d_BadNumber___init__.params d_BadNumber___init__.body d_BadNumber___init__.scope (d_BadNumber___init__.dvs K) (d_BadNumber___init__.kws K) (He.fAd K d_BadNumber___init__.at_) fd
  d_BadRun___init__ : ∃ fd, FunD K d_BadRun___init__.name d_BadRun___init__.qual d_BadRun___init__.params d_BadRun___init__.body d_BadRun___init__.scope (d_BadRun___init__.dvs K) (d_BadRun___init__.kws K) (He.fAd K d_BadRun___init__.at_) fd
  d_BadSet___init__ : ∃ fd, FunD K d_BadSet___init__.name d_BadSet___init__.qual d_BadSet___init__.params d_BadSet___init__.body d_BadSet___init__.scope (d_BadSet___init__.dvs K) (d_BadSet___init__.kws K) (He.fAd K d_BadSet___init__.at_) fd
  d_BadDemand___init__ : ∃ fd, FunD K d_BadDemand___init__.name d_BadDemand___init__.qual d_BadDemand___init__.params d_BadDemand___init__.body d_BadDemand___init__.scope (d_BadDemand___init__.dvs K) (d_BadDemand___init__.kws K) (He.fAd K d_BadDemand___init__.at_) fd
  d_BadPoint___init__ : ∃ fd, FunD K d_BadPoint___init__.name d_BadPoint___init__.qual d_BadPoint___init__.params d_BadPoint___init__.body d_BadPoint___init__.scope (d_BadPoint___init__.dvs K) (d_BadPoint___init__.kws K) (He.fAd K d_BadPoint___init__.at_) fd
  sup_Join : ∃ fd, SupI.SupTxt PP K mg (He.ga K "Join") (He.fAd K d_Join___init__.at_) (He.ma K (He.ga K "Market") "__init__") (HkK.cellAd K d_Join___init__.at_) (HkK.codeAd K d_Join___init__.at_) fd d_Join___init__.qual d_Join___init__.params d_Join___init__.body d_Join___init__.scope ∧ ∃ cd, PySem.W.clsIn K (He.ga K "Join") = some cd
  kind_Join : ∃ u, Con K (He.ga K "Join") "KIND" (.str "join") u
  cc_Join : PySem.W.findIn K (.ref (He.ga K "Join")) "__class__" = some (some (.builtin "object.__class__"))
  mo_Join : PySem.W.mroIn K (He.ga K "Join") (.type "object") = some true
  fthere_Join : PySem.W.findIn K (.ref (He.ga K "Join")) "there" = some (some (.ref (He.ma K (He.ga K "Market") "there")))
  fn_there : PySem.W.isFn K (.ref (He.ma K (He.ga K "Market") "there")) = true
  kp_there : PySem.W.keepIn K (.ref (He.ma K (He.ga K "Market") "there")) = true
  jl_ne : He.ga K "Join" ≠ He.ga K "Lap"
  pr_many_Join : PropOf K (He.ga K "Join") "many" (He.ma K (He.ga K "Join") "many") (HkQ.gAd K ("Market", some "many"))
  sup_Lap : ∃ fd, SupI.SupTxt PP K mg (He.ga K "Lap") (He.fAd K d_Lap___init__.at_) (He.ma K (He.ga K "Market") "__init__") (HkK.cellAd K d_Lap___init__.at_) (HkK.codeAd K d_Lap___init__.at_) fd d_Lap___init__.qual d_Lap___init__.params d_Lap___init__.body d_Lap___init__.scope ∧ ∃ cd, PySem.W.clsIn K (He.ga K "Lap") = some cd
  kind_Lap : ∃ u, Con K (He.ga K "Lap") "KIND" (.str "lap") u
  cc_Lap : PySem.W.findIn K (.ref (He.ga K "Lap")) "__class__" = some (some (.builtin "object.__class__"))
  mo_Lap : PySem.W.mroIn K (He.ga K "Lap") (.type "object") = some true
  fthere_Lap : PySem.W.findIn K (.ref (He.ga K "Lap")) "there" = some (some (.ref (He.ma K (He.ga K "Market") "there")))
  pr_many_Lap : PropOf K (He.ga K "Lap") "many" (He.ma K (He.ga K "Lap") "many") (HkQ.gAd K ("Market", some "many"))
  d_Market_many : ∃ fd, FunD K d_Market_many.name d_Market_many.qual d_Market_many.params d_Market_many.body d_Market_many.scope [] [] (HkQ.gAd K d_Market_many.at_) fd
  gs : PySem.W.specialIn K (.builtin "object.__class__") "__get__" = some (some (.builtin "getset_descriptor.__get__"))
  tk : PySem.W.takesIn K (.builtin "object.__class__") = some true
  xc_BadNumber : ∃ nm q N bs bm sn sub ab col dd k0 k1 k2 k3 k5, K.lookup (He.ga K "BadNumber") = some (excClassObj nm q (He.ga K "BadNumber") N bs bm true sn sub ab col dd k0 k1 k2 k3 k5 "ValueError.__new__") ∧ PySem.HandSPX.refsVE bm = true
  xsa_BadNumber : PySem.W.findIn K (.ref (He.ga K "BadNumber")) "__setattr__" = some (some (.builtin "object.__setattr__"))
  xga_BadNumber : PySem.W.findIn K (.ref (He.ga K "BadNumber")) "__getattribute__" = some (some (.builtin "BaseException.__getattribute__"))
  xgg_BadNumber : PySem.W.findIn K (.ref (He.ga K "BadNumber")) "__getattr__" = some none
  xnn_BadNumber : PySem.W.findIn K (.ref (He.ga K "BadNumber")) "name" = some none
  xii_BadNumber : PySem.W.findIn K (.ref (He.ga K "BadNumber")) "__init__" = some (some (.ref (He.ma K (He.ga K "BadNumber") "__init__")))
  xcc_BadNumber : PySem.W.findIn K (.ref (He.ga K "BadNumber")) "__class__" = some (some (.builtin "object.__class__"))
  xt_BadNumber : PySem.W.typeIn K (.ref (He.ma K (He.ga K "BadNumber") "__init__")) = some (.type "function")
  xk_BadNumber : PySem.W.keepIn K (.ref (He.ga K "BadNumber")) = true
  xs_BadNumber : PySem.W.subIn K (.ref (He.ga K "BadNumber")) (.type "BaseException") = some true
  xy_BadNumber : PySem.W.typeIn K (.ref (He.ga K "BadNumber")) = some (.type "type")
  xd_BadNumber : PySem.W.hasDictIn K (He.ga K "BadNumber") = true
  xo_BadNumber : PySem.W.mroIn K (He.ga K "BadNumber") (.type "object") = some true
  xc_BadRun : ∃ nm q N bs bm sn sub ab col dd k0 k1 k2 k3 k5, K.lookup (He.ga K "BadRun") = some (excClassObj nm q (He.ga K "BadRun") N bs bm true sn sub ab col dd k0 k1 k2 k3 k5 "ValueError.__new__") ∧ PySem.HandSPX.refsVE bm = true
  xsa_BadRun : PySem.W.findIn K (.ref (He.ga K "BadRun")) "__setattr__" = some (some (.builtin "object.__setattr__"))
  xga_BadRun : PySem.W.findIn K (.ref (He.ga K "BadRun")) "__getattribute__" = some (some (.builtin "BaseException.__getattribute__"))
  xgg_BadRun : PySem.W.findIn K (.ref (He.ga K "BadRun")) "__getattr__" = some none
  xnn_BadRun : PySem.W.findIn K (.ref (He.ga K "BadRun")) "place" = some none
  xii_BadRun : PySem.W.findIn K (.ref (He.ga K "BadRun")) "__init__" = some (some (.ref (He.ma K (He.ga K "BadRun") "__init__")))
  xcc_BadRun : PySem.W.findIn K (.ref (He.ga K "BadRun")) "__class__" = some (some (.builtin "object.__class__"))
  xt_BadRun : PySem.W.typeIn K (.ref (He.ma K (He.ga K "BadRun") "__init__")) = some (.type "function")
  xk_BadRun : PySem.W.keepIn K (.ref (He.ga K "BadRun")) = true
  xs_BadRun : PySem.W.subIn K (.ref (He.ga K "BadRun")) (.type "BaseException") = some true
  xy_BadRun : PySem.W.typeIn K (.ref (He.ga K "BadRun")) = some (.type "type")
  xd_BadRun : PySem.W.hasDictIn K (He.ga K "BadRun") = true
  xo_BadRun : PySem.W.mroIn K (He.ga K "BadRun") (.type "object") = some true
  xc_BadSet : ∃ nm q N bs bm sn sub ab col dd k0 k1 k2 k3 k5, K.lookup (He.ga K "BadSet") = some (excClassObj nm q (He.ga K "BadSet") N bs bm true sn sub ab col dd k0 k1 k2 k3 k5 "ValueError.__new__") ∧ PySem.HandSPX.refsVE bm = true
  xsa_BadSet : PySem.W.findIn K (.ref (He.ga K "BadSet")) "__setattr__" = some (some (.builtin "object.__setattr__"))
  xga_BadSet : PySem.W.findIn K (.ref (He.ga K "BadSet")) "__getattribute__" = some (some (.builtin "BaseException.__getattribute__"))
  xgg_BadSet : PySem.W.findIn K (.ref (He.ga K "BadSet")) "__getattr__" = some none
  xnn_BadSet : PySem.W.findIn K (.ref (He.ga K "BadSet")) "place" = some none
  xii_BadSet : PySem.W.findIn K (.ref (He.ga K "BadSet")) "__init__" = some (some (.ref (He.ma K (He.ga K "BadSet") "__init__")))
  xcc_BadSet : PySem.W.findIn K (.ref (He.ga K "BadSet")) "__class__" = some (some (.builtin "object.__class__"))
  xt_BadSet : PySem.W.typeIn K (.ref (He.ma K (He.ga K "BadSet") "__init__")) = some (.type "function")
  xk_BadSet : PySem.W.keepIn K (.ref (He.ga K "BadSet")) = true
  xs_BadSet : PySem.W.subIn K (.ref (He.ga K "BadSet")) (.type "BaseException") = some true
  xy_BadSet : PySem.W.typeIn K (.ref (He.ga K "BadSet")) = some (.type "type")
  xd_BadSet : PySem.W.hasDictIn K (He.ga K "BadSet") = true
  xo_BadSet : PySem.W.mroIn K (He.ga K "BadSet") (.type "object") = some true
  xc_BadDemand : ∃ nm q N bs bm sn sub ab col dd k0 k1 k2 k3 k5, K.lookup (He.ga K "BadDemand") = some (excClassObj nm q (He.ga K "BadDemand") N bs bm true sn sub ab col dd k0 k1 k2 k3 k5 "ValueError.__new__") ∧ PySem.HandSPX.refsVE bm = true
  xsa_BadDemand : PySem.W.findIn K (.ref (He.ga K "BadDemand")) "__setattr__" = some (some (.builtin "object.__setattr__"))
  xga_BadDemand : PySem.W.findIn K (.ref (He.ga K "BadDemand")) "__getattribute__" = some (some (.builtin "BaseException.__getattribute__"))
  xgg_BadDemand : PySem.W.findIn K (.ref (He.ga K "BadDemand")) "__getattr__" = some none
  xnn_BadDemand : PySem.W.findIn K (.ref (He.ga K "BadDemand")) "place" = some none
  xii_BadDemand : PySem.W.findIn K (.ref (He.ga K "BadDemand")) "__init__" = some (some (.ref (He.ma K (He.ga K "BadDemand") "__init__")))
  xcc_BadDemand : PySem.W.findIn K (.ref (He.ga K "BadDemand")) "__class__" = some (some (.builtin "object.__class__"))
  xt_BadDemand : PySem.W.typeIn K (.ref (He.ma K (He.ga K "BadDemand") "__init__")) = some (.type "function")
  xk_BadDemand : PySem.W.keepIn K (.ref (He.ga K "BadDemand")) = true
  xs_BadDemand : PySem.W.subIn K (.ref (He.ga K "BadDemand")) (.type "BaseException") = some true
  xy_BadDemand : PySem.W.typeIn K (.ref (He.ga K "BadDemand")) = some (.type "type")
  xd_BadDemand : PySem.W.hasDictIn K (He.ga K "BadDemand") = true
  xo_BadDemand : PySem.W.mroIn K (He.ga K "BadDemand") (.type "object") = some true
  xc_BadPoint : ∃ nm q N bs bm sn sub ab col dd k0 k1 k2 k3 k5, K.lookup (He.ga K "BadPoint") = some (excClassObj nm q (He.ga K "BadPoint") N bs bm true sn sub ab col dd k0 k1 k2 k3 k5 "ValueError.__new__") ∧ PySem.HandSPX.refsVE bm = true
  xsa_BadPoint : PySem.W.findIn K (.ref (He.ga K "BadPoint")) "__setattr__" = some (some (.builtin "object.__setattr__"))
  xga_BadPoint : PySem.W.findIn K (.ref (He.ga K "BadPoint")) "__getattribute__" = some (some (.builtin "BaseException.__getattribute__"))
  xgg_BadPoint : PySem.W.findIn K (.ref (He.ga K "BadPoint")) "__getattr__" = some none
  xnn_BadPoint : PySem.W.findIn K (.ref (He.ga K "BadPoint")) "point" = some none
  xii_BadPoint : PySem.W.findIn K (.ref (He.ga K "BadPoint")) "__init__" = some (some (.ref (He.ma K (He.ga K "BadPoint") "__init__")))
  xcc_BadPoint : PySem.W.findIn K (.ref (He.ga K "BadPoint")) "__class__" = some (some (.builtin "object.__class__"))
  xt_BadPoint : PySem.W.typeIn K (.ref (He.ma K (He.ga K "BadPoint") "__init__")) = some (.type "function")
  xk_BadPoint : PySem.W.keepIn K (.ref (He.ga K "BadPoint")) = true
  xs_BadPoint : PySem.W.subIn K (.ref (He.ga K "BadPoint")) (.type "BaseException") = some true
  xy_BadPoint : PySem.W.typeIn K (.ref (He.ga K "BadPoint")) = some (.type "type")
  xd_BadPoint : PySem.W.hasDictIn K (He.ga K "BadPoint") = true
  xo_BadPoint : PySem.W.mroIn K (He.ga K "BadPoint") (.type "object") = some true
  ki_BadPoint_PartsError : PySem.W.kitOne K (.ref (He.ga K "BadPoint")) (.ref (He.ga K "PartsError")) = some true
  ki_BadPoint_BadDemand : PySem.W.kitOne K (.ref (He.ga K "BadPoint")) (.ref (He.ga K "BadDemand")) = some false
theorem ctx_of {K : PySem.W.Frag} {h : Heap} {mg : Str → Option Value} (X : K.In h) (G : h.Ns mainGlobals mg) (c : HkQ.obsQ fa fn fc fg ex K = HkQ.valQ fn fc fg) : Ctx K mg := by
  have ck := HkQ.saysK c
  have S := HkK.saysD_of ck
  exact {
    g_is_whole := He.glo_ok X G (S.fact 0 (by kernel_rfl)),
    g_is_within := He.glo_ok X G (S.fact 1 (by kernel_rfl)),
    g_is_count := He.glo_ok X G (S.fact 2 (by kernel_rfl)),
    g_is_row := He.glo_ok X G (S.fact 3 (by kernel_rfl)),
    g_is_pair := He.glo_ok X G (S.fact 4 (by kernel_rfl)),
    g_is_run := He.glo_ok X G (S.fact 5 (by kernel_rfl)),
    g_first_wrong := He.glo_ok X G (S.fact 6 (by kernel_rfl)),
    g_set_of := He.glo_ok X G (S.fact 7 (by kernel_rfl)),
    g_both := He.glo_ok X G (S.fact 8 (by kernel_rfl)),
    g_minus := He.glo_ok X G (S.fact 9 (by kernel_rfl)),
    g_checked_runs := He.glo_ok X G (S.fact 10 (by kernel_rfl)),
    g_is_lap := He.glo_ok X G (S.fact 11 (by kernel_rfl)),
    g_demand_of := He.glo_ok X G (S.fact 12 (by kernel_rfl)),
    g_covered := He.glo_ok X G (S.fact 13 (by kernel_rfl)),
    g_fits_place := He.glo_ok X G (S.fact 14 (by kernel_rfl)),
    g_wrong_place := He.glo_ok X G (S.fact 15 (by kernel_rfl)),
    g_is_stock_of := He.glo_ok X G (S.fact 16 (by kernel_rfl)),
    g_is_stock := He.glo_ok X G (S.fact 17 (by kernel_rfl)),
    g_begins_of := He.glo_ok X G (S.fact 18 (by kernel_rfl)),
    g_steps_from := He.glo_ok X G (S.fact 19 (by kernel_rfl)),
    g_move_of := He.glo_ok X G (S.fact 20 (by kernel_rfl)),
    g_behind := He.glo_ok X G (S.fact 21 (by kernel_rfl)),
    g_priced := He.glo_ok X G (S.fact 22 (by kernel_rfl)),
    g_price_of_step := He.glo_ok X G (S.fact 23 (by kernel_rfl)),
    g_spread := He.glo_ok X G (S.fact 24 (by kernel_rfl)),
    g_row_to := He.glo_ok X G (S.fact 25 (by kernel_rfl)),
    g_reached_points := He.glo_ok X G (S.fact 26 (by kernel_rfl)),
    g_carried := He.glo_ok X G (S.fact 27 (by kernel_rfl)),
    g_row_between := He.glo_ok X G (S.fact 28 (by kernel_rfl)),
    g_cheapest_of := He.glo_ok X G (S.fact 29 (by kernel_rfl)),
    g_some_stock := He.glo_ok X G (S.fact 30 (by kernel_rfl)),
    g_any_stock := He.glo_ok X G (S.fact 31 (by kernel_rfl)),
    g_has_stock := He.glo_ok X G (S.fact 32 (by kernel_rfl)),
    g_points_up_to := He.glo_ok X G (S.fact 33 (by kernel_rfl)),
    g_point_flags := He.glo_ok X G (S.fact 34 (by kernel_rfl)),
    g_leaving := He.glo_ok X G (S.fact 35 (by kernel_rfl)),
    g_entering := He.glo_ok X G (S.fact 36 (by kernel_rfl)),
    g_outflow := He.glo_ok X G (S.fact 37 (by kernel_rfl)),
    g_lacking := He.glo_ok X G (S.fact 38 (by kernel_rfl)),
    g__law_draws := He.glo_ok X G (S.fact 39 (by kernel_rfl)),
    g__law_take := He.glo_ok X G (S.fact 40 (by kernel_rfl)),
    g__law_int := He.glo_ok X G (S.fact 41 (by kernel_rfl)),
    g__law_set := He.glo_ok X G (S.fact 42 (by kernel_rfl)),
    g__law_chains := He.glo_ok X G (S.fact 43 (by kernel_rfl)),
    g__law_special := He.glo_ok X G (S.fact 44 (by kernel_rfl)),
    g__law_market := He.glo_ok X G (S.fact 45 (by kernel_rfl)),
    g__law_built := He.glo_ok X G (S.fact 46 (by kernel_rfl)),
    g__law_kind := He.glo_ok X G (S.fact 47 (by kernel_rfl)),
    g__law_size_wanted := He.glo_ok X G (S.fact 48 (by kernel_rfl)),
    g__law_run := He.glo_ok X G (S.fact 49 (by kernel_rfl)),
    g__law_demand := He.glo_ok X G (S.fact 50 (by kernel_rfl)),
    g__law_parts := He.glo_ok X G (S.fact 51 (by kernel_rfl)),
    g__law_cover := He.glo_ok X G (S.fact 52 (by kernel_rfl)),
    g__law_is_stock := He.glo_ok X G (S.fact 53 (by kernel_rfl)),
    g__law_sets := He.glo_ok X G (S.fact 54 (by kernel_rfl)),
    g__law_outflow := He.glo_ok X G (S.fact 55 (by kernel_rfl)),
    g__law_over_edge := He.glo_ok X G (S.fact 56 (by kernel_rfl)),
    g__law_lack_right := He.glo_ok X G (S.fact 57 (by kernel_rfl)),
    g__law_refused := He.glo_ok X G (S.fact 58 (by kernel_rfl)),
    g__law_door_refused := He.glo_ok X G (S.fact 59 (by kernel_rfl)),
    g__law_doors_right := He.glo_ok X G (S.fact 60 (by kernel_rfl)),
    g__law_points := He.glo_ok X G (S.fact 61 (by kernel_rfl)),
    g_law := He.glo_ok X G (S.fact 62 (by kernel_rfl)),
    g_Market := He.glo_ok X G (S.fact 63 (by kernel_rfl)),
    g_Join := He.glo_ok X G (S.fact 64 (by kernel_rfl)),
    g_Lap := He.glo_ok X G (S.fact 65 (by kernel_rfl)),
    g_PartsError := He.glo_ok X G (S.fact 66 (by kernel_rfl)),
    g_BadNumber := He.glo_ok X G (S.fact 67 (by kernel_rfl)),
    g_BadRun := He.glo_ok X G (S.fact 68 (by kernel_rfl)),
    g_BadSet := He.glo_ok X G (S.fact 69 (by kernel_rfl)),
    g_BadDemand := He.glo_ok X G (S.fact 70 (by kernel_rfl)),
    g_BadPoint := He.glo_ok X G (S.fact 71 (by kernel_rfl)),
    b_zip := He.free_ok X G (S.fact 72 (by kernel_rfl)),
    b_abs := He.free_ok X G (S.fact 73 (by kernel_rfl)),
    b_len := He.free_ok X G (S.fact 74 (by kernel_rfl)),
    b_isinstance := He.free_ok X G (S.fact 75 (by kernel_rfl)),
    b_int := He.free_ok X G (S.fact 76 (by kernel_rfl)),
    b_bool := He.free_ok X G (S.fact 77 (by kernel_rfl)),
    b_tuple := He.free_ok X G (S.fact 78 (by kernel_rfl)),
    b_list := He.free_ok X G (S.fact 79 (by kernel_rfl)),
    b_enumerate := He.free_ok X G (S.fact 80 (by kernel_rfl)),
    b_range := He.free_ok X G (S.fact 81 (by kernel_rfl)),
    b_set := He.free_ok X G (S.fact 82 (by kernel_rfl)),
    b_sorted := He.free_ok X G (S.fact 83 (by kernel_rfl)),
    b_str := He.free_ok X G (S.fact 84 (by kernel_rfl)),
    b_min := He.free_ok X G (S.fact 85 (by kernel_rfl)),
    b_super := He.free_ok X G (S.fact 86 (by kernel_rfl)),
    b_all := He.free_ok X G (S.fact 87 (by kernel_rfl)),
    b_sum := He.free_ok X G (S.fact 88 (by kernel_rfl)),
    b_any := He.free_ok X G (S.fact 89 (by kernel_rfl)),
    b_max := He.free_ok X G (S.fact 90 (by kernel_rfl)),
    c_GREATEST_SIZE := He.int_ok X G (S.fact 91 (by kernel_rfl)),
    c_BARE := He.int_ok X G (S.fact 92 (by kernel_rfl)),
    cl_Join := He.cls_ok (S.fact 93 (by kernel_rfl)),
    mk_Join := He.mkr_ok (S.fact 94 (by kernel_rfl)),
    no_Join_size := He.noat_ok (S.fact 95 (by kernel_rfl)),
    no_Join_runs := He.noat_ok (S.fact 96 (by kernel_rfl)),
    no_Join_gone := He.noat_ok (S.fact 97 (by kernel_rfl)),
    cl_Lap := He.cls_ok (S.fact 98 (by kernel_rfl)),
    mk_Lap := He.mkr_ok (S.fact 99 (by kernel_rfl)),
    no_Lap_size := He.noat_ok (S.fact 100 (by kernel_rfl)),
    no_Lap_runs := He.noat_ok (S.fact 101 (by kernel_rfl)),
    no_Lap_gone := He.noat_ok (S.fact 102 (by kernel_rfl)),
    te_BadNumber := He.exm_ok (S.fact 103 (by kernel_rfl)),
    te_BadRun := He.exm_ok (S.fact 104 (by kernel_rfl)),
    te_BadSet := He.exm_ok (S.fact 105 (by kernel_rfl)),
    te_BadDemand := He.exm_ok (S.fact 106 (by kernel_rfl)),
    te_BadPoint := He.exm_ok (S.fact 107 (by kernel_rfl)),
    tf_BadPoint_BadDemand := He.exm_ok (S.fact 108 (by kernel_rfl)),
    d_is_whole := S.def_ 0 (by kernel_rfl),
    d_is_within := S.def_ 1 (by kernel_rfl),
    d_is_count := S.def_ 2 (by kernel_rfl),
    d_is_row := S.def_ 3 (by kernel_rfl),
    d_is_pair := S.def_ 4 (by kernel_rfl),
    d_is_run := S.def_ 5 (by kernel_rfl),
    d_first_wrong := S.def_ 6 (by kernel_rfl),
    d_set_of := S.def_ 7 (by kernel_rfl),
    d_both := S.def_ 8 (by kernel_rfl),
    d_minus := S.def_ 9 (by kernel_rfl),
    d_Market___init__ := S.def_ 10 (by kernel_rfl),
    d_Market_there := S.def_ 11 (by kernel_rfl),
    d_checked_runs := S.def_ 12 (by kernel_rfl),
    d_is_lap := S.def_ 13 (by kernel_rfl),
    d_demand_of := S.def_ 14 (by kernel_rfl),
    d_covered := S.def_ 15 (by kernel_rfl),
    d_fits_place := S.def_ 16 (by kernel_rfl),
    d_wrong_place := S.def_ 17 (by kernel_rfl),
    d_is_stock_of := S.def_ 18 (by kernel_rfl),
    d_is_stock := S.def_ 19 (by kernel_rfl),
    d_begins_of := S.def_ 20 (by kernel_rfl),
    d_steps_from := S.def_ 21 (by kernel_rfl),
    d_move_of := S.def_ 22 (by kernel_rfl),
    d_behind := S.def_ 23 (by kernel_rfl),
    d_priced := S.def_ 24 (by kernel_rfl),
    d_price_of_step := S.def_ 25 (by kernel_rfl),
    d_spread := S.def_ 26 (by kernel_rfl),
    d_row_to := S.def_ 27 (by kernel_rfl),
    d_reached_points := S.def_ 28 (by kernel_rfl),
    d_carried := S.def_ 29 (by kernel_rfl),
    d_row_between := S.def_ 30 (by kernel_rfl),
    d_cheapest_of := S.def_ 31 (by kernel_rfl),
    d_some_stock := S.def_ 32 (by kernel_rfl),
    d_any_stock := S.def_ 33 (by kernel_rfl),
    d_has_stock := S.def_ 34 (by kernel_rfl),
    d_points_up_to := S.def_ 35 (by kernel_rfl),
    d_point_flags := S.def_ 36 (by kernel_rfl),
    d_leaving := S.def_ 37 (by kernel_rfl),
    d_entering := S.def_ 38 (by kernel_rfl),
    d_outflow := S.def_ 39 (by kernel_rfl),
    d_lacking := S.def_ 40 (by kernel_rfl),
    d__law_draws := S.def_ 41 (by kernel_rfl),
    d__law_take := S.def_ 42 (by kernel_rfl),
    d__law_int := S.def_ 43 (by kernel_rfl),
    d__law_set := S.def_ 44 (by kernel_rfl),
    d__law_chains := S.def_ 45 (by kernel_rfl),
    d__law_special := S.def_ 46 (by kernel_rfl),
    d__law_market := S.def_ 47 (by kernel_rfl),
    d__law_built := S.def_ 48 (by kernel_rfl),
    d__law_kind := S.def_ 49 (by kernel_rfl),
    d__law_size_wanted := S.def_ 50 (by kernel_rfl),
    d__law_run := S.def_ 51 (by kernel_rfl),
    d__law_demand := S.def_ 52 (by kernel_rfl),
    d__law_parts := S.def_ 53 (by kernel_rfl),
    d__law_cover := S.def_ 54 (by kernel_rfl),
    d__law_is_stock := S.def_ 55 (by kernel_rfl),
    d__law_sets := S.def_ 56 (by kernel_rfl),
    d__law_outflow := S.def_ 57 (by kernel_rfl),
    d__law_over_edge := S.def_ 58 (by kernel_rfl),
    d__law_lack_right := S.def_ 59 (by kernel_rfl),
    d__law_refused := S.def_ 60 (by kernel_rfl),
    d__law_door_refused := S.def_ 61 (by kernel_rfl),
    d__law_doors_right := S.def_ 62 (by kernel_rfl),
    d__law_points := S.def_ 63 (by kernel_rfl),
    d_law := S.def_ 64 (by kernel_rfl),
    d_BadNumber___init__ := S.def_ 65 (by kernel_rfl),
    d_BadRun___init__ := S.def_ 66 (by kernel_rfl),
    d_BadSet___init__ := S.def_ 67 (by kernel_rfl),
    d_BadDemand___init__ := S.def_ 68 (by kernel_rfl),
    d_BadPoint___init__ := S.def_ 69 (by kernel_rfl),
    sup_Join := HkK.supB_ok (d := d_Join___init__) (HkK.says_fc ck 0 (by kernel_rfl)) (HkK.says_ex ck 0 (by kernel_rfl)) (He.free_ok X G (S.fact 86 (by kernel_rfl))) rfl,
    kind_Join := He.conB_ok (HkK.says_ex ck 1 rfl),
    cc_Join := He.eqO_ok (HkK.says_ex ck 2 (by kernel_rfl)),
    mo_Join := of_decide_eq_true (HkK.says_ex ck 3 (by kernel_rfl)),
    fthere_Join := He.eqO_ok (HkK.says_ex ck 4 (by kernel_rfl)),
    fn_there := (HkK.says_ex ck 5 (by kernel_rfl)),
    kp_there := (HkK.says_ex ck 6 (by kernel_rfl)),
    jl_ne := of_decide_eq_true (HkK.says_ex ck 7 (by kernel_rfl)),
    pr_many_Join := HkQ.prB_ok (HkK.says_ex ck 8 (by kernel_rfl)),
    sup_Lap := HkK.supB_ok (d := d_Lap___init__) (HkK.says_fc ck 1 (by kernel_rfl)) (HkK.says_ex ck 9 (by kernel_rfl)) (He.free_ok X G (S.fact 86 (by kernel_rfl))) rfl,
    kind_Lap := He.conB_ok (HkK.says_ex ck 10 rfl),
    cc_Lap := He.eqO_ok (HkK.says_ex ck 11 (by kernel_rfl)),
    mo_Lap := of_decide_eq_true (HkK.says_ex ck 12 (by kernel_rfl)),
    fthere_Lap := He.eqO_ok (HkK.says_ex ck 13 (by kernel_rfl)),
    pr_many_Lap := HkQ.prB_ok (HkK.says_ex ck 14 (by kernel_rfl)),
    d_Market_many := HkQ.fnG_ok (d := d_Market_many) (HkQ.says_fg c 0 (by kernel_rfl)) (HkK.says_ex ck 15 (by kernel_rfl)),
    gs := He.eqO_ok (HkK.says_ex ck 16 (by kernel_rfl)),
    tk := of_decide_eq_true (HkK.says_ex ck 17 (by kernel_rfl)),
    xc_BadNumber := HkK.excB_ok (HkK.says_ex ck 18 (by kernel_rfl)),
    xsa_BadNumber := He.eqO_ok (HkK.says_ex ck 19 (by kernel_rfl)),
    xga_BadNumber := He.eqO_ok (HkK.says_ex ck 20 (by kernel_rfl)),
    xgg_BadNumber := He.eqO_ok (HkK.says_ex ck 21 (by kernel_rfl)),
    xnn_BadNumber := He.eqO_ok (HkK.says_ex ck 22 (by kernel_rfl)),
    xii_BadNumber := He.eqO_ok (HkK.says_ex ck 23 (by kernel_rfl)),
    xcc_BadNumber := He.eqO_ok (HkK.says_ex ck 24 (by kernel_rfl)),
    xt_BadNumber := of_decide_eq_true (HkK.says_ex ck 25 (by kernel_rfl)),
    xk_BadNumber := (HkK.says_ex ck 26 (by kernel_rfl)),
    xs_BadNumber := of_decide_eq_true (HkK.says_ex ck 27 (by kernel_rfl)),
    xy_BadNumber := of_decide_eq_true (HkK.says_ex ck 28 (by kernel_rfl)),
    xd_BadNumber := (HkK.says_ex ck 29 (by kernel_rfl)),
    xo_BadNumber := of_decide_eq_true (HkK.says_ex ck 30 (by kernel_rfl)),
    xc_BadRun := HkK.excB_ok (HkK.says_ex ck 31 (by kernel_rfl)),
    xsa_BadRun := He.eqO_ok (HkK.says_ex ck 32 (by kernel_rfl)),
    xga_BadRun := He.eqO_ok (HkK.says_ex ck 33 (by kernel_rfl)),
    xgg_BadRun := He.eqO_ok (HkK.says_ex ck 34 (by kernel_rfl)),
    xnn_BadRun := He.eqO_ok (HkK.says_ex ck 35 (by kernel_rfl)),
    xii_BadRun := He.eqO_ok (HkK.says_ex ck 36 (by kernel_rfl)),
    xcc_BadRun := He.eqO_ok (HkK.says_ex ck 37 (by kernel_rfl)),
    xt_BadRun := of_decide_eq_true (HkK.says_ex ck 38 (by kernel_rfl)),
    xk_BadRun := (HkK.says_ex ck 39 (by kernel_rfl)),
    xs_BadRun := of_decide_eq_true (HkK.says_ex ck 40 (by kernel_rfl)),
    xy_BadRun := of_decide_eq_true (HkK.says_ex ck 41 (by kernel_rfl)),
    xd_BadRun := (HkK.says_ex ck 42 (by kernel_rfl)),
    xo_BadRun := of_decide_eq_true (HkK.says_ex ck 43 (by kernel_rfl)),
    xc_BadSet := HkK.excB_ok (HkK.says_ex ck 44 (by kernel_rfl)),
    xsa_BadSet := He.eqO_ok (HkK.says_ex ck 45 (by kernel_rfl)),
    xga_BadSet := He.eqO_ok (HkK.says_ex ck 46 (by kernel_rfl)),
    xgg_BadSet := He.eqO_ok (HkK.says_ex ck 47 (by kernel_rfl)),
    xnn_BadSet := He.eqO_ok (HkK.says_ex ck 48 (by kernel_rfl)),
    xii_BadSet := He.eqO_ok (HkK.says_ex ck 49 (by kernel_rfl)),
    xcc_BadSet := He.eqO_ok (HkK.says_ex ck 50 (by kernel_rfl)),
    xt_BadSet := of_decide_eq_true (HkK.says_ex ck 51 (by kernel_rfl)),
    xk_BadSet := (HkK.says_ex ck 52 (by kernel_rfl)),
    xs_BadSet := of_decide_eq_true (HkK.says_ex ck 53 (by kernel_rfl)),
    xy_BadSet := of_decide_eq_true (HkK.says_ex ck 54 (by kernel_rfl)),
    xd_BadSet := (HkK.says_ex ck 55 (by kernel_rfl)),
    xo_BadSet := of_decide_eq_true (HkK.says_ex ck 56 (by kernel_rfl)),
    xc_BadDemand := HkK.excB_ok (HkK.says_ex ck 57 (by kernel_rfl)),
    xsa_BadDemand := He.eqO_ok (HkK.says_ex ck 58 (by kernel_rfl)),
    xga_BadDemand := He.eqO_ok (HkK.says_ex ck 59 (by kernel_rfl)),
    xgg_BadDemand := He.eqO_ok (HkK.says_ex ck 60 (by kernel_rfl)),
    xnn_BadDemand := He.eqO_ok (HkK.says_ex ck 61 (by kernel_rfl)),
    xii_BadDemand := He.eqO_ok (HkK.says_ex ck 62 (by kernel_rfl)),
    xcc_BadDemand := He.eqO_ok (HkK.says_ex ck 63 (by kernel_rfl)),
    xt_BadDemand := of_decide_eq_true (HkK.says_ex ck 64 (by kernel_rfl)),
    xk_BadDemand := (HkK.says_ex ck 65 (by kernel_rfl)),
    xs_BadDemand := of_decide_eq_true (HkK.says_ex ck 66 (by kernel_rfl)),
    xy_BadDemand := of_decide_eq_true (HkK.says_ex ck 67 (by kernel_rfl)),
    xd_BadDemand := (HkK.says_ex ck 68 (by kernel_rfl)),
    xo_BadDemand := of_decide_eq_true (HkK.says_ex ck 69 (by kernel_rfl)),
    xc_BadPoint := HkK.excB_ok (HkK.says_ex ck 70 (by kernel_rfl)),
    xsa_BadPoint := He.eqO_ok (HkK.says_ex ck 71 (by kernel_rfl)),
    xga_BadPoint := He.eqO_ok (HkK.says_ex ck 72 (by kernel_rfl)),
    xgg_BadPoint := He.eqO_ok (HkK.says_ex ck 73 (by kernel_rfl)),
    xnn_BadPoint := He.eqO_ok (HkK.says_ex ck 74 (by kernel_rfl)),
    xii_BadPoint := He.eqO_ok (HkK.says_ex ck 75 (by kernel_rfl)),
    xcc_BadPoint := He.eqO_ok (HkK.says_ex ck 76 (by kernel_rfl)),
    xt_BadPoint := of_decide_eq_true (HkK.says_ex ck 77 (by kernel_rfl)),
    xk_BadPoint := (HkK.says_ex ck 78 (by kernel_rfl)),
    xs_BadPoint := of_decide_eq_true (HkK.says_ex ck 79 (by kernel_rfl)),
    xy_BadPoint := of_decide_eq_true (HkK.says_ex ck 80 (by kernel_rfl)),
    xd_BadPoint := (HkK.says_ex ck 81 (by kernel_rfl)),
    xo_BadPoint := of_decide_eq_true (HkK.says_ex ck 82 (by kernel_rfl)),
    ki_BadPoint_PartsError := of_decide_eq_true (HkK.says_ex ck 83 (by kernel_rfl)),
    ki_BadPoint_BadDemand := of_decide_eq_true (HkK.says_ex ck 84 (by kernel_rfl)) }
end K05


set_option Elab.async false
set_option linter.all false
set_option maxRecDepth 100000
set_option maxHeartbeats 0
namespace K05
open PySem PySem.Spec PyProof.Rows L2
abbrev R : PySem.W.OpenRow := PySem.W.OpenLaw.row PySem.Challenge.rw_keptparts_k05_a_stock_or_points
abbrev hk : PySem.W.Hook := HkB.hookB 6 fa fn fc fg ex
def ob (s : PySem.W.SharedT) : HkQ.AlQ := HkQ.obsQ fa fn fc fg ex (HkB.frB 6 (HandSHeadRun.getT s))
theorem ob_eq (s : PySem.W.SharedT) : ob s = hk.obs s.abs := HkB.obsB_eq (HandSHeadRun.getT_eq s)
def names1 : List PySem.Str := ["_wall", "PartsError", "BadNumber", "BadRun", "BadSet", "BadDemand", "NotJoin", "BadPoint", "is_whole", "is_within", "is_count", "is_row", "is_pair", "is_run", "first_wrong", "set_of", "both", "minus", "GREATEST_SIZE", "Market", "Join", "Lap", "checked_runs", "gone_after"]
def names2 : List PySem.Str := ["end_to_end_shape", "beside_shape", "joined_gone", "turned_runs", "repeated_parts", "check_times", "is_lap", "check_join", "demand_of", "covered", "fits_place", "wrong_place", "is_stock_of", "is_stock", "begins_of", "BARE", "steps_from", "move_of", "behind", "priced", "price_of_step", "spread", "row_to", "reached_points"]
def names3 : List PySem.Str := ["carried", "row_between", "cheapest_of", "filled", "some_stock", "any_stock", "has_stock", "points_up_to", "point_flags", "leaving", "entering", "outflow", "lacking", "_law_draws", "_law_take", "_law_int", "_law_set", "_law_chains", "_law_special", "_law_market", "_law_built", "_law_kind", "_law_size_wanted", "_law_run"]
def names4 : List PySem.Str := ["_law_demand", "_law_parts", "_law_cover", "_law_is_stock", "_law_sets", "_law_outflow", "_law_over_edge", "_law_lack_right", "_law_refused", "_law_door_refused", "_law_doors_right", "_law_points"]
def names : List PySem.Str := names1 ++ names2 ++ names3 ++ names4
theorem map3 {α β γ δ ε ζ : Type} {o : Option α} {f : α → β × γ} {g : α → δ} {h : α → ε × ζ} {b : β} {b2 : γ} {c : δ} {d : ε} {d2 : ζ} (h1 : o.map f = some (b, b2)) (h2 : o.map g = some c) (h3 : o.map h = some (d, d2)) :
    o.map (fun s => ((f s).1, (f s).2, ((g s, (h s).1), (h s).2))) = some (b, b2, ((c, d), d2)) := by
  cases o with
  | none => cases h1
  | some s =>
    have e1 : f s = (b, b2) := Option.some.inj h1
    have e2 : g s = c := Option.some.inj h2
    have e3 : h s = (d, d2) := Option.some.inj h3
    show some ((f s).1, (f s).2, ((g s, (h s).1), (h s).2)) = _
    rw [e1, e2, e3]
theorem hRunA (w : World) (os : PySem.OsState) : (HandSHeadRun.endF (HandSHeadRun.stepQ (HandSHeadRun.denQ HandSHeadRun.tabQ) R.prog w) 40000 R.prog w os).map (fun s => (HandSHeadRun.looksF R.prog (PySem.W.boot_heap w.params) s.abs, HandSHeadRun.seenQ (PySem.W.view R.prog [94]) names (PySem.importedModules R.prog.main.body) (fun s => PySem.W.xlAt (PySem.W.view R.prog [94]) [] s && PySem.W.recOk R.toRowW.records s) s.abs)) = some (true, PySem.W.openGood (PySem.W.view R.prog [94]) names) := by
  kernel_rfl
theorem hRunC (w : World) (os : PySem.OsState) : (HandSHeadRun.endF (HandSHeadRun.stepQ (HandSHeadRun.denQ HandSHeadRun.tabQ) R.prog w) 40000 R.prog w os).map (fun s => He.obsD fa fn (HkB.frB 6 (HandSHeadRun.getT s))) = some (He.valD fn) := by
  kernel_rfl
theorem hRunD (w : World) (os : PySem.OsState) : (HandSHeadRun.endF (HandSHeadRun.stepQ (HandSHeadRun.denQ HandSHeadRun.tabQ) R.prog w) 40000 R.prog w os).map (fun s => ((fc.map (fun d => HkK.fnC (HkB.frB 6 (HandSHeadRun.getT s)) d.at_), (ex (HkB.frB 6 (HandSHeadRun.getT s))).all id), fg.map (fun d => HkQ.fnG (HkB.frB 6 (HandSHeadRun.getT s)) d.at_))) = some ((fc.map HkK.valC, true), fg.map HkQ.valG) := by
  kernel_rfl
theorem run (w : World) : HandSHeadRun.RunEq R (PySem.W.view R.prog [94]) hk ob 40000 names w := by
  intro os
  have a := hRunA w os
  have c := hRunC w os
  have d := hRunD w os
  revert a c d
  generalize HandSHeadRun.endF (HandSHeadRun.stepQ (HandSHeadRun.denQ HandSHeadRun.tabQ) R.prog w) 40000 R.prog w os = o
  intro a c d
  exact map3 a c d
end K05


set_option Elab.async false
set_option linter.all false
set_option maxRecDepth 100000
set_option maxHeartbeats 4000000
/-! The program's own errors: each one keeps its field. -/
namespace PySem
namespace BadSetX
open PySem.W PySem.Calls PyProof.Rows PySem.HandSPX
/-! ### the text of __init__ -/
def iA (p1 p2 : Pos) : Arguments := { posonlyargs := [], args := [{ arg := "self", annotation := none, pos := p1 }, { arg := "place", annotation := none, pos := p2 }], vararg := none, kwonlyargs := [], kw_defaults := [], kwarg := none, defaults := [] }
def iB (q1 q2 q3 q4 : Pos) : List Stmt := [.Assign [.Attribute (.Name "self" q1) "place" q2] (.Name "place" q3) q4]
def iS : Scope := { kind := .function, names := [(PySem.Str.ofString "self", .local), (PySem.Str.ofString "place", .local)], isGenerator := false, isCoroutine := false, more := [] }
/-- what the written part says of Low, at C, and of its __init__, at fI -/
structure BadSetTxt (K : Frag) (mg : Str → Option Value) (C fI : Addr) : Prop where
  gC : mg "BadSet" = some (.ref C)
  cls : ∃ nm q N bs bm sn sub ab col dd k0 k1 k2 k3 k5, K.lookup C = some (excClassObj nm q C N bs bm true sn sub ab col dd k0 k1 k2 k3 k5 "ValueError.__new__") ∧ refsVE bm = true
  sa : findIn K (.ref C) "__setattr__" = some (some (.builtin "object.__setattr__"))
  ga : findIn K (.ref C) "__getattribute__" = some (some (.builtin "BaseException.__getattribute__"))
  gg : findIn K (.ref C) "__getattr__" = some none
  noN : findIn K (.ref C) "place" = some none
  iC : findIn K (.ref C) "__init__" = some (some (.ref fI))
  tC : typeIn K (.ref fI) = some (.type "function")
  kC : keepIn K (.ref C) = true
  exC : subIn K (.ref C) (.type "BaseException") = some true
  tyC : typeIn K (.ref C) = some (.type "type")
  hdC : hasDictIn K C = true
  te : exmOne K (.ref C) (.ref C) = some true
  fn : ∃ (oc : Value) (od : Option Addr) (kV doc pm : Value) (an : Option Addr) (cdv ct : Value) (osl : Array (Option Value)) (p1 p2 q1 q2 q3 q4 : Pos),
    K.lookup fI = some ⟨oc, od, .func (fnOf "__init__" "BadSet.__init__" (iA p1 p2) (iB q1 q2 q3 q4) iS .none kV doc pm an cdv ct), osl⟩ ∧ codeIn K cdv "BadSet.__init__" = true
theorem one_size (v : Value) : [v].length ≤ sizeLine := by
  rw [sizeLine_eq]
  exact (by decide : 1 ≤ 16777216)
theorem kept_but {K : Frag} {h h' : Heap} {x : Addr} (X : K.In h) (hx : K.lookup x = none) (k : ∀ b o, b ≠ x → h.get? b = some o → h'.get? b = some o) : K.In h' := fun a o e =>
  k a o (fun z => by rw [z, hx] at e; cases e) (X a o e)
theorem ldC {M : Model} {s : Shared} {name : Str} {scope : Scope} {L a : Addr} {cd : Value} {m : Str → Option Value} {x : Str} {pos : Pos} {v : Value} {Q : Value → Shared → Prop} {A : Around} {E : Value → Shared → Prop} (hn : s.heap.Ns L m) (hv : m x = some v) (h : Q v s)
    (hk : scope.kind = .function := by rfl) (hl : (envOfC name scope L a cd).kindOf x = some .local := by rfl) (hd : (x == ("__debug__" : Str)) = false := by decide) :
    wpAny M A (eval (.Name x pos) (envOfC name scope L a cd)) Q E s := wpAny_Name (wpAny_loadName_local hk hl hn hv h) hd
/-- what __init__ leaves of a fresh exception at x -/
structure InitEnd (h h' : Heap) (x C dx t1 : Addr) (v : Value) : Prop where
  keep : ∀ b o, b ≠ x → h.get? b = some o → h'.get? b = some o
  obj : h'.get? x = some { cls := .ref C, dict := some dx, data := .fields #[.ref t1, .none, .none, .none, .bool false, .none] }
  dbig : h.objs.size ≤ dx
  dne : dx ≠ x
  ns : h'.Ns1 dx (fun y => if y = "place" then some v else none)
/-- a made Low -/
structure OwnMade (h h' : Heap) (e C d : Addr) (v : Value) : Prop where
  keep : ∀ b o, h.get? b = some o → h'.get? b = some o
  new : h.objs.size ≤ e
  obj : ∃ oe vs, h'.get? e = some oe ∧ oe.cls = .ref C ∧ oe.dict = some d ∧ oe.data = .fields vs ∧ vs[1]? = some .none ∧ 4 < vs.size
  dbig : h.objs.size ≤ d
  dne : d ≠ e
  ns : h'.Ns1 d (fun y => if y = "place" then some v else none)
section
variable {prog : Program} {w : World} {A : Around} {E : Value → Shared → Prop} {R : Result → Shared → Prop} {s : Shared} {K : Frag} {mg : Str → Option Value} {C fI : Addr}
theorem init_BadSet (T : BadSetTxt K mg C fI) {x t0 : Addr} {v : Value} (X : K.In s.heap) (hlim : s.heap.NoLimit) (hx : s.heap.get? x = some (excO C t0)) (hnx : K.lookup x = none) (hroom : A.depth < recursionLimit)
    (hq : ∀ h' tk dx, InitEnd s.heap h' x C dx t0 v → R (.ok (.ret .none)) { s with heap := h', toks := tk }) :
    codeAny (model prog w) A (.call (.ref fI) ⟨[.ref x, v], []⟩) R s := by
  obtain ⟨oc, od, kV, doc, pm, an, cdv, ct, osl, p1, p2, q1, q2, q3, q4, ho, hcd⟩ := T.fn
  obtain ⟨nm, q, N, bs, bm, sn, sub, ab, col, dd, k0, k1, k2, k3, k5, hC, hbm⟩ := T.cls
  have hcl : clsIn K C = some { name := nm, bases := bs, mro := .ref C :: bm, ns := N, qualname := q, hasDict := true, slotNames := sn, subclasses := sub, abstract := ab, collection := col, hasDel := false } := by unfold clsIn; rw [hC] <;> rfl
  refine Att.call_fn (binds := [("self", .ref x), ("place", v)]) X hlim ho hcd hroom (BindsTo.of_eq (by first | rfl | with_unfolding_all rfl)) (by first | rfl | decide | with_unfolding_all rfl) (fun s₁ IC => ?_) rfl rfl rfl
  obtain ⟨h₁, tk₁, rfl⟩ := IC.toInCall.same
  have k : ∀ b o, s.heap.get? b = some o → h₁.get? b = some o := IC.toInCall.keep
  have hn := IC.toInCall.ns
  have hxL : s.heap.objs.size ≠ x := Nat.ne_of_gt (Heap.lt_size hx)
  have X₁ : K.In h₁ := X.keeps k
  have hx₁ := k _ _ hx
  -- self.by = by
  show wpAny _ _ (execs _ _) _ _ _
  refine wpAny_execs_cons (plainObj_wpAny_Assign_Attribute ?_)
  refine ldC (v := v) hn (by first | rfl | with_unfolding_all rfl | kernel_rfl) (ldC (v := .ref x) hn (by first | rfl | with_unfolding_all rfl | kernel_rfl) ?_)
  refine set_plain X₁ (ox := excO C t0) (od := none) ⟨hx₁, rfl, rfl, trivial⟩ T.sa ?_
  refine exc_osa X₁ hx₁ hcl (show refsVE (.ref C :: bm) = true from hbm) rfl T.noN (fun h₃ tk₃ dx k₃ dn dne hx₃ hn₃ => ?_)
  show wpAny _ _ (execs _ _) _ _ _
  have z : s.heap.objs.size < h₁.objs.size := hn.lt
  exact wpAny_execs_nil (hq h₃ tk₃ dx ⟨fun b o hb e => k₃ b o hb (k b o e), hx₃, Nat.le_of_lt (Nat.lt_of_lt_of_le z dn), dne, hn₃⟩)
theorem made_BadSet (T : BadSetTxt K mg C fI) {v : Value} (X : K.In s.heap) (hlim : s.heap.NoLimit) (hroom : A.depth + 1 < recursionLimit)
    (hq : ∀ h' tk e d, OwnMade s.heap h' e C d v → R (.ok (.ret (.ref e))) { s with heap := h', toks := tk }) :
    codeAny (model prog w) A (.call (.ref C) ⟨[v], []⟩) R s := by
  obtain ⟨nm, q, N, bs, bm, sn, sub, ab, col, dd, k0, k1, k2, k3, k5, hC, hbm⟩ := T.cls
  obtain ⟨hp, g, dr, tk, os⟩ := s
  have k : ∀ b o, hp.get? b = some o → ((hp.push (kdv_tup [v])).push (excO C hp.objs.size)).get? b = some o := fun b o e => Heap.get?_push_of_some _ (Heap.get?_push_of_some _ e)
  have hget : ((hp.push (kdv_tup [v])).push (excO C hp.objs.size)).get? (hp.objs.size + 1) = some (excO C hp.objs.size) := by heap_get
  have hnx : K.lookup (hp.objs.size + 1) = none := by
    cases e : K.lookup (hp.objs.size + 1) with
    | none => rfl
    | some o =>
      have z : hp.get? (hp.objs.size + 1) = some o := X _ _ e
      exact absurd (Nat.lt_of_succ_lt (Heap.lt_size z)) (Nat.lt_irrefl _)
  refine call_own F.excBase_ValueError (fun X => refsVE_contains X bm hbm) (X _ _ hC) (looks_findIn X T.iC) (fun self => bind_fn X self T.tC) (one_size v) ?_
  refine init_BadSet (s := ⟨(hp.push (kdv_tup [v])).push (excO C hp.objs.size), g, dr, tk, os⟩) T (X.keeps k) (hlim.keeps k) hget hnx ?_ fun h' tk' dx ⟨k', hx, dn, dne, hns⟩ => ?_
  · show A.depth + 1 < recursionLimit
    exact hroom
  · have old : ∀ b o, hp.get? b = some o → h'.get? b = some o := fun b o e => k' b o (Nat.ne_of_lt (Nat.lt_succ_of_lt (Heap.lt_size e))) (k b o e)
    have z : hp.objs.size + 1 + 1 ≤ dx := by
      first
        | (simpa only [Heap.size_push] using dn)
        | exact dn
        | (have q := dn; rw [Heap.size_push, Heap.size_push] at q; exact q)
    exact ⟨rfl, hq h' tk' (hp.objs.size + 1) dx ⟨old, Nat.le_succ _, ⟨_, _, hx, rfl, rfl, rfl, rfl, (by show (4 : Nat) < 6; decide)⟩, Nat.le_trans (Nat.le_trans (Nat.le_succ _) (Nat.le_succ _)) z, dne, hns⟩⟩
end
end BadSetX
end PySem
namespace L2
open PySem PySem.Spec PyProof.Rows
theorem relO_BadSet {v : V} {v' : Value} (r : RelV v v') (f : Str) : RelO (List.lookup f [(("place" : Str), v)]) (if f = "place" then some v' else none) := by
  by_cases hw : f = "place"
  · subst hw
    rw [if_pos rfl]
    have q : List.lookup ("place" : Str) [(("place" : Str), v)] = some v := by simp [List.lookup]
    rw [q]
    exact r
  · rw [if_neg hw]
    have qw : (f == ("place" : Str)) = false := by simpa using hw
    have q2 : List.lookup f [(("place" : Str), v)] = none := by simp [List.lookup, qw]
    rw [q2]
    trivial
section
variable {X : Cx} {C fI : Addr}
/-- Low(e) -/
def tMkBadSet (C : Addr) (ta : TA) : St → Hp → XK → Prop := fun σ H Q => ta σ H fun vs H1 => ∃ v, vs = [v] ∧ ∀ d, H1 d = none → Q (.ref C) (some d) (upd H1 d (.xd [(("place" : Str), v)]))
theorem pmk_BadSet {a : Expr} {ta : TA} {p pos : Pos} {k : Nat} (T : PySem.BadSetX.BadSetTxt X.K X.mg C fI) (hr : Room k X.A) (ha : PA X [a] ta) (hg : Gl X "BadSet" := by rfl)
    (he : starEach (a :: []) X.env = (false, eval a X.env) :: starEach [] X.env := by rfl) (hpl : (backTo pos (starEach [] X.env)).any (·.1) = false := by rfl) :
    PMk X (.Call (.Name "BadSet" p) [a] [] pos) (tMkBadSet C ta) := by
  intro pins s σ H Q I h
  refine wpAny_Call_Name_kw (ld_glob I hg T.gC ?_)
  refine PySem.W.callWith_K (h₀ := X.base) I.ok.mod.kin T.kC (thn (ha.run pos pins s σ H _ I h) fun us s1 hh => ?_) he hpl
  obtain ⟨vs, H1, I1, r1, v, ev, q1⟩ := hh
  subst ev
  refine ⟨I1.kIn, ?_⟩
  cases r1 with
  | cons rv rn =>
    rename_i v' us'
    cases rn
    show wpAny _ _ (call (.ref C) [v']) _ _ _
    have hlim := I1.nolimit
    obtain ⟨hp, g, dr, tk, os⟩ := s1
    refine wpAny_call (PySem.BadSetX.made_BadSet T I1.kIn hlim (by have := hr.dp; omega) fun h' tk' e d M => ?_)
    show MkP X pins σ Q (.ref e) ⟨h', g, dr, tk', os⟩
    obtain ⟨oe, fv, hoe, hc, hd, hdat, h1, _⟩ := M.obj
    have hns := M.ns
    obtain ⟨G', g1, g2⟩ := restrict h' fun b => decide (b ≠ e)
    have gk : ∀ b, b ≠ e → G'.get? b = h'.get? b := fun b hb => g1 b (decide_eq_true hb)
    have ge : G'.get? e = none := g2 e (by simp)
    have old : ∀ b o, hp.get? b = some o → G'.get? b = some o := fun b o q => (gk b (Nat.ne_of_lt (Nat.lt_of_lt_of_le (Heap.lt_size q) M.new))).trans (M.keep b o q)
    have ob : ObjOk X.prog X.w (upd H1 d (.xd [(("place" : Str), v)])) G' d (.xd [(("place" : Str), v)]) :=
      ⟨_, hns.at (fun o q => (gk d M.dne).trans q), fun f => relO_BadSet rv f⟩
    have J : Inv X pins σ (upd H1 d (.xd [(("place" : Str), v)])) ⟨G', g, dr, tk', os⟩ := I1.laid (t' := tk') old M.dbig ob
    refine ⟨e, oe, fv, ⟨G', g, dr, tk', os⟩, _, .ref C, some d, rfl, J, fun b o q => ?_, ge, hoe, ⟨hc, hd⟩, hdat, h1, ?_, rfl, I1.bare, raises_own T.exC T.tyC, q1 d (I1.hok.fresh M.dbig)⟩
    · by_cases hb : b = e
      · have q' : G'.get? b = some o := q
        rw [hb, ge] at q'; cases q'
      · exact (gk b hb).symm.trans q
    · rw [upd_ne (Ne.symm M.dne)]
      exact I1.hok.fresh M.new
/-- raise Low(e) -/
def tRaiseBadSet (C : Addr) (W : WX) (ta : TA) : TS := fun _ σ H => tMkBadSet C ta σ H fun cls d H' => W cls d σ H'
theorem ps_raiseBadSet {a : Expr} {ta : TA} {W : WX} {p pos pos2 : Pos} {k : Nat} (hc : X.calm = true) (T : PySem.BadSetX.BadSetTxt X.K X.mg C fI) (hr : Room k X.A) (tk : Takes X W) (ha : PA X [a] ta) (hg : Gl X "BadSet" := by rfl)
    (he : starEach (a :: []) X.env = (false, eval a X.env) :: starEach [] X.env := by rfl) (hpl : (backTo pos (starEach [] X.env)).any (·.1) = false := by rfl) :
    PS X (.Raise (some (.Call (.Name "BadSet" p) [a] [] pos)) none pos2) (tRaiseBadSet C W ta) := ps_raise hc tk (pmk_BadSet T hr ha hg he hpl)
/-- low.by, low the exception that the suite holds (at a; its class cls, its dict d) -/
def tByBadSet (C : Addr) (a : Addr) (cls : Value) (d : Option Addr) (te : TE) : TE := fun σ H Q => te σ H fun x H1 => x = .ref a ∧ cls = .ref C ∧ ∃ (dd : Addr) (v : V), d = some dd ∧ H1 dd = some (.xd [(("place" : Str), v)]) ∧ Q v H1
theorem pe_byBadSet {a : Addr} {oe : Obj} {cls : Value} {d : Option Addr} {pn : List (Addr × Obj)} {e : Expr} {te : TE} {pos : Pos} (T : PySem.BadSetX.BadSetTxt X.K X.mg C fI) (hz : Zc cls d oe) (hf : ∃ vs, oe.data = .fields vs) (he : PE (X.suite a ((a, oe) :: pn)) e te)
    (hb : attributeBase e "place" X.env (eval e X.env) = eval e X.env := by rfl) :
    PE (X.suite a ((a, oe) :: pn)) (.Attribute e "place" pos) (tByBadSet C a cls d te) := by
  refine ⟨fun pins s σ H Q I h => ?_⟩
  refine attr_of hb (thn (he.run pins s σ H _ I h) fun u s1 hh => ?_)
  obtain ⟨x, H1, I1, rx, ex, ec, dd, v, ed, ea, q⟩ := hh
  subst ex
  obtain rfl : u = Value.ref a := rx
  subst ec
  subst ed
  obtain ⟨ha, _⟩ := I1.pin (a, oe) (List.mem_append_left _ List.mem_cons_self)
  obtain ⟨vs, hd⟩ := hf
  have hx : ObjOk X.prog X.w H1 s1.heap dd (.xd [(("place" : Str), v)]) := I1.hok dd _ ea
  obtain ⟨mA, hns, hr⟩ := hx
  obtain ⟨od, ho, hl⟩ := lookIn_ns hns
  have l : List.lookup ("place" : Str) [(("place" : Str), v)] = some v := by simp [List.lookup]
  obtain ⟨u, hu, ru⟩ := RelO.some_of (v := v) (o := mA "place") (by rw [← l]; exact hr "place")
  have J : PySem.W.InstAt s1.heap a oe C (some od) := ⟨ha, hz.1, by unfold PySem.W.notCls; rw [hd] <;> rfl, by rw [hz.2]; exact ho⟩
  exact HandSPX.exc_get I1.kIn J T.ga T.gg T.exC (PySem.W.findObj_own T.hdC T.noN rfl (by rw [hl, hu])) (handed_of ru) ⟨v, H1, I1.tok _, ru, q⟩
end
end L2



namespace PySem
namespace BadPartX
open PySem.W PySem.Calls PyProof.Rows PySem.HandSPX
/-! ### the text of __init__ -/
def iA (p1 p2 : Pos) : Arguments := { posonlyargs := [], args := [{ arg := "self", annotation := none, pos := p1 }, { arg := "part", annotation := none, pos := p2 }], vararg := none, kwonlyargs := [], kw_defaults := [], kwarg := none, defaults := [] }
def iB (q1 q2 q3 q4 : Pos) : List Stmt := [.Assign [.Attribute (.Name "self" q1) "part" q2] (.Name "part" q3) q4]
def iS : Scope := { kind := .function, names := [(PySem.Str.ofString "self", .local), (PySem.Str.ofString "part", .local)], isGenerator := false, isCoroutine := false, more := [] }
/-- what the written part says of Low, at C, and of its __init__, at fI -/
structure BadPartTxt (K : Frag) (mg : Str → Option Value) (C fI : Addr) : Prop where
  gC : mg "BadPart" = some (.ref C)
  cls : ∃ nm q N bs bm sn sub ab col dd k0 k1 k2 k3 k5, K.lookup C = some (excClassObj nm q C N bs bm true sn sub ab col dd k0 k1 k2 k3 k5 "ValueError.__new__") ∧ refsVE bm = true
  sa : findIn K (.ref C) "__setattr__" = some (some (.builtin "object.__setattr__"))
  ga : findIn K (.ref C) "__getattribute__" = some (some (.builtin "BaseException.__getattribute__"))
  gg : findIn K (.ref C) "__getattr__" = some none
  noN : findIn K (.ref C) "part" = some none
  iC : findIn K (.ref C) "__init__" = some (some (.ref fI))
  tC : typeIn K (.ref fI) = some (.type "function")
  kC : keepIn K (.ref C) = true
  exC : subIn K (.ref C) (.type "BaseException") = some true
  tyC : typeIn K (.ref C) = some (.type "type")
  hdC : hasDictIn K C = true
  te : exmOne K (.ref C) (.ref C) = some true
  fn : ∃ (oc : Value) (od : Option Addr) (kV doc pm : Value) (an : Option Addr) (cdv ct : Value) (osl : Array (Option Value)) (p1 p2 q1 q2 q3 q4 : Pos),
    K.lookup fI = some ⟨oc, od, .func (fnOf "__init__" "BadPart.__init__" (iA p1 p2) (iB q1 q2 q3 q4) iS .none kV doc pm an cdv ct), osl⟩ ∧ codeIn K cdv "BadPart.__init__" = true
theorem one_size (v : Value) : [v].length ≤ sizeLine := by
  rw [sizeLine_eq]
  exact (by decide : 1 ≤ 16777216)
theorem kept_but {K : Frag} {h h' : Heap} {x : Addr} (X : K.In h) (hx : K.lookup x = none) (k : ∀ b o, b ≠ x → h.get? b = some o → h'.get? b = some o) : K.In h' := fun a o e =>
  k a o (fun z => by rw [z, hx] at e; cases e) (X a o e)
theorem ldC {M : Model} {s : Shared} {name : Str} {scope : Scope} {L a : Addr} {cd : Value} {m : Str → Option Value} {x : Str} {pos : Pos} {v : Value} {Q : Value → Shared → Prop} {A : Around} {E : Value → Shared → Prop} (hn : s.heap.Ns L m) (hv : m x = some v) (h : Q v s)
    (hk : scope.kind = .function := by rfl) (hl : (envOfC name scope L a cd).kindOf x = some .local := by rfl) (hd : (x == ("__debug__" : Str)) = false := by decide) :
    wpAny M A (eval (.Name x pos) (envOfC name scope L a cd)) Q E s := wpAny_Name (wpAny_loadName_local hk hl hn hv h) hd
/-- what __init__ leaves of a fresh exception at x -/
structure InitEnd (h h' : Heap) (x C dx t1 : Addr) (v : Value) : Prop where
  keep : ∀ b o, b ≠ x → h.get? b = some o → h'.get? b = some o
  obj : h'.get? x = some { cls := .ref C, dict := some dx, data := .fields #[.ref t1, .none, .none, .none, .bool false, .none] }
  dbig : h.objs.size ≤ dx
  dne : dx ≠ x
  ns : h'.Ns1 dx (fun y => if y = "part" then some v else none)
/-- a made Low -/
structure OwnMade (h h' : Heap) (e C d : Addr) (v : Value) : Prop where
  keep : ∀ b o, h.get? b = some o → h'.get? b = some o
  new : h.objs.size ≤ e
  obj : ∃ oe vs, h'.get? e = some oe ∧ oe.cls = .ref C ∧ oe.dict = some d ∧ oe.data = .fields vs ∧ vs[1]? = some .none ∧ 4 < vs.size
  dbig : h.objs.size ≤ d
  dne : d ≠ e
  ns : h'.Ns1 d (fun y => if y = "part" then some v else none)
section
variable {prog : Program} {w : World} {A : Around} {E : Value → Shared → Prop} {R : Result → Shared → Prop} {s : Shared} {K : Frag} {mg : Str → Option Value} {C fI : Addr}
theorem init_BadPart (T : BadPartTxt K mg C fI) {x t0 : Addr} {v : Value} (X : K.In s.heap) (hlim : s.heap.NoLimit) (hx : s.heap.get? x = some (excO C t0)) (hnx : K.lookup x = none) (hroom : A.depth < recursionLimit)
    (hq : ∀ h' tk dx, InitEnd s.heap h' x C dx t0 v → R (.ok (.ret .none)) { s with heap := h', toks := tk }) :
    codeAny (model prog w) A (.call (.ref fI) ⟨[.ref x, v], []⟩) R s := by
  obtain ⟨oc, od, kV, doc, pm, an, cdv, ct, osl, p1, p2, q1, q2, q3, q4, ho, hcd⟩ := T.fn
  obtain ⟨nm, q, N, bs, bm, sn, sub, ab, col, dd, k0, k1, k2, k3, k5, hC, hbm⟩ := T.cls
  have hcl : clsIn K C = some { name := nm, bases := bs, mro := .ref C :: bm, ns := N, qualname := q, hasDict := true, slotNames := sn, subclasses := sub, abstract := ab, collection := col, hasDel := false } := by unfold clsIn; rw [hC] <;> rfl
  refine Att.call_fn (binds := [("self", .ref x), ("part", v)]) X hlim ho hcd hroom (BindsTo.of_eq (by first | rfl | with_unfolding_all rfl)) (by first | rfl | decide | with_unfolding_all rfl) (fun s₁ IC => ?_) rfl rfl rfl
  obtain ⟨h₁, tk₁, rfl⟩ := IC.toInCall.same
  have k : ∀ b o, s.heap.get? b = some o → h₁.get? b = some o := IC.toInCall.keep
  have hn := IC.toInCall.ns
  have hxL : s.heap.objs.size ≠ x := Nat.ne_of_gt (Heap.lt_size hx)
  have X₁ : K.In h₁ := X.keeps k
  have hx₁ := k _ _ hx
  -- self.by = by
  show wpAny _ _ (execs _ _) _ _ _
  refine wpAny_execs_cons (plainObj_wpAny_Assign_Attribute ?_)
  refine ldC (v := v) hn (by first | rfl | with_unfolding_all rfl | kernel_rfl) (ldC (v := .ref x) hn (by first | rfl | with_unfolding_all rfl | kernel_rfl) ?_)
  refine set_plain X₁ (ox := excO C t0) (od := none) ⟨hx₁, rfl, rfl, trivial⟩ T.sa ?_
  refine exc_osa X₁ hx₁ hcl (show refsVE (.ref C :: bm) = true from hbm) rfl T.noN (fun h₃ tk₃ dx k₃ dn dne hx₃ hn₃ => ?_)
  show wpAny _ _ (execs _ _) _ _ _
  have z : s.heap.objs.size < h₁.objs.size := hn.lt
  exact wpAny_execs_nil (hq h₃ tk₃ dx ⟨fun b o hb e => k₃ b o hb (k b o e), hx₃, Nat.le_of_lt (Nat.lt_of_lt_of_le z dn), dne, hn₃⟩)
theorem made_BadPart (T : BadPartTxt K mg C fI) {v : Value} (X : K.In s.heap) (hlim : s.heap.NoLimit) (hroom : A.depth + 1 < recursionLimit)
    (hq : ∀ h' tk e d, OwnMade s.heap h' e C d v → R (.ok (.ret (.ref e))) { s with heap := h', toks := tk }) :
    codeAny (model prog w) A (.call (.ref C) ⟨[v], []⟩) R s := by
  obtain ⟨nm, q, N, bs, bm, sn, sub, ab, col, dd, k0, k1, k2, k3, k5, hC, hbm⟩ := T.cls
  obtain ⟨hp, g, dr, tk, os⟩ := s
  have k : ∀ b o, hp.get? b = some o → ((hp.push (kdv_tup [v])).push (excO C hp.objs.size)).get? b = some o := fun b o e => Heap.get?_push_of_some _ (Heap.get?_push_of_some _ e)
  have hget : ((hp.push (kdv_tup [v])).push (excO C hp.objs.size)).get? (hp.objs.size + 1) = some (excO C hp.objs.size) := by heap_get
  have hnx : K.lookup (hp.objs.size + 1) = none := by
    cases e : K.lookup (hp.objs.size + 1) with
    | none => rfl
    | some o =>
      have z : hp.get? (hp.objs.size + 1) = some o := X _ _ e
      exact absurd (Nat.lt_of_succ_lt (Heap.lt_size z)) (Nat.lt_irrefl _)
  refine call_own F.excBase_ValueError (fun X => refsVE_contains X bm hbm) (X _ _ hC) (looks_findIn X T.iC) (fun self => bind_fn X self T.tC) (one_size v) ?_
  refine init_BadPart (s := ⟨(hp.push (kdv_tup [v])).push (excO C hp.objs.size), g, dr, tk, os⟩) T (X.keeps k) (hlim.keeps k) hget hnx ?_ fun h' tk' dx ⟨k', hx, dn, dne, hns⟩ => ?_
  · show A.depth + 1 < recursionLimit
    exact hroom
  · have old : ∀ b o, hp.get? b = some o → h'.get? b = some o := fun b o e => k' b o (Nat.ne_of_lt (Nat.lt_succ_of_lt (Heap.lt_size e))) (k b o e)
    have z : hp.objs.size + 1 + 1 ≤ dx := by
      first
        | (simpa only [Heap.size_push] using dn)
        | exact dn
        | (have q := dn; rw [Heap.size_push, Heap.size_push] at q; exact q)
    exact ⟨rfl, hq h' tk' (hp.objs.size + 1) dx ⟨old, Nat.le_succ _, ⟨_, _, hx, rfl, rfl, rfl, rfl, (by show (4 : Nat) < 6; decide)⟩, Nat.le_trans (Nat.le_trans (Nat.le_succ _) (Nat.le_succ _)) z, dne, hns⟩⟩
end
end BadPartX
end PySem
namespace L2
open PySem PySem.Spec PyProof.Rows
theorem relO_BadPart {v : V} {v' : Value} (r : RelV v v') (f : Str) : RelO (List.lookup f [(("part" : Str), v)]) (if f = "part" then some v' else none) := by
  by_cases hw : f = "part"
  · subst hw
    rw [if_pos rfl]
    have q : List.lookup ("part" : Str) [(("part" : Str), v)] = some v := by simp [List.lookup]
    rw [q]
    exact r
  · rw [if_neg hw]
    have qw : (f == ("part" : Str)) = false := by simpa using hw
    have q2 : List.lookup f [(("part" : Str), v)] = none := by simp [List.lookup, qw]
    rw [q2]
    trivial
section
variable {X : Cx} {C fI : Addr}
/-- Low(e) -/
def tMkBadPart (C : Addr) (ta : TA) : St → Hp → XK → Prop := fun σ H Q => ta σ H fun vs H1 => ∃ v, vs = [v] ∧ ∀ d, H1 d = none → Q (.ref C) (some d) (upd H1 d (.xd [(("part" : Str), v)]))
theorem pmk_BadPart {a : Expr} {ta : TA} {p pos : Pos} {k : Nat} (T : PySem.BadPartX.BadPartTxt X.K X.mg C fI) (hr : Room k X.A) (ha : PA X [a] ta) (hg : Gl X "BadPart" := by rfl)
    (he : starEach (a :: []) X.env = (false, eval a X.env) :: starEach [] X.env := by rfl) (hpl : (backTo pos (starEach [] X.env)).any (·.1) = false := by rfl) :
    PMk X (.Call (.Name "BadPart" p) [a] [] pos) (tMkBadPart C ta) := by
  intro pins s σ H Q I h
  refine wpAny_Call_Name_kw (ld_glob I hg T.gC ?_)
  refine PySem.W.callWith_K (h₀ := X.base) I.ok.mod.kin T.kC (thn (ha.run pos pins s σ H _ I h) fun us s1 hh => ?_) he hpl
  obtain ⟨vs, H1, I1, r1, v, ev, q1⟩ := hh
  subst ev
  refine ⟨I1.kIn, ?_⟩
  cases r1 with
  | cons rv rn =>
    rename_i v' us'
    cases rn
    show wpAny _ _ (call (.ref C) [v']) _ _ _
    have hlim := I1.nolimit
    obtain ⟨hp, g, dr, tk, os⟩ := s1
    refine wpAny_call (PySem.BadPartX.made_BadPart T I1.kIn hlim (by have := hr.dp; omega) fun h' tk' e d M => ?_)
    show MkP X pins σ Q (.ref e) ⟨h', g, dr, tk', os⟩
    obtain ⟨oe, fv, hoe, hc, hd, hdat, h1, _⟩ := M.obj
    have hns := M.ns
    obtain ⟨G', g1, g2⟩ := restrict h' fun b => decide (b ≠ e)
    have gk : ∀ b, b ≠ e → G'.get? b = h'.get? b := fun b hb => g1 b (decide_eq_true hb)
    have ge : G'.get? e = none := g2 e (by simp)
    have old : ∀ b o, hp.get? b = some o → G'.get? b = some o := fun b o q => (gk b (Nat.ne_of_lt (Nat.lt_of_lt_of_le (Heap.lt_size q) M.new))).trans (M.keep b o q)
    have ob : ObjOk X.prog X.w (upd H1 d (.xd [(("part" : Str), v)])) G' d (.xd [(("part" : Str), v)]) :=
      ⟨_, hns.at (fun o q => (gk d M.dne).trans q), fun f => relO_BadPart rv f⟩
    have J : Inv X pins σ (upd H1 d (.xd [(("part" : Str), v)])) ⟨G', g, dr, tk', os⟩ := I1.laid (t' := tk') old M.dbig ob
    refine ⟨e, oe, fv, ⟨G', g, dr, tk', os⟩, _, .ref C, some d, rfl, J, fun b o q => ?_, ge, hoe, ⟨hc, hd⟩, hdat, h1, ?_, rfl, I1.bare, raises_own T.exC T.tyC, q1 d (I1.hok.fresh M.dbig)⟩
    · by_cases hb : b = e
      · have q' : G'.get? b = some o := q
        rw [hb, ge] at q'; cases q'
      · exact (gk b hb).symm.trans q
    · rw [upd_ne (Ne.symm M.dne)]
      exact I1.hok.fresh M.new
/-- raise Low(e) -/
def tRaiseBadPart (C : Addr) (W : WX) (ta : TA) : TS := fun _ σ H => tMkBadPart C ta σ H fun cls d H' => W cls d σ H'
theorem ps_raiseBadPart {a : Expr} {ta : TA} {W : WX} {p pos pos2 : Pos} {k : Nat} (hc : X.calm = true) (T : PySem.BadPartX.BadPartTxt X.K X.mg C fI) (hr : Room k X.A) (tk : Takes X W) (ha : PA X [a] ta) (hg : Gl X "BadPart" := by rfl)
    (he : starEach (a :: []) X.env = (false, eval a X.env) :: starEach [] X.env := by rfl) (hpl : (backTo pos (starEach [] X.env)).any (·.1) = false := by rfl) :
    PS X (.Raise (some (.Call (.Name "BadPart" p) [a] [] pos)) none pos2) (tRaiseBadPart C W ta) := ps_raise hc tk (pmk_BadPart T hr ha hg he hpl)
/-- low.by, low the exception that the suite holds (at a; its class cls, its dict d) -/
def tByBadPart (C : Addr) (a : Addr) (cls : Value) (d : Option Addr) (te : TE) : TE := fun σ H Q => te σ H fun x H1 => x = .ref a ∧ cls = .ref C ∧ ∃ (dd : Addr) (v : V), d = some dd ∧ H1 dd = some (.xd [(("part" : Str), v)]) ∧ Q v H1
theorem pe_byBadPart {a : Addr} {oe : Obj} {cls : Value} {d : Option Addr} {pn : List (Addr × Obj)} {e : Expr} {te : TE} {pos : Pos} (T : PySem.BadPartX.BadPartTxt X.K X.mg C fI) (hz : Zc cls d oe) (hf : ∃ vs, oe.data = .fields vs) (he : PE (X.suite a ((a, oe) :: pn)) e te)
    (hb : attributeBase e "part" X.env (eval e X.env) = eval e X.env := by rfl) :
    PE (X.suite a ((a, oe) :: pn)) (.Attribute e "part" pos) (tByBadPart C a cls d te) := by
  refine ⟨fun pins s σ H Q I h => ?_⟩
  refine attr_of hb (thn (he.run pins s σ H _ I h) fun u s1 hh => ?_)
  obtain ⟨x, H1, I1, rx, ex, ec, dd, v, ed, ea, q⟩ := hh
  subst ex
  obtain rfl : u = Value.ref a := rx
  subst ec
  subst ed
  obtain ⟨ha, _⟩ := I1.pin (a, oe) (List.mem_append_left _ List.mem_cons_self)
  obtain ⟨vs, hd⟩ := hf
  have hx : ObjOk X.prog X.w H1 s1.heap dd (.xd [(("part" : Str), v)]) := I1.hok dd _ ea
  obtain ⟨mA, hns, hr⟩ := hx
  obtain ⟨od, ho, hl⟩ := lookIn_ns hns
  have l : List.lookup ("part" : Str) [(("part" : Str), v)] = some v := by simp [List.lookup]
  obtain ⟨u, hu, ru⟩ := RelO.some_of (v := v) (o := mA "part") (by rw [← l]; exact hr "part")
  have J : PySem.W.InstAt s1.heap a oe C (some od) := ⟨ha, hz.1, by unfold PySem.W.notCls; rw [hd] <;> rfl, by rw [hz.2]; exact ho⟩
  exact HandSPX.exc_get I1.kIn J T.ga T.gg T.exC (PySem.W.findObj_own T.hdC T.noN rfl (by rw [hl, hu])) (handed_of ru) ⟨v, H1, I1.tok _, ru, q⟩
end
end L2



namespace PySem
namespace IsGoneX
open PySem.W PySem.Calls PyProof.Rows PySem.HandSPX
/-! ### the text of __init__ -/
def iA (p1 p2 : Pos) : Arguments := { posonlyargs := [], args := [{ arg := "self", annotation := none, pos := p1 }, { arg := "part", annotation := none, pos := p2 }], vararg := none, kwonlyargs := [], kw_defaults := [], kwarg := none, defaults := [] }
def iB (q1 q2 q3 q4 : Pos) : List Stmt := [.Assign [.Attribute (.Name "self" q1) "part" q2] (.Name "part" q3) q4]
def iS : Scope := { kind := .function, names := [(PySem.Str.ofString "self", .local), (PySem.Str.ofString "part", .local)], isGenerator := false, isCoroutine := false, more := [] }
/-- what the written part says of Low, at C, and of its __init__, at fI -/
structure IsGoneTxt (K : Frag) (mg : Str → Option Value) (C fI : Addr) : Prop where
  gC : mg "IsGone" = some (.ref C)
  cls : ∃ nm q N bs bm sn sub ab col dd k0 k1 k2 k3 k5, K.lookup C = some (excClassObj nm q C N bs bm true sn sub ab col dd k0 k1 k2 k3 k5 "ValueError.__new__") ∧ refsVE bm = true
  sa : findIn K (.ref C) "__setattr__" = some (some (.builtin "object.__setattr__"))
  ga : findIn K (.ref C) "__getattribute__" = some (some (.builtin "BaseException.__getattribute__"))
  gg : findIn K (.ref C) "__getattr__" = some none
  noN : findIn K (.ref C) "part" = some none
  iC : findIn K (.ref C) "__init__" = some (some (.ref fI))
  tC : typeIn K (.ref fI) = some (.type "function")
  kC : keepIn K (.ref C) = true
  exC : subIn K (.ref C) (.type "BaseException") = some true
  tyC : typeIn K (.ref C) = some (.type "type")
  hdC : hasDictIn K C = true
  te : exmOne K (.ref C) (.ref C) = some true
  fn : ∃ (oc : Value) (od : Option Addr) (kV doc pm : Value) (an : Option Addr) (cdv ct : Value) (osl : Array (Option Value)) (p1 p2 q1 q2 q3 q4 : Pos),
    K.lookup fI = some ⟨oc, od, .func (fnOf "__init__" "IsGone.__init__" (iA p1 p2) (iB q1 q2 q3 q4) iS .none kV doc pm an cdv ct), osl⟩ ∧ codeIn K cdv "IsGone.__init__" = true
theorem one_size (v : Value) : [v].length ≤ sizeLine := by
  rw [sizeLine_eq]
  exact (by decide : 1 ≤ 16777216)
theorem kept_but {K : Frag} {h h' : Heap} {x : Addr} (X : K.In h) (hx : K.lookup x = none) (k : ∀ b o, b ≠ x → h.get? b = some o → h'.get? b = some o) : K.In h' := fun a o e =>
  k a o (fun z => by rw [z, hx] at e; cases e) (X a o e)
theorem ldC {M : Model} {s : Shared} {name : Str} {scope : Scope} {L a : Addr} {cd : Value} {m : Str → Option Value} {x : Str} {pos : Pos} {v : Value} {Q : Value → Shared → Prop} {A : Around} {E : Value → Shared → Prop} (hn : s.heap.Ns L m) (hv : m x = some v) (h : Q v s)
    (hk : scope.kind = .function := by rfl) (hl : (envOfC name scope L a cd).kindOf x = some .local := by rfl) (hd : (x == ("__debug__" : Str)) = false := by decide) :
    wpAny M A (eval (.Name x pos) (envOfC name scope L a cd)) Q E s := wpAny_Name (wpAny_loadName_local hk hl hn hv h) hd
/-- what __init__ leaves of a fresh exception at x -/
structure InitEnd (h h' : Heap) (x C dx t1 : Addr) (v : Value) : Prop where
  keep : ∀ b o, b ≠ x → h.get? b = some o → h'.get? b = some o
  obj : h'.get? x = some { cls := .ref C, dict := some dx, data := .fields #[.ref t1, .none, .none, .none, .bool false, .none] }
  dbig : h.objs.size ≤ dx
  dne : dx ≠ x
  ns : h'.Ns1 dx (fun y => if y = "part" then some v else none)
/-- a made Low -/
structure OwnMade (h h' : Heap) (e C d : Addr) (v : Value) : Prop where
  keep : ∀ b o, h.get? b = some o → h'.get? b = some o
  new : h.objs.size ≤ e
  obj : ∃ oe vs, h'.get? e = some oe ∧ oe.cls = .ref C ∧ oe.dict = some d ∧ oe.data = .fields vs ∧ vs[1]? = some .none ∧ 4 < vs.size
  dbig : h.objs.size ≤ d
  dne : d ≠ e
  ns : h'.Ns1 d (fun y => if y = "part" then some v else none)
section
variable {prog : Program} {w : World} {A : Around} {E : Value → Shared → Prop} {R : Result → Shared → Prop} {s : Shared} {K : Frag} {mg : Str → Option Value} {C fI : Addr}
theorem init_IsGone (T : IsGoneTxt K mg C fI) {x t0 : Addr} {v : Value} (X : K.In s.heap) (hlim : s.heap.NoLimit) (hx : s.heap.get? x = some (excO C t0)) (hnx : K.lookup x = none) (hroom : A.depth < recursionLimit)
    (hq : ∀ h' tk dx, InitEnd s.heap h' x C dx t0 v → R (.ok (.ret .none)) { s with heap := h', toks := tk }) :
    codeAny (model prog w) A (.call (.ref fI) ⟨[.ref x, v], []⟩) R s := by
  obtain ⟨oc, od, kV, doc, pm, an, cdv, ct, osl, p1, p2, q1, q2, q3, q4, ho, hcd⟩ := T.fn
  obtain ⟨nm, q, N, bs, bm, sn, sub, ab, col, dd, k0, k1, k2, k3, k5, hC, hbm⟩ := T.cls
  have hcl : clsIn K C = some { name := nm, bases := bs, mro := .ref C :: bm, ns := N, qualname := q, hasDict := true, slotNames := sn, subclasses := sub, abstract := ab, collection := col, hasDel := false } := by unfold clsIn; rw [hC] <;> rfl
  refine Att.call_fn (binds := [("self", .ref x), ("part", v)]) X hlim ho hcd hroom (BindsTo.of_eq (by first | rfl | with_unfolding_all rfl)) (by first | rfl | decide | with_unfolding_all rfl) (fun s₁ IC => ?_) rfl rfl rfl
  obtain ⟨h₁, tk₁, rfl⟩ := IC.toInCall.same
  have k : ∀ b o, s.heap.get? b = some o → h₁.get? b = some o := IC.toInCall.keep
  have hn := IC.toInCall.ns
  have hxL : s.heap.objs.size ≠ x := Nat.ne_of_gt (Heap.lt_size hx)
  have X₁ : K.In h₁ := X.keeps k
  have hx₁ := k _ _ hx
  -- self.by = by
  show wpAny _ _ (execs _ _) _ _ _
  refine wpAny_execs_cons (plainObj_wpAny_Assign_Attribute ?_)
  refine ldC (v := v) hn (by first | rfl | with_unfolding_all rfl | kernel_rfl) (ldC (v := .ref x) hn (by first | rfl | with_unfolding_all rfl | kernel_rfl) ?_)
  refine set_plain X₁ (ox := excO C t0) (od := none) ⟨hx₁, rfl, rfl, trivial⟩ T.sa ?_
  refine exc_osa X₁ hx₁ hcl (show refsVE (.ref C :: bm) = true from hbm) rfl T.noN (fun h₃ tk₃ dx k₃ dn dne hx₃ hn₃ => ?_)
  show wpAny _ _ (execs _ _) _ _ _
  have z : s.heap.objs.size < h₁.objs.size := hn.lt
  exact wpAny_execs_nil (hq h₃ tk₃ dx ⟨fun b o hb e => k₃ b o hb (k b o e), hx₃, Nat.le_of_lt (Nat.lt_of_lt_of_le z dn), dne, hn₃⟩)
theorem made_IsGone (T : IsGoneTxt K mg C fI) {v : Value} (X : K.In s.heap) (hlim : s.heap.NoLimit) (hroom : A.depth + 1 < recursionLimit)
    (hq : ∀ h' tk e d, OwnMade s.heap h' e C d v → R (.ok (.ret (.ref e))) { s with heap := h', toks := tk }) :
    codeAny (model prog w) A (.call (.ref C) ⟨[v], []⟩) R s := by
  obtain ⟨nm, q, N, bs, bm, sn, sub, ab, col, dd, k0, k1, k2, k3, k5, hC, hbm⟩ := T.cls
  obtain ⟨hp, g, dr, tk, os⟩ := s
  have k : ∀ b o, hp.get? b = some o → ((hp.push (kdv_tup [v])).push (excO C hp.objs.size)).get? b = some o := fun b o e => Heap.get?_push_of_some _ (Heap.get?_push_of_some _ e)
  have hget : ((hp.push (kdv_tup [v])).push (excO C hp.objs.size)).get? (hp.objs.size + 1) = some (excO C hp.objs.size) := by heap_get
  have hnx : K.lookup (hp.objs.size + 1) = none := by
    cases e : K.lookup (hp.objs.size + 1) with
    | none => rfl
    | some o =>
      have z : hp.get? (hp.objs.size + 1) = some o := X _ _ e
      exact absurd (Nat.lt_of_succ_lt (Heap.lt_size z)) (Nat.lt_irrefl _)
  refine call_own F.excBase_ValueError (fun X => refsVE_contains X bm hbm) (X _ _ hC) (looks_findIn X T.iC) (fun self => bind_fn X self T.tC) (one_size v) ?_
  refine init_IsGone (s := ⟨(hp.push (kdv_tup [v])).push (excO C hp.objs.size), g, dr, tk, os⟩) T (X.keeps k) (hlim.keeps k) hget hnx ?_ fun h' tk' dx ⟨k', hx, dn, dne, hns⟩ => ?_
  · show A.depth + 1 < recursionLimit
    exact hroom
  · have old : ∀ b o, hp.get? b = some o → h'.get? b = some o := fun b o e => k' b o (Nat.ne_of_lt (Nat.lt_succ_of_lt (Heap.lt_size e))) (k b o e)
    have z : hp.objs.size + 1 + 1 ≤ dx := by
      first
        | (simpa only [Heap.size_push] using dn)
        | exact dn
        | (have q := dn; rw [Heap.size_push, Heap.size_push] at q; exact q)
    exact ⟨rfl, hq h' tk' (hp.objs.size + 1) dx ⟨old, Nat.le_succ _, ⟨_, _, hx, rfl, rfl, rfl, rfl, (by show (4 : Nat) < 6; decide)⟩, Nat.le_trans (Nat.le_trans (Nat.le_succ _) (Nat.le_succ _)) z, dne, hns⟩⟩
end
end IsGoneX
end PySem
namespace L2
open PySem PySem.Spec PyProof.Rows
theorem relO_IsGone {v : V} {v' : Value} (r : RelV v v') (f : Str) : RelO (List.lookup f [(("part" : Str), v)]) (if f = "part" then some v' else none) := by
  by_cases hw : f = "part"
  · subst hw
    rw [if_pos rfl]
    have q : List.lookup ("part" : Str) [(("part" : Str), v)] = some v := by simp [List.lookup]
    rw [q]
    exact r
  · rw [if_neg hw]
    have qw : (f == ("part" : Str)) = false := by simpa using hw
    have q2 : List.lookup f [(("part" : Str), v)] = none := by simp [List.lookup, qw]
    rw [q2]
    trivial
section
variable {X : Cx} {C fI : Addr}
/-- Low(e) -/
def tMkIsGone (C : Addr) (ta : TA) : St → Hp → XK → Prop := fun σ H Q => ta σ H fun vs H1 => ∃ v, vs = [v] ∧ ∀ d, H1 d = none → Q (.ref C) (some d) (upd H1 d (.xd [(("part" : Str), v)]))
theorem pmk_IsGone {a : Expr} {ta : TA} {p pos : Pos} {k : Nat} (T : PySem.IsGoneX.IsGoneTxt X.K X.mg C fI) (hr : Room k X.A) (ha : PA X [a] ta) (hg : Gl X "IsGone" := by rfl)
    (he : starEach (a :: []) X.env = (false, eval a X.env) :: starEach [] X.env := by rfl) (hpl : (backTo pos (starEach [] X.env)).any (·.1) = false := by rfl) :
    PMk X (.Call (.Name "IsGone" p) [a] [] pos) (tMkIsGone C ta) := by
  intro pins s σ H Q I h
  refine wpAny_Call_Name_kw (ld_glob I hg T.gC ?_)
  refine PySem.W.callWith_K (h₀ := X.base) I.ok.mod.kin T.kC (thn (ha.run pos pins s σ H _ I h) fun us s1 hh => ?_) he hpl
  obtain ⟨vs, H1, I1, r1, v, ev, q1⟩ := hh
  subst ev
  refine ⟨I1.kIn, ?_⟩
  cases r1 with
  | cons rv rn =>
    rename_i v' us'
    cases rn
    show wpAny _ _ (call (.ref C) [v']) _ _ _
    have hlim := I1.nolimit
    obtain ⟨hp, g, dr, tk, os⟩ := s1
    refine wpAny_call (PySem.IsGoneX.made_IsGone T I1.kIn hlim (by have := hr.dp; omega) fun h' tk' e d M => ?_)
    show MkP X pins σ Q (.ref e) ⟨h', g, dr, tk', os⟩
    obtain ⟨oe, fv, hoe, hc, hd, hdat, h1, _⟩ := M.obj
    have hns := M.ns
    obtain ⟨G', g1, g2⟩ := restrict h' fun b => decide (b ≠ e)
    have gk : ∀ b, b ≠ e → G'.get? b = h'.get? b := fun b hb => g1 b (decide_eq_true hb)
    have ge : G'.get? e = none := g2 e (by simp)
    have old : ∀ b o, hp.get? b = some o → G'.get? b = some o := fun b o q => (gk b (Nat.ne_of_lt (Nat.lt_of_lt_of_le (Heap.lt_size q) M.new))).trans (M.keep b o q)
    have ob : ObjOk X.prog X.w (upd H1 d (.xd [(("part" : Str), v)])) G' d (.xd [(("part" : Str), v)]) :=
      ⟨_, hns.at (fun o q => (gk d M.dne).trans q), fun f => relO_IsGone rv f⟩
    have J : Inv X pins σ (upd H1 d (.xd [(("part" : Str), v)])) ⟨G', g, dr, tk', os⟩ := I1.laid (t' := tk') old M.dbig ob
    refine ⟨e, oe, fv, ⟨G', g, dr, tk', os⟩, _, .ref C, some d, rfl, J, fun b o q => ?_, ge, hoe, ⟨hc, hd⟩, hdat, h1, ?_, rfl, I1.bare, raises_own T.exC T.tyC, q1 d (I1.hok.fresh M.dbig)⟩
    · by_cases hb : b = e
      · have q' : G'.get? b = some o := q
        rw [hb, ge] at q'; cases q'
      · exact (gk b hb).symm.trans q
    · rw [upd_ne (Ne.symm M.dne)]
      exact I1.hok.fresh M.new
/-- raise Low(e) -/
def tRaiseIsGone (C : Addr) (W : WX) (ta : TA) : TS := fun _ σ H => tMkIsGone C ta σ H fun cls d H' => W cls d σ H'
theorem ps_raiseIsGone {a : Expr} {ta : TA} {W : WX} {p pos pos2 : Pos} {k : Nat} (hc : X.calm = true) (T : PySem.IsGoneX.IsGoneTxt X.K X.mg C fI) (hr : Room k X.A) (tk : Takes X W) (ha : PA X [a] ta) (hg : Gl X "IsGone" := by rfl)
    (he : starEach (a :: []) X.env = (false, eval a X.env) :: starEach [] X.env := by rfl) (hpl : (backTo pos (starEach [] X.env)).any (·.1) = false := by rfl) :
    PS X (.Raise (some (.Call (.Name "IsGone" p) [a] [] pos)) none pos2) (tRaiseIsGone C W ta) := ps_raise hc tk (pmk_IsGone T hr ha hg he hpl)
/-- low.by, low the exception that the suite holds (at a; its class cls, its dict d) -/
def tByIsGone (C : Addr) (a : Addr) (cls : Value) (d : Option Addr) (te : TE) : TE := fun σ H Q => te σ H fun x H1 => x = .ref a ∧ cls = .ref C ∧ ∃ (dd : Addr) (v : V), d = some dd ∧ H1 dd = some (.xd [(("part" : Str), v)]) ∧ Q v H1
theorem pe_byIsGone {a : Addr} {oe : Obj} {cls : Value} {d : Option Addr} {pn : List (Addr × Obj)} {e : Expr} {te : TE} {pos : Pos} (T : PySem.IsGoneX.IsGoneTxt X.K X.mg C fI) (hz : Zc cls d oe) (hf : ∃ vs, oe.data = .fields vs) (he : PE (X.suite a ((a, oe) :: pn)) e te)
    (hb : attributeBase e "part" X.env (eval e X.env) = eval e X.env := by rfl) :
    PE (X.suite a ((a, oe) :: pn)) (.Attribute e "part" pos) (tByIsGone C a cls d te) := by
  refine ⟨fun pins s σ H Q I h => ?_⟩
  refine attr_of hb (thn (he.run pins s σ H _ I h) fun u s1 hh => ?_)
  obtain ⟨x, H1, I1, rx, ex, ec, dd, v, ed, ea, q⟩ := hh
  subst ex
  obtain rfl : u = Value.ref a := rx
  subst ec
  subst ed
  obtain ⟨ha, _⟩ := I1.pin (a, oe) (List.mem_append_left _ List.mem_cons_self)
  obtain ⟨vs, hd⟩ := hf
  have hx : ObjOk X.prog X.w H1 s1.heap dd (.xd [(("part" : Str), v)]) := I1.hok dd _ ea
  obtain ⟨mA, hns, hr⟩ := hx
  obtain ⟨od, ho, hl⟩ := lookIn_ns hns
  have l : List.lookup ("part" : Str) [(("part" : Str), v)] = some v := by simp [List.lookup]
  obtain ⟨u, hu, ru⟩ := RelO.some_of (v := v) (o := mA "part") (by rw [← l]; exact hr "part")
  have J : PySem.W.InstAt s1.heap a oe C (some od) := ⟨ha, hz.1, by unfold PySem.W.notCls; rw [hd] <;> rfl, by rw [hz.2]; exact ho⟩
  exact HandSPX.exc_get I1.kIn J T.ga T.gg T.exC (PySem.W.findObj_own T.hdC T.noN rfl (by rw [hl, hu])) (handed_of ru) ⟨v, H1, I1.tok _, ru, q⟩
end
end L2



namespace PySem
namespace BadDemandX
open PySem.W PySem.Calls PyProof.Rows PySem.HandSPX
/-! ### the text of __init__ -/
def iA (p1 p2 : Pos) : Arguments := { posonlyargs := [], args := [{ arg := "self", annotation := none, pos := p1 }, { arg := "place", annotation := none, pos := p2 }], vararg := none, kwonlyargs := [], kw_defaults := [], kwarg := none, defaults := [] }
def iB (q1 q2 q3 q4 : Pos) : List Stmt := [.Assign [.Attribute (.Name "self" q1) "place" q2] (.Name "place" q3) q4]
def iS : Scope := { kind := .function, names := [(PySem.Str.ofString "self", .local), (PySem.Str.ofString "place", .local)], isGenerator := false, isCoroutine := false, more := [] }
/-- what the written part says of Low, at C, and of its __init__, at fI -/
structure BadDemandTxt (K : Frag) (mg : Str → Option Value) (C fI : Addr) : Prop where
  gC : mg "BadDemand" = some (.ref C)
  cls : ∃ nm q N bs bm sn sub ab col dd k0 k1 k2 k3 k5, K.lookup C = some (excClassObj nm q C N bs bm true sn sub ab col dd k0 k1 k2 k3 k5 "ValueError.__new__") ∧ refsVE bm = true
  sa : findIn K (.ref C) "__setattr__" = some (some (.builtin "object.__setattr__"))
  ga : findIn K (.ref C) "__getattribute__" = some (some (.builtin "BaseException.__getattribute__"))
  gg : findIn K (.ref C) "__getattr__" = some none
  noN : findIn K (.ref C) "place" = some none
  iC : findIn K (.ref C) "__init__" = some (some (.ref fI))
  tC : typeIn K (.ref fI) = some (.type "function")
  kC : keepIn K (.ref C) = true
  exC : subIn K (.ref C) (.type "BaseException") = some true
  tyC : typeIn K (.ref C) = some (.type "type")
  hdC : hasDictIn K C = true
  te : exmOne K (.ref C) (.ref C) = some true
  fn : ∃ (oc : Value) (od : Option Addr) (kV doc pm : Value) (an : Option Addr) (cdv ct : Value) (osl : Array (Option Value)) (p1 p2 q1 q2 q3 q4 : Pos),
    K.lookup fI = some ⟨oc, od, .func (fnOf "__init__" "BadDemand.__init__" (iA p1 p2) (iB q1 q2 q3 q4) iS .none kV doc pm an cdv ct), osl⟩ ∧ codeIn K cdv "BadDemand.__init__" = true
theorem one_size (v : Value) : [v].length ≤ sizeLine := by
  rw [sizeLine_eq]
  exact (by decide : 1 ≤ 16777216)
theorem kept_but {K : Frag} {h h' : Heap} {x : Addr} (X : K.In h) (hx : K.lookup x = none) (k : ∀ b o, b ≠ x → h.get? b = some o → h'.get? b = some o) : K.In h' := fun a o e =>
  k a o (fun z => by rw [z, hx] at e; cases e) (X a o e)
theorem ldC {M : Model} {s : Shared} {name : Str} {scope : Scope} {L a : Addr} {cd : Value} {m : Str → Option Value} {x : Str} {pos : Pos} {v : Value} {Q : Value → Shared → Prop} {A : Around} {E : Value → Shared → Prop} (hn : s.heap.Ns L m) (hv : m x = some v) (h : Q v s)
    (hk : scope.kind = .function := by rfl) (hl : (envOfC name scope L a cd).kindOf x = some .local := by rfl) (hd : (x == ("__debug__" : Str)) = false := by decide) :
    wpAny M A (eval (.Name x pos) (envOfC name scope L a cd)) Q E s := wpAny_Name (wpAny_loadName_local hk hl hn hv h) hd
/-- what __init__ leaves of a fresh exception at x -/
structure InitEnd (h h' : Heap) (x C dx t1 : Addr) (v : Value) : Prop where
  keep : ∀ b o, b ≠ x → h.get? b = some o → h'.get? b = some o
  obj : h'.get? x = some { cls := .ref C, dict := some dx, data := .fields #[.ref t1, .none, .none, .none, .bool false, .none] }
  dbig : h.objs.size ≤ dx
  dne : dx ≠ x
  ns : h'.Ns1 dx (fun y => if y = "place" then some v else none)
/-- a made Low -/
structure OwnMade (h h' : Heap) (e C d : Addr) (v : Value) : Prop where
  keep : ∀ b o, h.get? b = some o → h'.get? b = some o
  new : h.objs.size ≤ e
  obj : ∃ oe vs, h'.get? e = some oe ∧ oe.cls = .ref C ∧ oe.dict = some d ∧ oe.data = .fields vs ∧ vs[1]? = some .none ∧ 4 < vs.size
  dbig : h.objs.size ≤ d
  dne : d ≠ e
  ns : h'.Ns1 d (fun y => if y = "place" then some v else none)
section
variable {prog : Program} {w : World} {A : Around} {E : Value → Shared → Prop} {R : Result → Shared → Prop} {s : Shared} {K : Frag} {mg : Str → Option Value} {C fI : Addr}
theorem init_BadDemand (T : BadDemandTxt K mg C fI) {x t0 : Addr} {v : Value} (X : K.In s.heap) (hlim : s.heap.NoLimit) (hx : s.heap.get? x = some (excO C t0)) (hnx : K.lookup x = none) (hroom : A.depth < recursionLimit)
    (hq : ∀ h' tk dx, InitEnd s.heap h' x C dx t0 v → R (.ok (.ret .none)) { s with heap := h', toks := tk }) :
    codeAny (model prog w) A (.call (.ref fI) ⟨[.ref x, v], []⟩) R s := by
  obtain ⟨oc, od, kV, doc, pm, an, cdv, ct, osl, p1, p2, q1, q2, q3, q4, ho, hcd⟩ := T.fn
  obtain ⟨nm, q, N, bs, bm, sn, sub, ab, col, dd, k0, k1, k2, k3, k5, hC, hbm⟩ := T.cls
  have hcl : clsIn K C = some { name := nm, bases := bs, mro := .ref C :: bm, ns := N, qualname := q, hasDict := true, slotNames := sn, subclasses := sub, abstract := ab, collection := col, hasDel := false } := by unfold clsIn; rw [hC] <;> rfl
  refine Att.call_fn (binds := [("self", .ref x), ("place", v)]) X hlim ho hcd hroom (BindsTo.of_eq (by first | rfl | with_unfolding_all rfl)) (by first | rfl | decide | with_unfolding_all rfl) (fun s₁ IC => ?_) rfl rfl rfl
  obtain ⟨h₁, tk₁, rfl⟩ := IC.toInCall.same
  have k : ∀ b o, s.heap.get? b = some o → h₁.get? b = some o := IC.toInCall.keep
  have hn := IC.toInCall.ns
  have hxL : s.heap.objs.size ≠ x := Nat.ne_of_gt (Heap.lt_size hx)
  have X₁ : K.In h₁ := X.keeps k
  have hx₁ := k _ _ hx
  -- self.by = by
  show wpAny _ _ (execs _ _) _ _ _
  refine wpAny_execs_cons (plainObj_wpAny_Assign_Attribute ?_)
  refine ldC (v := v) hn (by first | rfl | with_unfolding_all rfl | kernel_rfl) (ldC (v := .ref x) hn (by first | rfl | with_unfolding_all rfl | kernel_rfl) ?_)
  refine set_plain X₁ (ox := excO C t0) (od := none) ⟨hx₁, rfl, rfl, trivial⟩ T.sa ?_
  refine exc_osa X₁ hx₁ hcl (show refsVE (.ref C :: bm) = true from hbm) rfl T.noN (fun h₃ tk₃ dx k₃ dn dne hx₃ hn₃ => ?_)
  show wpAny _ _ (execs _ _) _ _ _
  have z : s.heap.objs.size < h₁.objs.size := hn.lt
  exact wpAny_execs_nil (hq h₃ tk₃ dx ⟨fun b o hb e => k₃ b o hb (k b o e), hx₃, Nat.le_of_lt (Nat.lt_of_lt_of_le z dn), dne, hn₃⟩)
theorem made_BadDemand (T : BadDemandTxt K mg C fI) {v : Value} (X : K.In s.heap) (hlim : s.heap.NoLimit) (hroom : A.depth + 1 < recursionLimit)
    (hq : ∀ h' tk e d, OwnMade s.heap h' e C d v → R (.ok (.ret (.ref e))) { s with heap := h', toks := tk }) :
    codeAny (model prog w) A (.call (.ref C) ⟨[v], []⟩) R s := by
  obtain ⟨nm, q, N, bs, bm, sn, sub, ab, col, dd, k0, k1, k2, k3, k5, hC, hbm⟩ := T.cls
  obtain ⟨hp, g, dr, tk, os⟩ := s
  have k : ∀ b o, hp.get? b = some o → ((hp.push (kdv_tup [v])).push (excO C hp.objs.size)).get? b = some o := fun b o e => Heap.get?_push_of_some _ (Heap.get?_push_of_some _ e)
  have hget : ((hp.push (kdv_tup [v])).push (excO C hp.objs.size)).get? (hp.objs.size + 1) = some (excO C hp.objs.size) := by heap_get
  have hnx : K.lookup (hp.objs.size + 1) = none := by
    cases e : K.lookup (hp.objs.size + 1) with
    | none => rfl
    | some o =>
      have z : hp.get? (hp.objs.size + 1) = some o := X _ _ e
      exact absurd (Nat.lt_of_succ_lt (Heap.lt_size z)) (Nat.lt_irrefl _)
  refine call_own F.excBase_ValueError (fun X => refsVE_contains X bm hbm) (X _ _ hC) (looks_findIn X T.iC) (fun self => bind_fn X self T.tC) (one_size v) ?_
  refine init_BadDemand (s := ⟨(hp.push (kdv_tup [v])).push (excO C hp.objs.size), g, dr, tk, os⟩) T (X.keeps k) (hlim.keeps k) hget hnx ?_ fun h' tk' dx ⟨k', hx, dn, dne, hns⟩ => ?_
  · show A.depth + 1 < recursionLimit
    exact hroom
  · have old : ∀ b o, hp.get? b = some o → h'.get? b = some o := fun b o e => k' b o (Nat.ne_of_lt (Nat.lt_succ_of_lt (Heap.lt_size e))) (k b o e)
    have z : hp.objs.size + 1 + 1 ≤ dx := by
      first
        | (simpa only [Heap.size_push] using dn)
        | exact dn
        | (have q := dn; rw [Heap.size_push, Heap.size_push] at q; exact q)
    exact ⟨rfl, hq h' tk' (hp.objs.size + 1) dx ⟨old, Nat.le_succ _, ⟨_, _, hx, rfl, rfl, rfl, rfl, (by show (4 : Nat) < 6; decide)⟩, Nat.le_trans (Nat.le_trans (Nat.le_succ _) (Nat.le_succ _)) z, dne, hns⟩⟩
end
end BadDemandX
end PySem
namespace L2
open PySem PySem.Spec PyProof.Rows
theorem relO_BadDemand {v : V} {v' : Value} (r : RelV v v') (f : Str) : RelO (List.lookup f [(("place" : Str), v)]) (if f = "place" then some v' else none) := by
  by_cases hw : f = "place"
  · subst hw
    rw [if_pos rfl]
    have q : List.lookup ("place" : Str) [(("place" : Str), v)] = some v := by simp [List.lookup]
    rw [q]
    exact r
  · rw [if_neg hw]
    have qw : (f == ("place" : Str)) = false := by simpa using hw
    have q2 : List.lookup f [(("place" : Str), v)] = none := by simp [List.lookup, qw]
    rw [q2]
    trivial
section
variable {X : Cx} {C fI : Addr}
/-- Low(e) -/
def tMkBadDemand (C : Addr) (ta : TA) : St → Hp → XK → Prop := fun σ H Q => ta σ H fun vs H1 => ∃ v, vs = [v] ∧ ∀ d, H1 d = none → Q (.ref C) (some d) (upd H1 d (.xd [(("place" : Str), v)]))
theorem pmk_BadDemand {a : Expr} {ta : TA} {p pos : Pos} {k : Nat} (T : PySem.BadDemandX.BadDemandTxt X.K X.mg C fI) (hr : Room k X.A) (ha : PA X [a] ta) (hg : Gl X "BadDemand" := by rfl)
    (he : starEach (a :: []) X.env = (false, eval a X.env) :: starEach [] X.env := by rfl) (hpl : (backTo pos (starEach [] X.env)).any (·.1) = false := by rfl) :
    PMk X (.Call (.Name "BadDemand" p) [a] [] pos) (tMkBadDemand C ta) := by
  intro pins s σ H Q I h
  refine wpAny_Call_Name_kw (ld_glob I hg T.gC ?_)
  refine PySem.W.callWith_K (h₀ := X.base) I.ok.mod.kin T.kC (thn (ha.run pos pins s σ H _ I h) fun us s1 hh => ?_) he hpl
  obtain ⟨vs, H1, I1, r1, v, ev, q1⟩ := hh
  subst ev
  refine ⟨I1.kIn, ?_⟩
  cases r1 with
  | cons rv rn =>
    rename_i v' us'
    cases rn
    show wpAny _ _ (call (.ref C) [v']) _ _ _
    have hlim := I1.nolimit
    obtain ⟨hp, g, dr, tk, os⟩ := s1
    refine wpAny_call (PySem.BadDemandX.made_BadDemand T I1.kIn hlim (by have := hr.dp; omega) fun h' tk' e d M => ?_)
    show MkP X pins σ Q (.ref e) ⟨h', g, dr, tk', os⟩
    obtain ⟨oe, fv, hoe, hc, hd, hdat, h1, _⟩ := M.obj
    have hns := M.ns
    obtain ⟨G', g1, g2⟩ := restrict h' fun b => decide (b ≠ e)
    have gk : ∀ b, b ≠ e → G'.get? b = h'.get? b := fun b hb => g1 b (decide_eq_true hb)
    have ge : G'.get? e = none := g2 e (by simp)
    have old : ∀ b o, hp.get? b = some o → G'.get? b = some o := fun b o q => (gk b (Nat.ne_of_lt (Nat.lt_of_lt_of_le (Heap.lt_size q) M.new))).trans (M.keep b o q)
    have ob : ObjOk X.prog X.w (upd H1 d (.xd [(("place" : Str), v)])) G' d (.xd [(("place" : Str), v)]) :=
      ⟨_, hns.at (fun o q => (gk d M.dne).trans q), fun f => relO_BadDemand rv f⟩
    have J : Inv X pins σ (upd H1 d (.xd [(("place" : Str), v)])) ⟨G', g, dr, tk', os⟩ := I1.laid (t' := tk') old M.dbig ob
    refine ⟨e, oe, fv, ⟨G', g, dr, tk', os⟩, _, .ref C, some d, rfl, J, fun b o q => ?_, ge, hoe, ⟨hc, hd⟩, hdat, h1, ?_, rfl, I1.bare, raises_own T.exC T.tyC, q1 d (I1.hok.fresh M.dbig)⟩
    · by_cases hb : b = e
      · have q' : G'.get? b = some o := q
        rw [hb, ge] at q'; cases q'
      · exact (gk b hb).symm.trans q
    · rw [upd_ne (Ne.symm M.dne)]
      exact I1.hok.fresh M.new
/-- raise Low(e) -/
def tRaiseBadDemand (C : Addr) (W : WX) (ta : TA) : TS := fun _ σ H => tMkBadDemand C ta σ H fun cls d H' => W cls d σ H'
theorem ps_raiseBadDemand {a : Expr} {ta : TA} {W : WX} {p pos pos2 : Pos} {k : Nat} (hc : X.calm = true) (T : PySem.BadDemandX.BadDemandTxt X.K X.mg C fI) (hr : Room k X.A) (tk : Takes X W) (ha : PA X [a] ta) (hg : Gl X "BadDemand" := by rfl)
    (he : starEach (a :: []) X.env = (false, eval a X.env) :: starEach [] X.env := by rfl) (hpl : (backTo pos (starEach [] X.env)).any (·.1) = false := by rfl) :
    PS X (.Raise (some (.Call (.Name "BadDemand" p) [a] [] pos)) none pos2) (tRaiseBadDemand C W ta) := ps_raise hc tk (pmk_BadDemand T hr ha hg he hpl)
/-- low.by, low the exception that the suite holds (at a; its class cls, its dict d) -/
def tByBadDemand (C : Addr) (a : Addr) (cls : Value) (d : Option Addr) (te : TE) : TE := fun σ H Q => te σ H fun x H1 => x = .ref a ∧ cls = .ref C ∧ ∃ (dd : Addr) (v : V), d = some dd ∧ H1 dd = some (.xd [(("place" : Str), v)]) ∧ Q v H1
theorem pe_byBadDemand {a : Addr} {oe : Obj} {cls : Value} {d : Option Addr} {pn : List (Addr × Obj)} {e : Expr} {te : TE} {pos : Pos} (T : PySem.BadDemandX.BadDemandTxt X.K X.mg C fI) (hz : Zc cls d oe) (hf : ∃ vs, oe.data = .fields vs) (he : PE (X.suite a ((a, oe) :: pn)) e te)
    (hb : attributeBase e "place" X.env (eval e X.env) = eval e X.env := by rfl) :
    PE (X.suite a ((a, oe) :: pn)) (.Attribute e "place" pos) (tByBadDemand C a cls d te) := by
  refine ⟨fun pins s σ H Q I h => ?_⟩
  refine attr_of hb (thn (he.run pins s σ H _ I h) fun u s1 hh => ?_)
  obtain ⟨x, H1, I1, rx, ex, ec, dd, v, ed, ea, q⟩ := hh
  subst ex
  obtain rfl : u = Value.ref a := rx
  subst ec
  subst ed
  obtain ⟨ha, _⟩ := I1.pin (a, oe) (List.mem_append_left _ List.mem_cons_self)
  obtain ⟨vs, hd⟩ := hf
  have hx : ObjOk X.prog X.w H1 s1.heap dd (.xd [(("place" : Str), v)]) := I1.hok dd _ ea
  obtain ⟨mA, hns, hr⟩ := hx
  obtain ⟨od, ho, hl⟩ := lookIn_ns hns
  have l : List.lookup ("place" : Str) [(("place" : Str), v)] = some v := by simp [List.lookup]
  obtain ⟨u, hu, ru⟩ := RelO.some_of (v := v) (o := mA "place") (by rw [← l]; exact hr "place")
  have J : PySem.W.InstAt s1.heap a oe C (some od) := ⟨ha, hz.1, by unfold PySem.W.notCls; rw [hd] <;> rfl, by rw [hz.2]; exact ho⟩
  exact HandSPX.exc_get I1.kIn J T.ga T.gg T.exC (PySem.W.findObj_own T.hdC T.noN rfl (by rw [hl, hu])) (handed_of ru) ⟨v, H1, I1.tok _, ru, q⟩
end
end L2



namespace PySem
namespace NotAStockX
open PySem.W PySem.Calls PyProof.Rows PySem.HandSPX
/-! ### the text of __init__ -/
def iA (p1 p2 : Pos) : Arguments := { posonlyargs := [], args := [{ arg := "self", annotation := none, pos := p1 }, { arg := "place", annotation := none, pos := p2 }], vararg := none, kwonlyargs := [], kw_defaults := [], kwarg := none, defaults := [] }
def iB (q1 q2 q3 q4 : Pos) : List Stmt := [.Assign [.Attribute (.Name "self" q1) "place" q2] (.Name "place" q3) q4]
def iS : Scope := { kind := .function, names := [(PySem.Str.ofString "self", .local), (PySem.Str.ofString "place", .local)], isGenerator := false, isCoroutine := false, more := [] }
/-- what the written part says of Low, at C, and of its __init__, at fI -/
structure NotAStockTxt (K : Frag) (mg : Str → Option Value) (C fI : Addr) : Prop where
  gC : mg "NotAStock" = some (.ref C)
  cls : ∃ nm q N bs bm sn sub ab col dd k0 k1 k2 k3 k5, K.lookup C = some (excClassObj nm q C N bs bm true sn sub ab col dd k0 k1 k2 k3 k5 "ValueError.__new__") ∧ refsVE bm = true
  sa : findIn K (.ref C) "__setattr__" = some (some (.builtin "object.__setattr__"))
  ga : findIn K (.ref C) "__getattribute__" = some (some (.builtin "BaseException.__getattribute__"))
  gg : findIn K (.ref C) "__getattr__" = some none
  noN : findIn K (.ref C) "place" = some none
  iC : findIn K (.ref C) "__init__" = some (some (.ref fI))
  tC : typeIn K (.ref fI) = some (.type "function")
  kC : keepIn K (.ref C) = true
  exC : subIn K (.ref C) (.type "BaseException") = some true
  tyC : typeIn K (.ref C) = some (.type "type")
  hdC : hasDictIn K C = true
  te : exmOne K (.ref C) (.ref C) = some true
  fn : ∃ (oc : Value) (od : Option Addr) (kV doc pm : Value) (an : Option Addr) (cdv ct : Value) (osl : Array (Option Value)) (p1 p2 q1 q2 q3 q4 : Pos),
    K.lookup fI = some ⟨oc, od, .func (fnOf "__init__" "NotAStock.__init__" (iA p1 p2) (iB q1 q2 q3 q4) iS .none kV doc pm an cdv ct), osl⟩ ∧ codeIn K cdv "NotAStock.__init__" = true
theorem one_size (v : Value) : [v].length ≤ sizeLine := by
  rw [sizeLine_eq]
  exact (by decide : 1 ≤ 16777216)
theorem kept_but {K : Frag} {h h' : Heap} {x : Addr} (X : K.In h) (hx : K.lookup x = none) (k : ∀ b o, b ≠ x → h.get? b = some o → h'.get? b = some o) : K.In h' := fun a o e =>
  k a o (fun z => by rw [z, hx] at e; cases e) (X a o e)
theorem ldC {M : Model} {s : Shared} {name : Str} {scope : Scope} {L a : Addr} {cd : Value} {m : Str → Option Value} {x : Str} {pos : Pos} {v : Value} {Q : Value → Shared → Prop} {A : Around} {E : Value → Shared → Prop} (hn : s.heap.Ns L m) (hv : m x = some v) (h : Q v s)
    (hk : scope.kind = .function := by rfl) (hl : (envOfC name scope L a cd).kindOf x = some .local := by rfl) (hd : (x == ("__debug__" : Str)) = false := by decide) :
    wpAny M A (eval (.Name x pos) (envOfC name scope L a cd)) Q E s := wpAny_Name (wpAny_loadName_local hk hl hn hv h) hd
/-- what __init__ leaves of a fresh exception at x -/
structure InitEnd (h h' : Heap) (x C dx t1 : Addr) (v : Value) : Prop where
  keep : ∀ b o, b ≠ x → h.get? b = some o → h'.get? b = some o
  obj : h'.get? x = some { cls := .ref C, dict := some dx, data := .fields #[.ref t1, .none, .none, .none, .bool false, .none] }
  dbig : h.objs.size ≤ dx
  dne : dx ≠ x
  ns : h'.Ns1 dx (fun y => if y = "place" then some v else none)
/-- a made Low -/
structure OwnMade (h h' : Heap) (e C d : Addr) (v : Value) : Prop where
  keep : ∀ b o, h.get? b = some o → h'.get? b = some o
  new : h.objs.size ≤ e
  obj : ∃ oe vs, h'.get? e = some oe ∧ oe.cls = .ref C ∧ oe.dict = some d ∧ oe.data = .fields vs ∧ vs[1]? = some .none ∧ 4 < vs.size
  dbig : h.objs.size ≤ d
  dne : d ≠ e
  ns : h'.Ns1 d (fun y => if y = "place" then some v else none)
section
variable {prog : Program} {w : World} {A : Around} {E : Value → Shared → Prop} {R : Result → Shared → Prop} {s : Shared} {K : Frag} {mg : Str → Option Value} {C fI : Addr}
theorem init_NotAStock (T : NotAStockTxt K mg C fI) {x t0 : Addr} {v : Value} (X : K.In s.heap) (hlim : s.heap.NoLimit) (hx : s.heap.get? x = some (excO C t0)) (hnx : K.lookup x = none) (hroom : A.depth < recursionLimit)
    (hq : ∀ h' tk dx, InitEnd s.heap h' x C dx t0 v → R (.ok (.ret .none)) { s with heap := h', toks := tk }) :
    codeAny (model prog w) A (.call (.ref fI) ⟨[.ref x, v], []⟩) R s := by
  obtain ⟨oc, od, kV, doc, pm, an, cdv, ct, osl, p1, p2, q1, q2, q3, q4, ho, hcd⟩ := T.fn
  obtain ⟨nm, q, N, bs, bm, sn, sub, ab, col, dd, k0, k1, k2, k3, k5, hC, hbm⟩ := T.cls
  have hcl : clsIn K C = some { name := nm, bases := bs, mro := .ref C :: bm, ns := N, qualname := q, hasDict := true, slotNames := sn, subclasses := sub, abstract := ab, collection := col, hasDel := false } := by unfold clsIn; rw [hC] <;> rfl
  refine Att.call_fn (binds := [("self", .ref x), ("place", v)]) X hlim ho hcd hroom (BindsTo.of_eq (by first | rfl | with_unfolding_all rfl)) (by first | rfl | decide | with_unfolding_all rfl) (fun s₁ IC => ?_) rfl rfl rfl
  obtain ⟨h₁, tk₁, rfl⟩ := IC.toInCall.same
  have k : ∀ b o, s.heap.get? b = some o → h₁.get? b = some o := IC.toInCall.keep
  have hn := IC.toInCall.ns
  have hxL : s.heap.objs.size ≠ x := Nat.ne_of_gt (Heap.lt_size hx)
  have X₁ : K.In h₁ := X.keeps k
  have hx₁ := k _ _ hx
  -- self.by = by
  show wpAny _ _ (execs _ _) _ _ _
  refine wpAny_execs_cons (plainObj_wpAny_Assign_Attribute ?_)
  refine ldC (v := v) hn (by first | rfl | with_unfolding_all rfl | kernel_rfl) (ldC (v := .ref x) hn (by first | rfl | with_unfolding_all rfl | kernel_rfl) ?_)
  refine set_plain X₁ (ox := excO C t0) (od := none) ⟨hx₁, rfl, rfl, trivial⟩ T.sa ?_
  refine exc_osa X₁ hx₁ hcl (show refsVE (.ref C :: bm) = true from hbm) rfl T.noN (fun h₃ tk₃ dx k₃ dn dne hx₃ hn₃ => ?_)
  show wpAny _ _ (execs _ _) _ _ _
  have z : s.heap.objs.size < h₁.objs.size := hn.lt
  exact wpAny_execs_nil (hq h₃ tk₃ dx ⟨fun b o hb e => k₃ b o hb (k b o e), hx₃, Nat.le_of_lt (Nat.lt_of_lt_of_le z dn), dne, hn₃⟩)
theorem made_NotAStock (T : NotAStockTxt K mg C fI) {v : Value} (X : K.In s.heap) (hlim : s.heap.NoLimit) (hroom : A.depth + 1 < recursionLimit)
    (hq : ∀ h' tk e d, OwnMade s.heap h' e C d v → R (.ok (.ret (.ref e))) { s with heap := h', toks := tk }) :
    codeAny (model prog w) A (.call (.ref C) ⟨[v], []⟩) R s := by
  obtain ⟨nm, q, N, bs, bm, sn, sub, ab, col, dd, k0, k1, k2, k3, k5, hC, hbm⟩ := T.cls
  obtain ⟨hp, g, dr, tk, os⟩ := s
  have k : ∀ b o, hp.get? b = some o → ((hp.push (kdv_tup [v])).push (excO C hp.objs.size)).get? b = some o := fun b o e => Heap.get?_push_of_some _ (Heap.get?_push_of_some _ e)
  have hget : ((hp.push (kdv_tup [v])).push (excO C hp.objs.size)).get? (hp.objs.size + 1) = some (excO C hp.objs.size) := by heap_get
  have hnx : K.lookup (hp.objs.size + 1) = none := by
    cases e : K.lookup (hp.objs.size + 1) with
    | none => rfl
    | some o =>
      have z : hp.get? (hp.objs.size + 1) = some o := X _ _ e
      exact absurd (Nat.lt_of_succ_lt (Heap.lt_size z)) (Nat.lt_irrefl _)
  refine call_own F.excBase_ValueError (fun X => refsVE_contains X bm hbm) (X _ _ hC) (looks_findIn X T.iC) (fun self => bind_fn X self T.tC) (one_size v) ?_
  refine init_NotAStock (s := ⟨(hp.push (kdv_tup [v])).push (excO C hp.objs.size), g, dr, tk, os⟩) T (X.keeps k) (hlim.keeps k) hget hnx ?_ fun h' tk' dx ⟨k', hx, dn, dne, hns⟩ => ?_
  · show A.depth + 1 < recursionLimit
    exact hroom
  · have old : ∀ b o, hp.get? b = some o → h'.get? b = some o := fun b o e => k' b o (Nat.ne_of_lt (Nat.lt_succ_of_lt (Heap.lt_size e))) (k b o e)
    have z : hp.objs.size + 1 + 1 ≤ dx := by
      first
        | (simpa only [Heap.size_push] using dn)
        | exact dn
        | (have q := dn; rw [Heap.size_push, Heap.size_push] at q; exact q)
    exact ⟨rfl, hq h' tk' (hp.objs.size + 1) dx ⟨old, Nat.le_succ _, ⟨_, _, hx, rfl, rfl, rfl, rfl, (by show (4 : Nat) < 6; decide)⟩, Nat.le_trans (Nat.le_trans (Nat.le_succ _) (Nat.le_succ _)) z, dne, hns⟩⟩
end
end NotAStockX
end PySem
namespace L2
open PySem PySem.Spec PyProof.Rows
theorem relO_NotAStock {v : V} {v' : Value} (r : RelV v v') (f : Str) : RelO (List.lookup f [(("place" : Str), v)]) (if f = "place" then some v' else none) := by
  by_cases hw : f = "place"
  · subst hw
    rw [if_pos rfl]
    have q : List.lookup ("place" : Str) [(("place" : Str), v)] = some v := by simp [List.lookup]
    rw [q]
    exact r
  · rw [if_neg hw]
    have qw : (f == ("place" : Str)) = false := by simpa using hw
    have q2 : List.lookup f [(("place" : Str), v)] = none := by simp [List.lookup, qw]
    rw [q2]
    trivial
section
variable {X : Cx} {C fI : Addr}
/-- Low(e) -/
def tMkNotAStock (C : Addr) (ta : TA) : St → Hp → XK → Prop := fun σ H Q => ta σ H fun vs H1 => ∃ v, vs = [v] ∧ ∀ d, H1 d = none → Q (.ref C) (some d) (upd H1 d (.xd [(("place" : Str), v)]))
theorem pmk_NotAStock {a : Expr} {ta : TA} {p pos : Pos} {k : Nat} (T : PySem.NotAStockX.NotAStockTxt X.K X.mg C fI) (hr : Room k X.A) (ha : PA X [a] ta) (hg : Gl X "NotAStock" := by rfl)
    (he : starEach (a :: []) X.env = (false, eval a X.env) :: starEach [] X.env := by rfl) (hpl : (backTo pos (starEach [] X.env)).any (·.1) = false := by rfl) :
    PMk X (.Call (.Name "NotAStock" p) [a] [] pos) (tMkNotAStock C ta) := by
  intro pins s σ H Q I h
  refine wpAny_Call_Name_kw (ld_glob I hg T.gC ?_)
  refine PySem.W.callWith_K (h₀ := X.base) I.ok.mod.kin T.kC (thn (ha.run pos pins s σ H _ I h) fun us s1 hh => ?_) he hpl
  obtain ⟨vs, H1, I1, r1, v, ev, q1⟩ := hh
  subst ev
  refine ⟨I1.kIn, ?_⟩
  cases r1 with
  | cons rv rn =>
    rename_i v' us'
    cases rn
    show wpAny _ _ (call (.ref C) [v']) _ _ _
    have hlim := I1.nolimit
    obtain ⟨hp, g, dr, tk, os⟩ := s1
    refine wpAny_call (PySem.NotAStockX.made_NotAStock T I1.kIn hlim (by have := hr.dp; omega) fun h' tk' e d M => ?_)
    show MkP X pins σ Q (.ref e) ⟨h', g, dr, tk', os⟩
    obtain ⟨oe, fv, hoe, hc, hd, hdat, h1, _⟩ := M.obj
    have hns := M.ns
    obtain ⟨G', g1, g2⟩ := restrict h' fun b => decide (b ≠ e)
    have gk : ∀ b, b ≠ e → G'.get? b = h'.get? b := fun b hb => g1 b (decide_eq_true hb)
    have ge : G'.get? e = none := g2 e (by simp)
    have old : ∀ b o, hp.get? b = some o → G'.get? b = some o := fun b o q => (gk b (Nat.ne_of_lt (Nat.lt_of_lt_of_le (Heap.lt_size q) M.new))).trans (M.keep b o q)
    have ob : ObjOk X.prog X.w (upd H1 d (.xd [(("place" : Str), v)])) G' d (.xd [(("place" : Str), v)]) :=
      ⟨_, hns.at (fun o q => (gk d M.dne).trans q), fun f => relO_NotAStock rv f⟩
    have J : Inv X pins σ (upd H1 d (.xd [(("place" : Str), v)])) ⟨G', g, dr, tk', os⟩ := I1.laid (t' := tk') old M.dbig ob
    refine ⟨e, oe, fv, ⟨G', g, dr, tk', os⟩, _, .ref C, some d, rfl, J, fun b o q => ?_, ge, hoe, ⟨hc, hd⟩, hdat, h1, ?_, rfl, I1.bare, raises_own T.exC T.tyC, q1 d (I1.hok.fresh M.dbig)⟩
    · by_cases hb : b = e
      · have q' : G'.get? b = some o := q
        rw [hb, ge] at q'; cases q'
      · exact (gk b hb).symm.trans q
    · rw [upd_ne (Ne.symm M.dne)]
      exact I1.hok.fresh M.new
/-- raise Low(e) -/
def tRaiseNotAStock (C : Addr) (W : WX) (ta : TA) : TS := fun _ σ H => tMkNotAStock C ta σ H fun cls d H' => W cls d σ H'
theorem ps_raiseNotAStock {a : Expr} {ta : TA} {W : WX} {p pos pos2 : Pos} {k : Nat} (hc : X.calm = true) (T : PySem.NotAStockX.NotAStockTxt X.K X.mg C fI) (hr : Room k X.A) (tk : Takes X W) (ha : PA X [a] ta) (hg : Gl X "NotAStock" := by rfl)
    (he : starEach (a :: []) X.env = (false, eval a X.env) :: starEach [] X.env := by rfl) (hpl : (backTo pos (starEach [] X.env)).any (·.1) = false := by rfl) :
    PS X (.Raise (some (.Call (.Name "NotAStock" p) [a] [] pos)) none pos2) (tRaiseNotAStock C W ta) := ps_raise hc tk (pmk_NotAStock T hr ha hg he hpl)
/-- low.by, low the exception that the suite holds (at a; its class cls, its dict d) -/
def tByNotAStock (C : Addr) (a : Addr) (cls : Value) (d : Option Addr) (te : TE) : TE := fun σ H Q => te σ H fun x H1 => x = .ref a ∧ cls = .ref C ∧ ∃ (dd : Addr) (v : V), d = some dd ∧ H1 dd = some (.xd [(("place" : Str), v)]) ∧ Q v H1
theorem pe_byNotAStock {a : Addr} {oe : Obj} {cls : Value} {d : Option Addr} {pn : List (Addr × Obj)} {e : Expr} {te : TE} {pos : Pos} (T : PySem.NotAStockX.NotAStockTxt X.K X.mg C fI) (hz : Zc cls d oe) (hf : ∃ vs, oe.data = .fields vs) (he : PE (X.suite a ((a, oe) :: pn)) e te)
    (hb : attributeBase e "place" X.env (eval e X.env) = eval e X.env := by rfl) :
    PE (X.suite a ((a, oe) :: pn)) (.Attribute e "place" pos) (tByNotAStock C a cls d te) := by
  refine ⟨fun pins s σ H Q I h => ?_⟩
  refine attr_of hb (thn (he.run pins s σ H _ I h) fun u s1 hh => ?_)
  obtain ⟨x, H1, I1, rx, ex, ec, dd, v, ed, ea, q⟩ := hh
  subst ex
  obtain rfl : u = Value.ref a := rx
  subst ec
  subst ed
  obtain ⟨ha, _⟩ := I1.pin (a, oe) (List.mem_append_left _ List.mem_cons_self)
  obtain ⟨vs, hd⟩ := hf
  have hx : ObjOk X.prog X.w H1 s1.heap dd (.xd [(("place" : Str), v)]) := I1.hok dd _ ea
  obtain ⟨mA, hns, hr⟩ := hx
  obtain ⟨od, ho, hl⟩ := lookIn_ns hns
  have l : List.lookup ("place" : Str) [(("place" : Str), v)] = some v := by simp [List.lookup]
  obtain ⟨u, hu, ru⟩ := RelO.some_of (v := v) (o := mA "place") (by rw [← l]; exact hr "place")
  have J : PySem.W.InstAt s1.heap a oe C (some od) := ⟨ha, hz.1, by unfold PySem.W.notCls; rw [hd] <;> rfl, by rw [hz.2]; exact ho⟩
  exact HandSPX.exc_get I1.kIn J T.ga T.gg T.exC (PySem.W.findObj_own T.hdC T.noN rfl (by rw [hl, hu])) (handed_of ru) ⟨v, H1, I1.tok _, ru, q⟩
end
end L2





set_option Elab.async false
set_option linter.all false
set_option maxRecDepth 100000
set_option maxHeartbeats 4000000
/-! The program's own errors: each one keeps its field. -/
namespace PySem
namespace BadPointX
open PySem.W PySem.Calls PyProof.Rows PySem.HandSPX
/-! ### the text of __init__ -/
def iA (p1 p2 : Pos) : Arguments := { posonlyargs := [], args := [{ arg := "self", annotation := none, pos := p1 }, { arg := "point", annotation := none, pos := p2 }], vararg := none, kwonlyargs := [], kw_defaults := [], kwarg := none, defaults := [] }
def iB (q1 q2 q3 q4 : Pos) : List Stmt := [.Assign [.Attribute (.Name "self" q1) "point" q2] (.Name "point" q3) q4]
def iS : Scope := { kind := .function, names := [(PySem.Str.ofString "self", .local), (PySem.Str.ofString "point", .local)], isGenerator := false, isCoroutine := false, more := [] }
/-- what the written part says of Low, at C, and of its __init__, at fI -/
structure BadPointTxt (K : Frag) (mg : Str → Option Value) (C fI : Addr) : Prop where
  gC : mg "BadPoint" = some (.ref C)
  cls : ∃ nm q N bs bm sn sub ab col dd k0 k1 k2 k3 k5, K.lookup C = some (excClassObj nm q C N bs bm true sn sub ab col dd k0 k1 k2 k3 k5 "ValueError.__new__") ∧ refsVE bm = true
  sa : findIn K (.ref C) "__setattr__" = some (some (.builtin "object.__setattr__"))
  ga : findIn K (.ref C) "__getattribute__" = some (some (.builtin "BaseException.__getattribute__"))
  gg : findIn K (.ref C) "__getattr__" = some none
  noN : findIn K (.ref C) "point" = some none
  iC : findIn K (.ref C) "__init__" = some (some (.ref fI))
  tC : typeIn K (.ref fI) = some (.type "function")
  kC : keepIn K (.ref C) = true
  exC : subIn K (.ref C) (.type "BaseException") = some true
  tyC : typeIn K (.ref C) = some (.type "type")
  hdC : hasDictIn K C = true
  te : exmOne K (.ref C) (.ref C) = some true
  fn : ∃ (oc : Value) (od : Option Addr) (kV doc pm : Value) (an : Option Addr) (cdv ct : Value) (osl : Array (Option Value)) (p1 p2 q1 q2 q3 q4 : Pos),
    K.lookup fI = some ⟨oc, od, .func (fnOf "__init__" "BadPoint.__init__" (iA p1 p2) (iB q1 q2 q3 q4) iS .none kV doc pm an cdv ct), osl⟩ ∧ codeIn K cdv "BadPoint.__init__" = true
theorem one_size (v : Value) : [v].length ≤ sizeLine := by
  rw [sizeLine_eq]
  exact (by decide : 1 ≤ 16777216)
theorem kept_but {K : Frag} {h h' : Heap} {x : Addr} (X : K.In h) (hx : K.lookup x = none) (k : ∀ b o, b ≠ x → h.get? b = some o → h'.get? b = some o) : K.In h' := fun a o e =>
  k a o (fun z => by rw [z, hx] at e; cases e) (X a o e)
theorem ldC {M : Model} {s : Shared} {name : Str} {scope : Scope} {L a : Addr} {cd : Value} {m : Str → Option Value} {x : Str} {pos : Pos} {v : Value} {Q : Value → Shared → Prop} {A : Around} {E : Value → Shared → Prop} (hn : s.heap.Ns L m) (hv : m x = some v) (h : Q v s)
    (hk : scope.kind = .function := by rfl) (hl : (envOfC name scope L a cd).kindOf x = some .local := by rfl) (hd : (x == ("__debug__" : Str)) = false := by decide) :
    wpAny M A (eval (.Name x pos) (envOfC name scope L a cd)) Q E s := wpAny_Name (wpAny_loadName_local hk hl hn hv h) hd
/-- what __init__ leaves of a fresh exception at x -/
structure InitEnd (h h' : Heap) (x C dx t1 : Addr) (v : Value) : Prop where
  keep : ∀ b o, b ≠ x → h.get? b = some o → h'.get? b = some o
  obj : h'.get? x = some { cls := .ref C, dict := some dx, data := .fields #[.ref t1, .none, .none, .none, .bool false, .none] }
  dbig : h.objs.size ≤ dx
  dne : dx ≠ x
  ns : h'.Ns1 dx (fun y => if y = "point" then some v else none)
/-- a made Low -/
structure OwnMade (h h' : Heap) (e C d : Addr) (v : Value) : Prop where
  keep : ∀ b o, h.get? b = some o → h'.get? b = some o
  new : h.objs.size ≤ e
  obj : ∃ oe vs, h'.get? e = some oe ∧ oe.cls = .ref C ∧ oe.dict = some d ∧ oe.data = .fields vs ∧ vs[1]? = some .none ∧ 4 < vs.size
  dbig : h.objs.size ≤ d
  dne : d ≠ e
  ns : h'.Ns1 d (fun y => if y = "point" then some v else none)
section
variable {prog : Program} {w : World} {A : Around} {E : Value → Shared → Prop} {R : Result → Shared → Prop} {s : Shared} {K : Frag} {mg : Str → Option Value} {C fI : Addr}
theorem init_BadPoint (T : BadPointTxt K mg C fI) {x t0 : Addr} {v : Value} (X : K.In s.heap) (hlim : s.heap.NoLimit) (hx : s.heap.get? x = some (excO C t0)) (hnx : K.lookup x = none) (hroom : A.depth < recursionLimit)
    (hq : ∀ h' tk dx, InitEnd s.heap h' x C dx t0 v → R (.ok (.ret .none)) { s with heap := h', toks := tk }) :
    codeAny (model prog w) A (.call (.ref fI) ⟨[.ref x, v], []⟩) R s := by
  obtain ⟨oc, od, kV, doc, pm, an, cdv, ct, osl, p1, p2, q1, q2, q3, q4, ho, hcd⟩ := T.fn
  obtain ⟨nm, q, N, bs, bm, sn, sub, ab, col, dd, k0, k1, k2, k3, k5, hC, hbm⟩ := T.cls
  have hcl : clsIn K C = some { name := nm, bases := bs, mro := .ref C :: bm, ns := N, qualname := q, hasDict := true, slotNames := sn, subclasses := sub, abstract := ab, collection := col, hasDel := false } := by unfold clsIn; rw [hC] <;> rfl
  refine Att.call_fn (binds := [("self", .ref x), ("point", v)]) X hlim ho hcd hroom (BindsTo.of_eq (by first | rfl | with_unfolding_all rfl)) (by first | rfl | decide | with_unfolding_all rfl) (fun s₁ IC => ?_) rfl rfl rfl
  obtain ⟨h₁, tk₁, rfl⟩ := IC.toInCall.same
  have k : ∀ b o, s.heap.get? b = some o → h₁.get? b = some o := IC.toInCall.keep
  have hn := IC.toInCall.ns
  have hxL : s.heap.objs.size ≠ x := Nat.ne_of_gt (Heap.lt_size hx)
  have X₁ : K.In h₁ := X.keeps k
  have hx₁ := k _ _ hx
  -- self.by = by
  show wpAny _ _ (execs _ _) _ _ _
  refine wpAny_execs_cons (plainObj_wpAny_Assign_Attribute ?_)
  refine ldC (v := v) hn (by first | rfl | with_unfolding_all rfl | kernel_rfl) (ldC (v := .ref x) hn (by first | rfl | with_unfolding_all rfl | kernel_rfl) ?_)
  refine set_plain X₁ (ox := excO C t0) (od := none) ⟨hx₁, rfl, rfl, trivial⟩ T.sa ?_
  refine exc_osa X₁ hx₁ hcl (show refsVE (.ref C :: bm) = true from hbm) rfl T.noN (fun h₃ tk₃ dx k₃ dn dne hx₃ hn₃ => ?_)
  show wpAny _ _ (execs _ _) _ _ _
  have z : s.heap.objs.size < h₁.objs.size := hn.lt
  exact wpAny_execs_nil (hq h₃ tk₃ dx ⟨fun b o hb e => k₃ b o hb (k b o e), hx₃, Nat.le_of_lt (Nat.lt_of_lt_of_le z dn), dne, hn₃⟩)
theorem made_BadPoint (T : BadPointTxt K mg C fI) {v : Value} (X : K.In s.heap) (hlim : s.heap.NoLimit) (hroom : A.depth + 1 < recursionLimit)
    (hq : ∀ h' tk e d, OwnMade s.heap h' e C d v → R (.ok (.ret (.ref e))) { s with heap := h', toks := tk }) :
    codeAny (model prog w) A (.call (.ref C) ⟨[v], []⟩) R s := by
  obtain ⟨nm, q, N, bs, bm, sn, sub, ab, col, dd, k0, k1, k2, k3, k5, hC, hbm⟩ := T.cls
  obtain ⟨hp, g, dr, tk, os⟩ := s
  have k : ∀ b o, hp.get? b = some o → ((hp.push (kdv_tup [v])).push (excO C hp.objs.size)).get? b = some o := fun b o e => Heap.get?_push_of_some _ (Heap.get?_push_of_some _ e)
  have hget : ((hp.push (kdv_tup [v])).push (excO C hp.objs.size)).get? (hp.objs.size + 1) = some (excO C hp.objs.size) := by heap_get
  have hnx : K.lookup (hp.objs.size + 1) = none := by
    cases e : K.lookup (hp.objs.size + 1) with
    | none => rfl
    | some o =>
      have z : hp.get? (hp.objs.size + 1) = some o := X _ _ e
      exact absurd (Nat.lt_of_succ_lt (Heap.lt_size z)) (Nat.lt_irrefl _)
  refine call_own F.excBase_ValueError (fun X => refsVE_contains X bm hbm) (X _ _ hC) (looks_findIn X T.iC) (fun self => bind_fn X self T.tC) (one_size v) ?_
  refine init_BadPoint (s := ⟨(hp.push (kdv_tup [v])).push (excO C hp.objs.size), g, dr, tk, os⟩) T (X.keeps k) (hlim.keeps k) hget hnx ?_ fun h' tk' dx ⟨k', hx, dn, dne, hns⟩ => ?_
  · show A.depth + 1 < recursionLimit
    exact hroom
  · have old : ∀ b o, hp.get? b = some o → h'.get? b = some o := fun b o e => k' b o (Nat.ne_of_lt (Nat.lt_succ_of_lt (Heap.lt_size e))) (k b o e)
    have z : hp.objs.size + 1 + 1 ≤ dx := by
      first
        | (simpa only [Heap.size_push] using dn)
        | exact dn
        | (have q := dn; rw [Heap.size_push, Heap.size_push] at q; exact q)
    exact ⟨rfl, hq h' tk' (hp.objs.size + 1) dx ⟨old, Nat.le_succ _, ⟨_, _, hx, rfl, rfl, rfl, rfl, (by show (4 : Nat) < 6; decide)⟩, Nat.le_trans (Nat.le_trans (Nat.le_succ _) (Nat.le_succ _)) z, dne, hns⟩⟩
end
end BadPointX
end PySem
namespace L2
open PySem PySem.Spec PyProof.Rows
theorem relO_BadPoint {v : V} {v' : Value} (r : RelV v v') (f : Str) : RelO (List.lookup f [(("point" : Str), v)]) (if f = "point" then some v' else none) := by
  by_cases hw : f = "point"
  · subst hw
    rw [if_pos rfl]
    have q : List.lookup ("point" : Str) [(("point" : Str), v)] = some v := by simp [List.lookup]
    rw [q]
    exact r
  · rw [if_neg hw]
    have qw : (f == ("point" : Str)) = false := by simpa using hw
    have q2 : List.lookup f [(("point" : Str), v)] = none := by simp [List.lookup, qw]
    rw [q2]
    trivial
section
variable {X : Cx} {C fI : Addr}
/-- Low(e) -/
def tMkBadPoint (C : Addr) (ta : TA) : St → Hp → XK → Prop := fun σ H Q => ta σ H fun vs H1 => ∃ v, vs = [v] ∧ ∀ d, H1 d = none → Q (.ref C) (some d) (upd H1 d (.xd [(("point" : Str), v)]))
theorem pmk_BadPoint {a : Expr} {ta : TA} {p pos : Pos} {k : Nat} (T : PySem.BadPointX.BadPointTxt X.K X.mg C fI) (hr : Room k X.A) (ha : PA X [a] ta) (hg : Gl X "BadPoint" := by rfl)
    (he : starEach (a :: []) X.env = (false, eval a X.env) :: starEach [] X.env := by rfl) (hpl : (backTo pos (starEach [] X.env)).any (·.1) = false := by rfl) :
    PMk X (.Call (.Name "BadPoint" p) [a] [] pos) (tMkBadPoint C ta) := by
  intro pins s σ H Q I h
  refine wpAny_Call_Name_kw (ld_glob I hg T.gC ?_)
  refine PySem.W.callWith_K (h₀ := X.base) I.ok.mod.kin T.kC (thn (ha.run pos pins s σ H _ I h) fun us s1 hh => ?_) he hpl
  obtain ⟨vs, H1, I1, r1, v, ev, q1⟩ := hh
  subst ev
  refine ⟨I1.kIn, ?_⟩
  cases r1 with
  | cons rv rn =>
    rename_i v' us'
    cases rn
    show wpAny _ _ (call (.ref C) [v']) _ _ _
    have hlim := I1.nolimit
    obtain ⟨hp, g, dr, tk, os⟩ := s1
    refine wpAny_call (PySem.BadPointX.made_BadPoint T I1.kIn hlim (by have := hr.dp; omega) fun h' tk' e d M => ?_)
    show MkP X pins σ Q (.ref e) ⟨h', g, dr, tk', os⟩
    obtain ⟨oe, fv, hoe, hc, hd, hdat, h1, _⟩ := M.obj
    have hns := M.ns
    obtain ⟨G', g1, g2⟩ := restrict h' fun b => decide (b ≠ e)
    have gk : ∀ b, b ≠ e → G'.get? b = h'.get? b := fun b hb => g1 b (decide_eq_true hb)
    have ge : G'.get? e = none := g2 e (by simp)
    have old : ∀ b o, hp.get? b = some o → G'.get? b = some o := fun b o q => (gk b (Nat.ne_of_lt (Nat.lt_of_lt_of_le (Heap.lt_size q) M.new))).trans (M.keep b o q)
    have ob : ObjOk X.prog X.w (upd H1 d (.xd [(("point" : Str), v)])) G' d (.xd [(("point" : Str), v)]) :=
      ⟨_, hns.at (fun o q => (gk d M.dne).trans q), fun f => relO_BadPoint rv f⟩
    have J : Inv X pins σ (upd H1 d (.xd [(("point" : Str), v)])) ⟨G', g, dr, tk', os⟩ := I1.laid (t' := tk') old M.dbig ob
    refine ⟨e, oe, fv, ⟨G', g, dr, tk', os⟩, _, .ref C, some d, rfl, J, fun b o q => ?_, ge, hoe, ⟨hc, hd⟩, hdat, h1, ?_, rfl, I1.bare, raises_own T.exC T.tyC, q1 d (I1.hok.fresh M.dbig)⟩
    · by_cases hb : b = e
      · have q' : G'.get? b = some o := q
        rw [hb, ge] at q'; cases q'
      · exact (gk b hb).symm.trans q
    · rw [upd_ne (Ne.symm M.dne)]
      exact I1.hok.fresh M.new
/-- raise Low(e) -/
def tRaiseBadPoint (C : Addr) (W : WX) (ta : TA) : TS := fun _ σ H => tMkBadPoint C ta σ H fun cls d H' => W cls d σ H'
theorem ps_raiseBadPoint {a : Expr} {ta : TA} {W : WX} {p pos pos2 : Pos} {k : Nat} (hc : X.calm = true) (T : PySem.BadPointX.BadPointTxt X.K X.mg C fI) (hr : Room k X.A) (tk : Takes X W) (ha : PA X [a] ta) (hg : Gl X "BadPoint" := by rfl)
    (he : starEach (a :: []) X.env = (false, eval a X.env) :: starEach [] X.env := by rfl) (hpl : (backTo pos (starEach [] X.env)).any (·.1) = false := by rfl) :
    PS X (.Raise (some (.Call (.Name "BadPoint" p) [a] [] pos)) none pos2) (tRaiseBadPoint C W ta) := ps_raise hc tk (pmk_BadPoint T hr ha hg he hpl)
/-- low.by, low the exception that the suite holds (at a; its class cls, its dict d) -/
def tByBadPoint (C : Addr) (a : Addr) (cls : Value) (d : Option Addr) (te : TE) : TE := fun σ H Q => te σ H fun x H1 => x = .ref a ∧ cls = .ref C ∧ ∃ (dd : Addr) (v : V), d = some dd ∧ H1 dd = some (.xd [(("point" : Str), v)]) ∧ Q v H1
theorem pe_byBadPoint {a : Addr} {oe : Obj} {cls : Value} {d : Option Addr} {pn : List (Addr × Obj)} {e : Expr} {te : TE} {pos : Pos} (T : PySem.BadPointX.BadPointTxt X.K X.mg C fI) (hz : Zc cls d oe) (hf : ∃ vs, oe.data = .fields vs) (he : PE (X.suite a ((a, oe) :: pn)) e te)
    (hb : attributeBase e "point" X.env (eval e X.env) = eval e X.env := by rfl) :
    PE (X.suite a ((a, oe) :: pn)) (.Attribute e "point" pos) (tByBadPoint C a cls d te) := by
  refine ⟨fun pins s σ H Q I h => ?_⟩
  refine attr_of hb (thn (he.run pins s σ H _ I h) fun u s1 hh => ?_)
  obtain ⟨x, H1, I1, rx, ex, ec, dd, v, ed, ea, q⟩ := hh
  subst ex
  obtain rfl : u = Value.ref a := rx
  subst ec
  subst ed
  obtain ⟨ha, _⟩ := I1.pin (a, oe) (List.mem_append_left _ List.mem_cons_self)
  obtain ⟨vs, hd⟩ := hf
  have hx : ObjOk X.prog X.w H1 s1.heap dd (.xd [(("point" : Str), v)]) := I1.hok dd _ ea
  obtain ⟨mA, hns, hr⟩ := hx
  obtain ⟨od, ho, hl⟩ := lookIn_ns hns
  have l : List.lookup ("point" : Str) [(("point" : Str), v)] = some v := by simp [List.lookup]
  obtain ⟨u, hu, ru⟩ := RelO.some_of (v := v) (o := mA "point") (by rw [← l]; exact hr "point")
  have J : PySem.W.InstAt s1.heap a oe C (some od) := ⟨ha, hz.1, by unfold PySem.W.notCls; rw [hd] <;> rfl, by rw [hz.2]; exact ho⟩
  exact HandSPX.exc_get I1.kIn J T.ga T.gg T.exC (PySem.W.findObj_own T.hdC T.noN rfl (by rw [hl, hu])) (handed_of ru) ⟨v, H1, I1.tok _, ru, q⟩
end
end L2





set_option Elab.async false
set_option linter.all false
set_option maxRecDepth 100000
set_option maxHeartbeats 4000000
namespace K05
open PySem PySem.Spec PyProof.Rows L2
open Evl (Ex)
section
variable {w : World} {K : PySem.W.Frag} {mg : Str → Option Value} {base : Heap}
/-- the module's def x keeps the promise -/
def Has (w : World) (K : PySem.W.Frag) (mg : Str → Option Value) (base : Heap) (CX : CXT) (x : Str) (k : Nat) (ps : List Str) (sp : Sp) : Prop :=
  ∃ (f : Addr) (fd : FuncData), mg x = some (.ref f) ∧ PySem.W.keepIn K (.ref f) = true ∧ FnOk PP w K mg base CX k f fd ps sp ∧ Binds K fd ps []
theorem has_of {x : Str} {st : Stmt} {f : Addr} {CX : CXT} {k : Nat} {ps : List Str} {sp : Sp} (d : ∃ fd, FunD K x x (defArgs st) (defBody st) (defScope st) [] [] f fd) (g : mg x = some (.ref f))
    (h : ∀ (kV doc pm : Value) (an : Option Addr) (cdv ct : Value) (us : List Value), us.length = ps.length → bindArgs (PySem.W.fnOf x x (defArgs st) (defBody st) (defScope st) .none kV doc pm an cdv ct) ⟨us, []⟩ = pure (ps.zip us))
    (ok : ∀ fd, FunD K x x (defArgs st) (defBody st) (defScope st) [] [] f fd → FnOk PP w K mg base CX k f fd ps sp) : Has w K mg base CX x k ps sp := by
  obtain ⟨fd, F⟩ := d
  exact ⟨f, fd, g, F.kp, ok fd F, F.bindsN h⟩
theorem Has.imp {CX : CXT} {x : Str} {k : Nat} {ps : List Str} {sp sp' : Sp} (H : Has w K mg base CX x k ps sp) (h : ∀ vs H Q E, sp' vs H Q E → sp vs H Q E) : Has w K mg base CX x k ps sp' := by
  obtain ⟨f, fd, a, b, c, d⟩ := H
  exact ⟨f, fd, a, b, c.imp h, d⟩
theorem ok0 {x : Str} {st : Stmt} {f : Addr} {fd : FuncData} {N ps : List Str} {k : Nat} {sp : Sp} {dvs : List V} {kws : List (Str × V)} {qual : Str} (F : FunD K x qual (defArgs st) (defBody st) (defScope st) dvs kws f fd) (S : FnScope N ps (defScope st)) (len : ∀ vs H Q E, sp vs H Q E → vs.length = ps.length)
    (hbody : ∀ (cdv : Value) (A : Around) (outer : List Env) (s : Shared) (H : Hp) (vs : List V) (Q : VK) (E : XK), Room k (A.deeper (envOfC qual (defScope st) s.heap.objs.size f cdv)) → sp vs H Q E →
      ∃ t, PSs (cxOf CX0 PP w K mg base N qual (defScope st) f cdv A outer s H E).nox (defBody st) t ∧ t { nx := fun _ H' => Q .non H', rt := Q } (start N vs) H) : FnOk PP w K mg base CX0 (k + 1) f fd ps sp := by
  refine F.ok S len fun cdv A outer s H vs Q E hr h => ?_
  obtain ⟨t, h1, h2⟩ := hbody cdv A outer s H vs Q E hr h
  exact ⟨t, h1.nox, h2⟩
/-- isinstance(an int, int | bool | str ..) -/
theorem isi_b {K : PySem.W.Frag} {H : Hp} {x : V} {a b : String} {r : Bool} {Q : VK} (hx : TyX K H x (.type a)) (hk : kitB a b = some r) (q : Q (.bl r) H) : rIsi K [x, .ty b] H Q := ⟨x, .ty b, _, _, r, rfl, .ty b, hx, kit_ty hk, q⟩

/-! ### checks -/
def spWhole : Sp := fun vs H Q _ => ∃ n : Int, vs = [.int n] ∧ Q (.bl true) H
theorem sc_is_whole : FnScope ["value"] ["value"] (defScope s_is_whole) := ⟨rfl, rfl, rfl, by decide +kernel, rfl, by decide +kernel, by decide +kernel⟩
theorem has_is_whole (T : Ctx K mg) : Has w K mg base CX0 "is_whole" 1 ["value"] spWhole := by
  refine has_of (st := s_is_whole) (f := He.ga K "is_whole") T.d_is_whole T.g_is_whole (fun _ _ _ _ _ _ us hl => match us, hl with | [_], _ => rfl) fun fd F => ?_
  refine ok0 F sc_is_whole (fun vs H Q E h => ?_) (fun cdv A outer s H vs Q E hr h => ?_)
  · obtain ⟨n, rfl, _⟩ := h
    rfl
  · obtain ⟨n, rfl, k⟩ := h
    refine ⟨_, pss_one (ps_ret (pe_and (pe_callB call_isi (by rfl) T.b_isinstance (by decide +kernel) (pa_cons (pv 0) (pa_cons (pe_bltn (by rfl) T.b_int (by decide +kernel) (v := .ty "int") rfl) pa_nil)))
      (pe_one (pe_not (pe_callB call_isi (by rfl) T.b_isinstance (by decide +kernel) (pa_cons (pv 0) (pa_cons (pe_bltn (by rfl) T.b_bool (by decide +kernel) (v := .ty "bool") rfl) pa_nil))))))), ?_⟩
    refine ⟨_, rfl, _, _, _, _, true, rfl, .ty "int", .base (.int n), kit_ty (by decide +kernel), true, rfl, iteT ?_⟩
    exact ⟨_, rfl, _, _, _, _, false, rfl, .ty "bool", .base (.int n), kit_ty (by decide +kernel), false, rfl, k⟩

def spWithin : Sp := fun vs H Q _ => ∃ n lo hi : Int, vs = [.int n, .int lo, .int hi] ∧ Q (.bl (decide (lo ≤ n ∧ n ≤ hi))) H
theorem sc_is_within : FnScope ["value", "low", "high"] ["value", "low", "high"] (defScope s_is_within) := ⟨rfl, rfl, rfl, by decide +kernel, rfl, by decide +kernel, by decide +kernel⟩
theorem has_is_within (T : Ctx K mg) : Has w K mg base CX0 "is_within" 2 ["value", "low", "high"] spWithin := by
  obtain ⟨f1, fd1, m1, kp1, F1, b1⟩ := has_is_whole (w := w) (base := base) T
  refine has_of (st := s_is_within) (f := He.ga K "is_within") T.d_is_within T.g_is_within (fun _ _ _ _ _ _ us hl => match us, hl with | [_, _, _], _ => rfl) fun fd F => ?_
  refine ok0 F sc_is_within (fun vs H Q E h => ?_) (fun cdv A outer s H vs Q E hr h => ?_)
  · obtain ⟨n, lo, hi, rfl, _⟩ := h
    rfl
  · obtain ⟨n, lo, hi, rfl, k⟩ := h
    refine ⟨_, pss_one (ps_ret (pe_and (pe_call F1 hr (by rfl) m1 kp1 b1 .nil pass0 (pa_cons (pv 0) pa_nil)) (pe_one (pe_chain op_le op_le (pv 1) (pv 0) (pv 2))))), ?_⟩
    refine ⟨_, rfl, n, rfl, true, rfl, iteT ?_⟩
    refine ⟨_, rfl, _, rfl, _, _, rfl, rfl, _, rfl, ?_⟩
    by_cases c : lo ≤ n
    · rw [decide_eq_true c]
      refine iteT ⟨_, rfl, _, _, rfl, rfl, ?_⟩
      have e : decide (lo ≤ n ∧ n ≤ hi) = decide (n ≤ hi) := by simp [c]
      rw [e] at k
      exact k
    · rw [decide_eq_false c]
      refine iteF ?_
      have e : decide (lo ≤ n ∧ n ≤ hi) = false := by simp [c]
      rw [e] at k
      exact k
def spCount : Sp := fun vs H Q _ => ∃ n : Int, vs = [.int n] ∧ Q (.bl (decide (0 ≤ n))) H
theorem sc_is_count : FnScope ["value"] ["value"] (defScope s_is_count) := ⟨rfl, rfl, rfl, by decide +kernel, rfl, by decide +kernel, by decide +kernel⟩
theorem has_is_count (T : Ctx K mg) : Has w K mg base CX0 "is_count" 2 ["value"] spCount := by
  obtain ⟨f1, fd1, m1, kp1, F1, b1⟩ := has_is_whole (w := w) (base := base) T
  refine has_of (st := s_is_count) (f := He.ga K "is_count") T.d_is_count T.g_is_count (fun _ _ _ _ _ _ us hl => match us, hl with | [_], _ => rfl) fun fd F => ?_
  refine ok0 F sc_is_count (fun vs H Q E h => ?_) (fun cdv A outer s H vs Q E hr h => ?_)
  · obtain ⟨n, rfl, _⟩ := h
    rfl
  · obtain ⟨n, rfl, k⟩ := h
    refine ⟨_, pss_one (ps_ret (pe_and (pe_call F1 hr (by rfl) m1 kp1 b1 .nil pass0 (pa_cons (pv 0) pa_nil)) (pe_one (pe_cmpR op_ge (pv 0) pe_int (nomark _))))), ?_⟩
    exact ⟨_, rfl, n, rfl, true, rfl, iteT ⟨_, rfl, _, _, rfl, rfl, k⟩⟩
/-- a list or a tuple stands at a -/
def RowAt (H : Hp) (a : Addr) : Prop := (∃ xs, H a = some (.lst xs)) ∨ ∃ xs, H a = some (.tup xs)
def spRow : Sp := fun vs H Q _ => ∃ a, vs = [.ref a] ∧ RowAt H a ∧ ∀ H', Ex H H' → Q (.bl true) H'
theorem sc_is_row : FnScope ["value"] ["value"] (defScope s_is_row) := ⟨rfl, rfl, rfl, by decide +kernel, rfl, by decide +kernel, by decide +kernel⟩
theorem has_is_row (T : Ctx K mg) : Has w K mg base CX0 "is_row" 1 ["value"] spRow := by
  refine has_of (st := s_is_row) (f := He.ga K "is_row") T.d_is_row T.g_is_row (fun _ _ _ _ _ _ us hl => match us, hl with | [_], _ => rfl) fun fd F => ?_
  refine ok0 F sc_is_row (fun vs H Q E h => ?_) (fun cdv A outer s H vs Q E hr h => ?_)
  · obtain ⟨a, rfl, _⟩ := h
    rfl
  · obtain ⟨a, rfl, ha, k⟩ := h
    refine ⟨_, pss_one (ps_ret (pe_callB call_isiT (by rfl) T.b_isinstance (by decide +kernel) (pa_cons (pv 0) (pa_cons (pe_tup (pa_cons (pe_bltn (by rfl) T.b_tuple (by decide +kernel) (v := .ty "tuple") rfl) (pa_cons (pe_bltn (by rfl) T.b_list (by decide +kernel) (v := .ty "list") rfl) pa_nil))) pa_nil)))), ?_⟩
    refine ⟨_, rfl, (by show 2 ≤ sizeLine; decide), fun p hp => ?_⟩
    have hk : ∀ o, H a = some o → upd H p (.tup [.ty "tuple", .ty "list"]) a = some o := fun o e => by rw [upd_ne (ne_of_none e hp)]; exact e
    rcases ha with ⟨xs, e⟩ | ⟨xs, e⟩
    · exact ⟨_, p, _, _, _, true, rfl, upd_same, .cons (.ty "tuple") (.cons (.ty "list") .nil), .base (.lst (hk _ e)), kitAny_cons (kit_ty (by decide +kernel : kitB "list" "tuple" = some false)) (fun _ => kitAny_cons (kit_ty (by decide +kernel : kitB "list" "list" = some true)) (fun h => nomatch h) fun _ => rfl) (fun h => nomatch h), k _ (Ex.new hp)⟩
    · exact ⟨_, p, _, _, _, true, rfl, upd_same, .cons (.ty "tuple") (.cons (.ty "list") .nil), .base (.tup (hk _ e)), kitAny_cons (kit_ty (by decide +kernel : kitB "tuple" "tuple" = some true)) (fun h => nomatch h) (fun _ => rfl), k _ (Ex.new hp)⟩
def spPair : Sp := fun vs H Q _ => ∃ a x y, vs = [.ref a] ∧ H a = some (.tup [x, y]) ∧ ∀ H', Ex H H' → Q (.bl true) H'
theorem sc_is_pair : FnScope ["value"] ["value"] (defScope s_is_pair) := ⟨rfl, rfl, rfl, by decide +kernel, rfl, by decide +kernel, by decide +kernel⟩
theorem has_is_pair (T : Ctx K mg) : Has w K mg base CX0 "is_pair" 2 ["value"] spPair := by
  obtain ⟨f1, fd1, m1, kp1, F1, b1⟩ := has_is_row (w := w) (base := base) T
  refine has_of (st := s_is_pair) (f := He.ga K "is_pair") T.d_is_pair T.g_is_pair (fun _ _ _ _ _ _ us hl => match us, hl with | [_], _ => rfl) fun fd F => ?_
  refine ok0 F sc_is_pair (fun vs H Q E h => ?_) (fun cdv A outer s H vs Q E hr h => ?_)
  · obtain ⟨a, x, y, rfl, _⟩ := h
    rfl
  · obtain ⟨a, x, y, rfl, ha, k⟩ := h
    refine ⟨_, pss_one (ps_ret (pe_and (pe_call F1 hr (by rfl) m1 kp1 b1 .nil pass0 (pa_cons (pv 0) pa_nil)) (pe_one (pe_cmpR op_eq (pe_callB call_len_seq (by rfl) T.b_len PySem.boot_len (pa_cons (pv 0) pa_nil)) pe_int (nomark _))))), ?_⟩
    refine ⟨_, rfl, a, rfl, .inr ⟨_, ha⟩, fun H1 e1 => ⟨true, rfl, iteT ?_⟩⟩
    refine ⟨_, rfl, a, [x, y], rfl, .inr (SqT.of (e1 _ _ ha)), rfl, ?_⟩
    show Q (V.bl (decide (V.int 2 = V.int 2))) H1
    rw [decide_eq_true rfl]
    exact k H1 e1
def spRun : Sp := fun vs H Q _ => ∃ (s : Int) (a : Addr) (x y : Int), vs = [.int s, .ref a] ∧ H a = some (.tup [.int x, .int y]) ∧ ∀ H', Ex H H' → Q (.bl (decide (0 ≤ x ∧ x < y ∧ y ≤ s))) H'
theorem sc_is_run : FnScope ["size", "run"] ["size", "run"] (defScope s_is_run) := ⟨rfl, rfl, rfl, by decide +kernel, rfl, by decide +kernel, by decide +kernel⟩
theorem has_is_run (T : Ctx K mg) : Has w K mg base CX0 "is_run" 3 ["size", "run"] spRun := by
  obtain ⟨f1, fd1, m1, kp1, F1, b1⟩ := has_is_pair (w := w) (base := base) T
  obtain ⟨f2, fd2, m2, kp2, F2, b2⟩ := has_is_within (w := w) (base := base) T
  refine has_of (st := s_is_run) (f := He.ga K "is_run") T.d_is_run T.g_is_run (fun _ _ _ _ _ _ us hl => match us, hl with | [_, _], _ => rfl) fun fd F => ?_
  refine ok0 F sc_is_run (fun vs H Q E h => ?_) (fun cdv A outer s H vs Q E hr h => ?_)
  · obtain ⟨s, a, x, y, rfl, _⟩ := h
    rfl
  · obtain ⟨s, a, x, y, rfl, ha, k⟩ := h
    refine ⟨_, pss_cons (ps_if (pt_not (pt_val (pe_call F1 hr (by rfl) m1 kp1 b1 .nil pass0 (pa_cons (pv 1) pa_nil)))) (pss_one (ps_ret pe_bl)) pss_nil)
      (pss_one (ps_ret (pe_and (pe_call F2 hr (by rfl) m2 kp2 b2 .nil pass0 (pa_cons (pe_ix ix_tup (pv 1) pe_int (fun _ _ => rfl)) (pa_cons pe_int (pa_cons (pv 0) pa_nil))))
        (pe_and (pe_call F2 hr (by rfl) m2 kp2 b2 .nil pass0 (pa_cons (pe_ix ix_tup (pv 1) pe_int (fun _ _ => rfl)) (pa_cons pe_int (pa_cons (pv 0) pa_nil))))
          (pe_one (pe_cmpR op_lt (pe_ix ix_tup (pv 1) pe_int (fun _ _ => rfl)) (pe_ix ix_tup (pv 1) pe_int (fun _ _ => rfl)) (nomark _))))))), ?_⟩
    refine ⟨_, rfl, a, _, _, rfl, ha, fun H1 e1 => ⟨true, rfl, iteF ?_⟩⟩
    have h1 := e1 _ _ ha
    have t1 : SqT K H1 a [V.int x, V.int y] := SqT.of h1
    refine ⟨_, rfl, a, _, _, _, rfl, rfl, t1, rfl, _, rfl, x, 0, s, rfl, _, rfl, ?_⟩
    have k1 := k H1 e1
    by_cases c1 : 0 ≤ x ∧ x ≤ s
    · rw [decide_eq_true c1]
      refine iteT ?_
      refine ⟨_, rfl, a, _, _, _, rfl, rfl, t1, rfl, _, rfl, y, 0, s, rfl, _, rfl, ?_⟩
      by_cases c2 : 0 ≤ y ∧ y ≤ s
      · rw [decide_eq_true c2]
        refine iteT ?_
        refine ⟨_, rfl, a, _, _, _, rfl, rfl, t1, rfl, _, rfl, a, _, _, _, rfl, rfl, t1, rfl, _, _, rfl, rfl, ?_⟩
        have e : decide (0 ≤ x ∧ x < y ∧ y ≤ s) = decide (x < y) := by
          apply decide_eq_decide.mpr
          omega
        rw [e] at k1
        exact k1
      · rw [decide_eq_false c2]
        refine iteF ?_
        have e : decide (0 ≤ x ∧ x < y ∧ y ≤ s) = false := decide_eq_false (by omega)
        rw [e] at k1
        exact k1
    · rw [decide_eq_false c1]
      refine iteF ?_
      have e : decide (0 ≤ x ∧ x < y ∧ y ≤ s) = false := decide_eq_false (by omega)
      rw [e] at k1
      exact k1
end
end K05


set_option Elab.async false
set_option linter.all false
set_option maxRecDepth 100000
set_option maxHeartbeats 4000000
namespace K05
open PySem PySem.Spec PyProof.Rows L2
open Evl (Ex)
theorem Ex.lst {K : PySem.W.Frag} {H H' : Hp} {a : Addr} {xs : List V} (e : Ex H H') (h : H a = some (.lst xs)) : SqL K H' a xs := SqL.of (e _ _ h)
theorem Ex.tup {K : PySem.W.Frag} {H H' : Hp} {a : Addr} {xs : List V} (e : Ex H H') (h : H a = some (.tup xs)) : SqT K H' a xs := SqT.of (e _ _ h)
section
variable {w : World} {K : PySem.W.Frag} {mg : Str → Option Value} {base : Heap}
/-! ### first_wrong: where nothing is wrong -/
def spFirst : Sp := fun vs H Q _ => ∃ a xs, vs = [.ref a] ∧ H a = some (.lst xs) ∧ (∀ (i : Nat) (x : V), xs[i]? = some x → x = V.bl true) ∧ ∀ H', Ex H H' → Q .non H'
theorem sc_first_wrong : FnScope ["flags", "place", "flag"] ["flags"] (defScope s_first_wrong) := ⟨rfl, rfl, rfl, by decide +kernel, rfl, by decide +kernel, by decide +kernel⟩
theorem has_first_wrong (T : Ctx K mg) : Has w K mg base CX0 "first_wrong" 1 ["flags"] spFirst := by
  refine has_of (st := s_first_wrong) (f := He.ga K "first_wrong") T.d_first_wrong T.g_first_wrong (fun _ _ _ _ _ _ us hl => match us, hl with | [_], _ => rfl) fun fd F => ?_
  refine ok0 F sc_first_wrong (fun vs H Q E h => ?_) (fun cdv A outer s H vs Q E hr h => ?_)
  · obtain ⟨a, xs, rfl, _⟩ := h
    rfl
  · obtain ⟨a, xs, rfl, ha, hx, k⟩ := h
    have nd := sc_first_wrong.nd
    refine ⟨_, pss_cons (ps_for PassesOwn.never rfl (pi_enum (by rfl) T.b_enumerate (pa_cons (pv 0) pa_nil)) (pg_tup (by rfl) (pgs_cons (pg_name (i := 1) nd rfl (.inl rfl)) (pgs_cons (pg_name (i := 2) nd rfl (.inl rfl)) pgs_nil)))
        (pss_one (ps_if (pt_not (pt_val (pv 2))) (pss_one (ps_ret (pv 1))) pss_nil)))
      (pss_one (ps_ret pe_non)), ?_⟩
    refine ⟨_, rfl, a, xs, rfl, SqL.of ha, for_it walk_enum (fun i σ H' => ∃ p f : Option V, σ = [some (.ref a), p, f] ∧ Ex H H') ⟨none, none, rfl, Ex.refl H⟩ (fun i σ H' _ ⟨_, _, _, e⟩ => Ex.lst e ha) ?_ ?_⟩
    · rintro i v σ H1 H2 hi ⟨p, f, rfl, e⟩ ⟨t, x, y, rfl, ht, rfl, hx1, hy⟩
      cases hx1
      have := hx i y hy
      subst this
      refine ⟨t, _, rfl, SqT.of upd_same, rfl, _, _, rfl, _, _, rfl, rfl, ?_⟩
      refine ⟨_, rfl, true, rfl, iteF ?_⟩
      exact ⟨_, _, rfl, e.trans (Ex.new ht)⟩
    · rintro σ H1 ⟨p, f, rfl, e⟩
      exact k H1 e

theorem asc_eq : ∀ {l l' : List Int}, l.Pairwise (· < ·) → l'.Pairwise (· < ·) → (∀ k, k ∈ l ↔ k ∈ l') → l = l'
  | [], [], _, _, _ => rfl
  | [], y :: ys, _, _, h => absurd ((h y).mpr (List.mem_cons_self ..)) (by simp)
  | x :: xs, [], _, _, h => absurd ((h x).mp (List.mem_cons_self ..)) (by simp)
  | x :: xs, y :: ys, h1, h2, h => by
    have a1 := List.pairwise_cons.mp h1
    have a2 := List.pairwise_cons.mp h2
    have e : x = y := by
      rcases List.mem_cons.mp ((h x).mp (List.mem_cons_self ..)) with e | e
      · exact e
      · rcases List.mem_cons.mp ((h y).mpr (List.mem_cons_self ..)) with e' | e'
        · exact e'.symm
        · have := a1.1 y e'
          have := a2.1 x e
          omega
    subst e
    rw [asc_eq a1.2 a2.2 fun k => ?_]
    have hk := h k
    constructor
    · intro q
      have := a1.1 k q
      rcases List.mem_cons.mp (hk.mp (List.mem_cons_of_mem _ q)) with z | z
      · omega
      · exact z
    · intro q
      have := a2.1 k q
      rcases List.mem_cons.mp (hk.mpr (List.mem_cons_of_mem _ q)) with z | z
      · omega
      · exact z
theorem take_succ_mem {ns : List Int} {i : Nat} {z : Int} (h : ns[i]? = some z) (k : Int) : k ∈ ns.take (i + 1) ↔ k ∈ ns.take i ∨ k = z := by
  have e : ns.take (i + 1) = ns.take i ++ [z] := by
    rw [List.take_add_one, h]
    rfl
  rw [e, List.mem_append, List.mem_singleton]
theorem asc_new {ns : List Int} {i : Nat} {z : Int} (hp : ns.Pairwise (· < ·)) (h : ns[i]? = some z) : z ∉ ns.take i := by
  intro q
  obtain ⟨j, hj, e⟩ := List.mem_iff_getElem.mp q
  have hi := (List.getElem?_eq_some_iff.mp h)
  obtain ⟨hil, hie⟩ := hi
  rw [List.length_take] at hj
  have hji : j < i := by omega
  have := List.pairwise_iff_getElem.mp hp j i (by omega) hil hji
  rw [List.getElem_take] at e
  omega
theorem map_int_get {ns : List Int} {i : Nat} {y : V} (h : (ns.map V.int)[i]? = some y) : ∃ z, ns[i]? = some z ∧ y = V.int z := by
  rw [List.getElem?_map] at h
  cases e : ns[i]? with
  | none => rw [e] at h; cases h
  | some z => rw [e] at h; exact ⟨z, rfl, (Option.some.inj h).symm⟩
/-! ### set_of: of ascending parts -/
def spSetOf : Sp := fun vs H Q _ => ∃ (m : Int) (a : Addr) (ns : List Int), vs = [.int m, .ref a] ∧ H a = some (.lst (ns.map V.int)) ∧ ns.Pairwise (· < ·) ∧ (∀ n ∈ ns, 0 ≤ n ∧ n < m) ∧ 0 ≤ m ∧ ns.length < 60 ∧
  ∀ H' p, Ex H H' → H p = none → H' p = some (.tup (ns.map V.int)) → Q (.ref p) H'
theorem sc_set_of : FnScope ["many", "parts", "seen", "place", "part"] ["many", "parts"] (defScope s_set_of) := ⟨rfl, rfl, rfl, by decide +kernel, rfl, by decide +kernel, by decide +kernel⟩
theorem has_set_of (T : Ctx K mg) : Has w K mg base CX0 "set_of" 3 ["many", "parts"] spSetOf := by
  obtain ⟨f1, fd1, m1, kp1, F1, b1⟩ := has_is_count (w := w) (base := base) T
  obtain ⟨f2, fd2, m2, kp2, F2, b2⟩ := has_is_row (w := w) (base := base) T
  obtain ⟨f3, fd3, m3, kp3, F3, b3⟩ := has_is_within (w := w) (base := base) T
  refine has_of (st := s_set_of) (f := He.ga K "set_of") T.d_set_of T.g_set_of (fun _ _ _ _ _ _ us hl => match us, hl with | [_, _], _ => rfl) fun fd F => ?_
  refine ok0 F sc_set_of (fun vs H Q E h => ?_) (fun cdv A outer s H vs Q E hr h => ?_)
  · obtain ⟨m, a, ns, rfl, _⟩ := h
    rfl
  · obtain ⟨m, a, ns, rfl, ha, hp, hb, hm, hl, k⟩ := h
    have nd := sc_set_of.nd
    have hr1 := hr.mono (show 1 ≤ 2 by decide)
    refine ⟨_, pss_cons (ps_if (pt_not (pt_val (pe_call F1 hr (by rfl) m1 kp1 b1 .nil pass0 (pa_cons (pv 0) pa_nil)))) (pss_one ps_never) pss_nil)
      (pss_cons (ps_if (pt_not (pt_val (pe_call F2 hr1 (by rfl) m2 kp2 b2 .nil pass0 (pa_cons (pv 1) pa_nil)))) (pss_one ps_never) pss_nil)
      (pss_cons (ps_set (i := 2) nd rfl (.inl rfl) (pe_callTy0 cr_set0 (by rfl) T.b_set (by decide +kernel)))
      (pss_cons (ps_for PassesOwn.never rfl (pi_enum (by rfl) T.b_enumerate (pa_cons (pv 1) pa_nil)) (pg_tup (by rfl) (pgs_cons (pg_name (i := 3) nd rfl (.inl rfl)) (pgs_cons (pg_name (i := 4) nd rfl (.inl rfl)) pgs_nil)))
        (pss_cons (ps_if (PW.pt (pw_or (pt_not (pt_val (pe_call F3 hr (by rfl) m3 kp3 b3 .nil pass0 (pa_cons (pv 4) (pa_cons pe_int (pa_cons (pe_op op_sub (pv 0) pe_int) pa_nil)))))) (pw_or1 (pt_cmpR or_sin (pv 4) (pv 2) (by rfl))))) (pss_one ps_never) pss_nil)
        (pss_one (ps_expr (pe_sadd (pv 2) (pa_cons (pv 4) pa_nil))))))
      (pss_one (ps_ret (pe_callTy call_tuple_of (by rfl) T.b_tuple (by decide +kernel) (pa_cons (pe_callB (cr_sortedSet rfl) (by rfl) T.b_sorted (by decide +kernel) (pa_cons (pv 2) pa_nil)) pa_nil))))))), ?_⟩
    refine ⟨_, rfl, m, rfl, decide (0 ≤ m), rfl, ?_⟩
    rw [decide_eq_true hm]
    refine iteF ?_
    refine ⟨_, rfl, a, rfl, .inl ⟨_, ha⟩, fun H1 e1 => ⟨true, rfl, iteF ?_⟩⟩
    refine ⟨rfl, fun q hq => ?_⟩
    have e2 : Ex H (upd H1 q (SetO w q (fun _ => false) 0)) := e1.trans (Ex.new hq)
    have hq0 : H q = none := Evl.fresh_back e1 hq
    refine ⟨_, rfl, a, _, rfl, Ex.lst e2 ha, for_it walk_enum (fun i σ H' => ∃ (p f : Option V) (S : Int → Bool), σ = [some (.int m), some (.ref a), some (.ref q), p, f] ∧ Ex H H' ∧ H' q = some (SetO w q S i) ∧ ∀ j, S j = true ↔ j ∈ ns.take i)
      ⟨none, none, _, rfl, e2, upd_same, fun j => by simp⟩ (fun i σ H' _ ⟨_, _, _, _, e, _⟩ => Ex.lst e ha) ?_ ?_⟩
    · rintro i v σ H2 H3 hi ⟨p, f, S, rfl, e3, hS, hSm⟩ ⟨t, x, y, rfl, ht, rfl, hx1, hy⟩
      cases hx1
      obtain ⟨z, hz, rfl⟩ := map_int_get hy
      have hzb := hb z (List.mem_of_getElem? hz)
      have hqt : q ≠ t := ne_of_none hS ht
      have hSf : S z = false := by
        cases c : S z with
        | false => rfl
        | true => exact absurd ((hSm z).mp c) (asc_new hp hz)
      have hil : i < ns.length := (List.getElem?_eq_some_iff.mp hz).1
      refine ⟨t, _, rfl, SqT.of upd_same, rfl, _, _, rfl, _, _, rfl, rfl, ?_⟩
      refine ⟨_, rfl, _, rfl, _, _, rfl, rfl, z, 0, m - 1, rfl, decide (0 ≤ z ∧ z ≤ m - 1), rfl, ?_⟩
      rw [decide_eq_true (show 0 ≤ z ∧ z ≤ m - 1 by omega)]
      refine iteF ?_
      refine ⟨_, rfl, _, rfl, z, q, S, i, rfl, rfl, by rw [upd_ne hqt]; exact hS, S z, rfl, ?_⟩
      rw [hSf]
      refine iteF ?_
      refine ⟨_, rfl, ⟨q, S, i, rfl, by rw [upd_ne hqt]; exact hS⟩, _, rfl, q, z, S, i, rfl, rfl, by rw [upd_ne hqt]; exact hS, ?_, ?_⟩
      · show i + 1 < 4096
        omega
      · rw [hSf, if_neg Bool.false_ne_true]
        refine ⟨_, _, _, rfl, Evl.Ex.mut (e3.trans (Ex.new ht)) hq0, upd_same, fun j => ?_⟩
        rw [take_succ_mem hz, Bool.or_eq_true, decide_eq_true_iff, hSm]
    · rintro σ H2 ⟨p, f, S, rfl, e3, hS, hSm⟩
      rw [List.length_map] at hS hSm
      rw [List.take_length] at hSm
      refine ⟨_, rfl, q, S, _, rfl, hS, by omega, fun ns' p' hp' hmem hlen hnew => ?_⟩
      have en : ns' = ns := asc_eq hp' hp fun j => (hmem j).trans (hSm j)
      subst en
      refine ⟨p', _, rfl, .inl ⟨SqL.of upd_same, fun l hl2 => ?_⟩⟩
      exact k _ _ ((e3.trans (Ex.new hnew)).trans (Ex.new hl2)) (Evl.fresh_back (e3.trans (Ex.new hnew)) hl2) upd_same
end
end K05


set_option Elab.async false
set_option linter.all false
set_option maxRecDepth 100000
set_option maxHeartbeats 4000000
namespace K05
open PySem PySem.Spec PyProof.Rows L2
open Evl (Ex)
/-- vs stand for the runs rs, each one a tuple -/
structure Runs (H : Hp) (vs : List V) (rs : List (Int × Int)) : Prop where
  len : vs.length = rs.length
  at_ : ∀ (i : Nat) (r : Int × Int), rs[i]? = some r → ∃ t, vs[i]? = some (.ref t) ∧ H t = some (.tup [.int r.1, .int r.2])
theorem Runs.mono {H H' : Hp} {vs : List V} {rs : List (Int × Int)} (h : Runs H vs rs) (e : ∀ t xs, H t = some (.tup xs) → H' t = some (.tup xs)) : Runs H' vs rs :=
  ⟨h.len, fun i r hi => let ⟨t, a, b⟩ := h.at_ i r hi; ⟨t, a, e _ _ b⟩⟩
theorem Runs.ex {H H' : Hp} {vs : List V} {rs : List (Int × Int)} (h : Runs H vs rs) (e : Ex H H') : Runs H' vs rs := h.mono fun _ _ q => e _ _ q
theorem Runs.get {H : Hp} {vs : List V} {rs : List (Int × Int)} (h : Runs H vs rs) {i : Nat} {v : V} (hv : vs[i]? = some v) : ∃ t r, rs[i]? = some r ∧ v = .ref t ∧ H t = some (.tup [.int r.1, .int r.2]) := by
  have hi : i < rs.length := by
    rw [← h.len]
    exact (List.getElem?_eq_some_iff.mp hv).1
  obtain ⟨t, a, b⟩ := h.at_ i rs[i] (by simp [hi])
  rw [hv] at a
  exact ⟨t, rs[i], by simp [hi], Option.some.inj a, b⟩
/-- a run over a row of s places -/
def Fits (s : Int) (r : Int × Int) : Prop := 0 ≤ r.1 ∧ r.1 < r.2 ∧ r.2 ≤ s
section
variable {w : World} {K : PySem.W.Frag} {mg : Str → Option Value} {base : Heap}
theorem tYesI {σ : L2.St} {H : Hp} {F G : Hp → Prop} (h : F H) : tYes σ H (fun b H3 => if b = true then F H3 else G H3) := by
  show if true = true then F H else G H
  exact iteT h
def rTupT (K : PySem.W.Frag) : List V → Hp → VK → Prop := fun xs H Q => ∃ a ys, xs = [.ref a] ∧ SqT K H a ys ∧ Q (.ref a) H
theorem cr_tupT {X : Cx} (h : X.K = K) : CallR X (.type "tuple") (rTupT K) := by
  subst h
  exact call_tupleT
def spChecked : Sp := fun vs H Q _ => ∃ (s : Int) (a : Addr) (us : List V) (rs : List (Int × Int)), vs = [.int s, .ref a] ∧ H a = some (.lst us) ∧ Runs H us rs ∧ (∀ r ∈ rs, Fits s r) ∧ us.length ≤ 1000 ∧
  ∀ H' p, Ex H H' → H p = none → H' p = some (.tup us) → Q (.ref p) H'
theorem sc_checked_runs : FnScope ["size", "runs", "place", "run"] ["size", "runs"] (defScope s_checked_runs) := ⟨rfl, rfl, rfl, by decide +kernel, rfl, by decide +kernel, by decide +kernel⟩
theorem has_checked_runs (T : Ctx K mg) : Has w K mg base CX0 "checked_runs" 4 ["size", "runs"] spChecked := by
  obtain ⟨f1, fd1, m1, kp1, F1, b1⟩ := has_is_row (w := w) (base := base) T
  obtain ⟨f2, fd2, m2, kp2, F2, b2⟩ := has_first_wrong (w := w) (base := base) T
  obtain ⟨f3, fd3, m3, kp3, F3, b3⟩ := has_is_run (w := w) (base := base) T
  refine has_of (st := s_checked_runs) (f := He.ga K "checked_runs") T.d_checked_runs T.g_checked_runs (fun _ _ _ _ _ _ us hl => match us, hl with | [_, _], _ => rfl) fun fd F => ?_
  refine ok0 F sc_checked_runs (fun vs H Q E h => ?_) (fun cdv A outer s H vs Q E hr h => ?_)
  · obtain ⟨m, a, us, rs, rfl, _⟩ := h
    rfl
  · obtain ⟨m, a, us, rs, rfl, ha, hR, hF, hl, k⟩ := h
    have nd := sc_checked_runs.nd
    have hr1 := hr.mono (show 1 ≤ 3 by decide)
    refine ⟨_, pss_cons (ps_if (pt_not (pt_val (pe_call F1 hr1 (by rfl) m1 kp1 b1 .nil pass0 (pa_cons (pv 1) pa_nil)))) (pss_one ps_never) pss_nil)
      (pss_cons (ps_set (i := 2) nd rfl (.inl rfl) (pe_call F2 hr1 (by rfl) m2 kp2 b2 .nil pass0 (pa_cons
        (pe_lc (own := [("run", 3)]) (g := gName 3) (tt := tYes) rfl nd (pi_list (pv 1)) (blkOk_by (own := [("run", 3)]) (N := ["size", "runs", "place", "run"]) (sc := defScope s_checked_runs) (by decide +kernel)) (fun _ _ _ _ _ => pg_name (i := 3) nd rfl (Or.inl rfl)) (fun _ _ _ _ _ => pts_nil)
          (fun _ _ _ _ _ => pe_call F3 hr (by rfl) m3 kp3 b3 .nil pass0 (pa_cons (pv 0) (pa_cons (pv 3) pa_nil)))) pa_nil)))
      (pss_cons (ps_if (pt_cmpR op_notN (pv 2) pe_non (nomark _)) (pss_one ps_never) pss_nil)
      (pss_one (ps_ret (pe_callTy call_tuple_of (by rfl) T.b_tuple (by decide +kernel) (pa_cons
        (pe_lc (own := [("run", 3)]) (g := gName 3) (tt := tYes) rfl nd (pi_list (pv 1)) (blkOk_by (own := [("run", 3)]) (N := ["size", "runs", "place", "run"]) (sc := defScope s_checked_runs) (by decide +kernel)) (fun _ _ _ _ _ => pg_name (i := 3) nd rfl (Or.inl rfl)) (fun _ _ _ _ _ => pts_nil)
          (fun _ _ _ _ _ => pe_callTy (T := "tuple") (cr_tupT (K := K) rfl) (by rfl) T.b_tuple (by decide +kernel) (pa_cons (pv 3) pa_nil))) pa_nil)))))), ?_⟩
    refine ⟨_, rfl, a, rfl, .inl ⟨_, ha⟩, fun H1 e1 => ⟨true, rfl, iteF ?_⟩⟩
    refine ⟨_, rfl, a, rfl, ⟨_, Ex.lst e1 ha⟩, fun D hD => lc_list (xs := us) (fun i H' => Ex H H' ∧ H' D = some (.lst (List.replicate i (V.bl true)))) ⟨e1.trans (Ex.new hD), upd_same⟩ (fun i H' _ q => Ex.lst q.1 ha) ?_ ?_⟩
    · rintro i x H2 hx ⟨e2, hD2⟩
      obtain ⟨t, r, hr', rfl, ht⟩ := (hR.ex e2).get hx
      have hf := hF r (List.mem_of_getElem? hr')
      refine ⟨rfl, ?_⟩
      refine tYesI ?_
      refine ⟨_, rfl, _, rfl, m, t, r.1, r.2, rfl, ht, fun H3 e3 => ?_⟩
      have hil : i < us.length := (List.getElem?_eq_some_iff.mp hx).1
      refine ⟨_, e3 _ _ hD2, by rw [List.length_replicate]; exact small1000 (by omega), Evl.Ex.mut (e2.trans e3) (Evl.fresh_back e1 hD), ?_⟩
      rw [upd_same, decide_eq_true (show 0 ≤ r.1 ∧ r.1 < r.2 ∧ r.2 ≤ m from hf), List.replicate_succ']
    · rintro H2 ⟨e2, hD2⟩
      refine ⟨D, _, rfl, hD2, fun i x hx => ?_, fun H3 e3 => ?_⟩
      · rw [List.getElem?_replicate] at hx
        split at hx
        · exact (Option.some.inj hx).symm
        · cases hx
      · have e4 := e2.trans e3
        refine ⟨_, rfl, rfl, _, rfl, iteF ?_⟩
        refine ⟨_, rfl, a, rfl, ⟨_, Ex.lst e4 ha⟩, fun D2 hD2' => lc_list (xs := us) (fun i H' => Ex H H' ∧ H' D2 = some (.lst (us.take i))) ⟨e4.trans (Ex.new hD2'), upd_same⟩ (fun i H' _ q => Ex.lst q.1 ha) ?_ ?_⟩
        · rintro i x H5 hx ⟨e5, hD5⟩
          obtain ⟨t, r, hr', rfl, ht⟩ := (hR.ex e5).get hx
          refine ⟨rfl, ?_⟩
          refine tYesI ?_
          refine ⟨_, rfl, t, _, rfl, SqT.of ht, ?_⟩
          refine ⟨_, hD5, ?_, Evl.Ex.mut e5 (Evl.fresh_back e4 hD2'), ?_⟩
          · rw [List.length_take]
            exact small1000 (by omega)
          · rw [upd_same, List.take_add_one, hx]
            rfl
        · rintro H5 ⟨e5, hD5⟩
          rw [List.take_length] at hD5
          exact ⟨D2, us, rfl, .inl ⟨SqL.of hD5, fun l hl2 => k _ l (e5.trans (Ex.new hl2)) (Evl.fresh_back e5 hl2) upd_same⟩⟩
end
end K05


set_option Elab.async false
set_option linter.all false
set_option maxRecDepth 100000
set_option maxHeartbeats 4000000
namespace K05
open PySem PySem.Spec PyProof.Rows L2
open Evl (Ex)
/-! ### markets -/
theorem k_rs : ¬ (("runs" : Str) = "size") := by decide +kernel
theorem k_sr : ¬ (("size" : Str) = "runs") := by decide +kernel
theorem k_gs : ¬ (("gone" : Str) = "size") := by decide +kernel
theorem k_sg : ¬ (("size" : Str) = "gone") := by decide +kernel
theorem k_rg : ¬ (("runs" : Str) = "gone") := by decide +kernel
theorem k_gr : ¬ (("gone" : Str) = "runs") := by decide +kernel
def mflds (s : Int) (pr pg : Addr) : List (Str × V) := putF "gone" (.ref pg) (putF "runs" (.ref pr) (putF "size" (.int s) []))
theorem mf_size (s : Int) (pr pg : Addr) : (mflds s pr pg).lookup ("size" : Str) = some (.int s) := by
  unfold mflds
  rw [lookup_putF, if_neg k_sg, lookup_putF, if_neg k_sr, lookup_putF, if_pos rfl]
theorem mf_runs (s : Int) (pr pg : Addr) : (mflds s pr pg).lookup ("runs" : Str) = some (.ref pr) := by
  unfold mflds
  rw [lookup_putF, if_neg k_rg, lookup_putF, if_pos rfl]
theorem mf_gone (s : Int) (pr pg : Addr) : (mflds s pr pg).lookup ("gone" : Str) = some (.ref pg) := by
  unfold mflds
  rw [lookup_putF, if_pos rfl]
theorem mf_no (s : Int) (pr pg : Addr) {m : Str} (h1 : ¬ m = "size") (h2 : ¬ m = "runs") (h3 : ¬ m = "gone") : (mflds s pr pg).lookup m = none := by
  unfold mflds
  rw [lookup_putF, if_neg h3, lookup_putF, if_neg h2, lookup_putF, if_neg h1]
  all_goals rfl
/-- the class at C is the market's class of this kind -/
def IsM (K : PySem.W.Frag) (C : Addr) (kind : Str) : Prop := (C = He.ga K "Join" ∧ kind = "join") ∨ (C = He.ga K "Lap" ∧ kind = "lap")
section
variable {w : World} {K : PySem.W.Frag} {mg : Str → Option Value} {base : Heap} {C : Addr} {kind : Str}
theorem IsM.cl (h : IsM K C kind) (T : Ctx K mg) : Cls K C := by
  rcases h with ⟨rfl, _⟩ | ⟨rfl, _⟩
  · exact T.cl_Join
  · exact T.cl_Lap
theorem IsM.nS (h : IsM K C kind) (T : Ctx K mg) : NoAttr K C "size" := by
  rcases h with ⟨rfl, _⟩ | ⟨rfl, _⟩
  · exact T.no_Join_size
  · exact T.no_Lap_size
theorem IsM.nR (h : IsM K C kind) (T : Ctx K mg) : NoAttr K C "runs" := by
  rcases h with ⟨rfl, _⟩ | ⟨rfl, _⟩
  · exact T.no_Join_runs
  · exact T.no_Lap_runs
theorem IsM.nG (h : IsM K C kind) (T : Ctx K mg) : NoAttr K C "gone" := by
  rcases h with ⟨rfl, _⟩ | ⟨rfl, _⟩
  · exact T.no_Join_gone
  · exact T.no_Lap_gone
theorem IsM.con (h : IsM K C kind) (T : Ctx K mg) : ∃ u, Con K C "KIND" (.str kind) u := by
  rcases h with ⟨rfl, rfl⟩ | ⟨rfl, rfl⟩
  · exact T.kind_Join
  · exact T.kind_Lap
/-- what a market is made of -/
structure MArg (H : Hp) (s : Int) (a g : Addr) (us : List V) (rs : List (Int × Int)) (ns : List Int) : Prop where
  ha : H a = some (.lst us)
  runs : Runs H us rs
  fits : ∀ r ∈ rs, Fits s r
  few : us.length ≤ 50
  hg : H g = some (.lst (ns.map V.int))
  asc : ns.Pairwise (· < ·)
  inn : ∀ n ∈ ns, 0 ≤ n ∧ n < us.length
  size : 1 ≤ s ∧ s ≤ 30
theorem asc_few : ∀ {ns : List Int} {lo m : Int}, ns.Pairwise (· < ·) → (∀ n ∈ ns, lo ≤ n ∧ n < m) → lo ≤ m → (ns.length : Int) ≤ m - lo
  | [], lo, m, _, _, h => by simp; omega
  | n :: ns, lo, m, hp, hb, h => by
    have hp' := List.pairwise_cons.mp hp
    have h0 := hb n (List.mem_cons_self ..)
    have := asc_few (ns := ns) (lo := n + 1) (m := m) hp'.2 (fun k hk => ⟨by have := hp'.1 k hk; omega, (hb k (List.mem_cons_of_mem _ hk)).2⟩) (by omega)
    rw [List.length_cons]
    push_cast
    omega
def spMarket (K : PySem.W.Frag) : Sp := fun vs H Q _ => ∃ (C x dx a g : Addr) (kind : Str) (s : Int) (us : List V) (rs : List (Int × Int)) (ns : List Int), vs = [.ref x, .int s, .ref a, .ref g] ∧ IsM K C kind ∧ H x = some (.ins C dx []) ∧ MArg H s a g us rs ns ∧
  ∀ H' pr pg, (∀ b o, b ≠ x → H b = some o → H' b = some o) → H pr = none → H pg = none → H' x = some (.ins C dx (mflds s pr pg)) → H' pr = some (.tup us) → H' pg = some (.tup (ns.map V.int)) → Q .non H'
theorem sc_Market_init : FnScope ["self", "size", "runs", "gone"] ["self", "size", "runs", "gone"] (defScope s_Market___init__) := ⟨rfl, rfl, rfl, by decide +kernel, rfl, by decide +kernel, by decide +kernel⟩
theorem ok_Market_init (T : Ctx K mg) {f : Addr} {fd : FuncData} {kws : List (Str × V)} (F : FunD K "__init__" "Market.__init__" (defArgs s_Market___init__) (defBody s_Market___init__) (defScope s_Market___init__) [] kws f fd) :
    FnOk PP w K mg base CX0 5 f fd ["self", "size", "runs", "gone"] (spMarket K) := by
  obtain ⟨f1, fd1, m1, kp1, F1, b1⟩ := has_is_within (w := w) (base := base) T
  obtain ⟨f2, fd2, m2, kp2, F2, b2⟩ := has_checked_runs (w := w) (base := base) T
  obtain ⟨f3, fd3, m3, kp3, F3, b3⟩ := has_set_of (w := w) (base := base) T
  obtain ⟨tg, hG⟩ := T.c_GREATEST_SIZE
  refine ok0 F sc_Market_init (fun vs H Q E h => ?_) (fun cdv A outer s0 H vs Q E hr h => ?_)
  · obtain ⟨C, x, dx, a, g, kind, s, us, rs, ns, rfl, _⟩ := h
    rfl
  · obtain ⟨C, x, dx, a, g, kind, s, us, rs, ns, rfl, hM, hx, A0, k⟩ := h
    have nd := sc_Market_init.nd
    have hr2 := hr.mono (show 2 ≤ 4 by decide)
    have hr3 := hr.mono (show 3 ≤ 4 by decide)
    refine ⟨_, pss_cons (ps_if (pt_not (pt_val (pe_call F1 hr2 (by rfl) m1 kp1 b1 .nil pass0 (pa_cons (pv 1) (pa_cons pe_int (pa_cons (pe_glob (v := .int 30) rfl hG ⟨_, rfl⟩) pa_nil)))))) (pss_one ps_never) pss_nil)
      (pss_cons (ps_fld (pv 0) (pv 1) rfl)
      (pss_cons (ps_fld (pv 0) (pe_call F2 hr (by rfl) m2 kp2 b2 .nil pass0 (pa_cons (pv 1) (pa_cons (pv 2) pa_nil))) rfl)
      (pss_one (ps_fld (pv 0) (pe_call F3 hr3 (by rfl) m3 kp3 b3 .nil pass0 (pa_cons (pe_callB call_len_seq (by rfl) T.b_len PySem.boot_len (pa_cons (pv 2) pa_nil)) (pa_cons (pv 3) pa_nil))) rfl)))), ?_⟩
    refine ⟨_, rfl, s, 1, 30, rfl, decide (1 ≤ s ∧ s ≤ 30), rfl, ?_⟩
    rw [decide_eq_true A0.size]
    refine iteF ?_
    refine ⟨_, rfl, _, rfl, x, C, dx, [], rfl, hx, hM.cl T, hM.nS T, (by show 0 < 1000; decide), ?_⟩
    have nax : a ≠ x := ne_of A0.ha hx (by intro z; cases z)
    have ngx : g ≠ x := ne_of A0.hg hx (by intro z; cases z)
    have ntx : ∀ t xs, H t = some (.tup xs) → t ≠ x := fun t xs e => ne_of e hx (by intro z; cases z)
    -- self.runs
    refine ⟨_, rfl, _, rfl, s, a, us, rs, rfl, by rw [upd_ne nax]; exact A0.ha, A0.runs.mono fun t xs e => by rw [upd_ne (ntx t xs e)]; exact e, A0.fits, by have := A0.few; omega, fun H2 pr e2 hpr hpr2 => ?_⟩
    have hpx : pr ≠ x := fun z => by
      rw [z, upd_same] at hpr
      cases hpr
    have hpr0 : H pr = none := by
      rw [upd_ne hpx] at hpr
      exact hpr
    have hx2 := e2 _ _ (upd_same (H := H) (a := x) (o := .ins C dx (putF "size" (.int s) [])))
    refine ⟨_, rfl, x, C, dx, _, rfl, hx2, hM.cl T, hM.nR T, (by show 1 < 1000; decide), ?_⟩
    -- self.gone
    have keep2 : ∀ b o, b ≠ x → H b = some o → upd H2 x (.ins C dx (putF "runs" (.ref pr) (putF "size" (.int s) []))) b = some o := fun b o hb e => by
      rw [upd_ne hb]
      exact e2 _ _ (by rw [upd_ne hb]; exact e)
    have hlen : (ns.length : Int) ≤ (us.length : Int) - 0 := asc_few A0.asc A0.inn (by omega)
    have few := A0.few
    refine ⟨_, rfl, a, us, rfl, .inl (SqL.of (keep2 _ _ nax A0.ha)), _, rfl, (us.length : Int), g, ns, rfl, keep2 _ _ ngx A0.hg, A0.asc, A0.inn, by omega, by omega, fun H3 pg e3 hpg hpg2 => ?_⟩
    have hpx2 : pg ≠ x := fun z => by
      rw [z, upd_same] at hpg
      cases hpg
    have hpg0 : H pg = none := by
      cases c : H pg with
      | none => rfl
      | some o =>
        rw [keep2 _ _ hpx2 c] at hpg
        cases hpg
    have hx3 := e3 _ _ (upd_same (H := H2) (a := x) (o := .ins C dx (putF "runs" (.ref pr) (putF "size" (.int s) []))))
    refine ⟨_, rfl, x, C, dx, _, rfl, hx3, hM.cl T, hM.nG T, (by show 2 < 1000; decide), ?_⟩
    refine k _ pr pg (fun b o hb e => ?_) hpr0 hpg0 upd_same ?_ ?_
    · rw [upd_ne hb]
      exact e3 _ _ (keep2 _ _ hb e)
    · rw [upd_ne hpx]
      exact e3 _ _ (by rw [upd_ne hpx]; exact hpr2)
    · rw [upd_ne hpx2]
      exact hpg2
end
end K05


set_option Elab.async false
set_option linter.all false
set_option maxRecDepth 100000
set_option maxHeartbeats 4000000
/-! a == b by an own __eq__ that answers True or False; len(a) by an own __len__. -/
namespace L2
open PySem PySem.Spec PyProof.Rows
section
variable {X : Cx} {k : Nat} {f C : Addr} {fd : FuncData} {ps : List Str} {sp : Sp} {E : XK}
/-- a == b, a of the class C whose __eq__ is the def at f -/
def rOwnEq (K : PySem.W.Frag) (C : Addr) (sp : Sp) : R2 := fun x y H Q => ∃ a b C' dx dy fs gs, x = .ref a ∧ y = .ref b ∧ H a = some (.ins C dx fs) ∧ H b = some (.ins C' dy gs) ∧ PySem.W.notFirst K C (.ref C') = true ∧
  sp [.ref a, .ref b] H (fun v H' => ∃ t, v = .bl t ∧ Q (.bl t) H') E0
theorem op_ownEq (F : FnOk X.prog X.w X.K X.mg X.base CX0 k f fd ps sp) (hs : PySem.W.findIn X.K (.ref C) "__eq__" = some (some (.ref f))) (hf : PySem.W.isFn X.K (.ref f) = true) (hb : Binds X.K fd ps []) (hr : Room k X.A) :
    OpR X (compareOp .Eq) (rOwnEq X.K C sp) := by
  intro pins s σ H x y v u Q I rx ry hq
  obtain ⟨a, b, C', dx, dy, fs, gs, rfl, rfl, ha, hb', hn, hsp⟩ := hq
  cases rx
  cases ry
  obtain ⟨mA, J, _⟩ := ins_get I.hok ha
  obtain ⟨mB, J', _⟩ := ins_get I.hok hb'
  obtain ⟨od, J, _⟩ := J.look
  obtain ⟨od', J', _⟩ := J'.look
  obtain ⟨m, hF⟩ := I.fr
  show wpAny (model X.prog X.w) X.A (richCompare .Eq (.ref a) (.ref b)) (EP X pins σ Q) X.xe s
  refine PySem.W.cmp_K (op := .Eq) (tb := .ref C') hr.units0 hF I.ok.mod.kin J J'.type hn hs hf ?_
  have r2 : Vals [V.ref a, V.ref b] [Value.ref a, Value.ref b] := .cons rfl (.cons rfl .nil)
  refine wpAny_mono (run_fn (Q := fun v H' => ∃ t, v = .bl t ∧ Q (.bl t) H') (us := [.ref a, .ref b]) (vs := [.ref a, .ref b]) (dvs := []) F hr hb .nil pass0 I r2 hsp) (fun w s' hz => ?_) fun _ _ z => z
  obtain ⟨z, H', I', rz, t, ez, q⟩ := hz
  subst ez
  cases rz
  exact ⟨.bl t, H', I', rfl, q⟩
/-- len(a), a of the class C whose __len__ is the def at f -/
def rOwnLen (C : Addr) (sp : Sp) : List V → Hp → VK → Prop := fun xs H Q => ∃ a dx fs, xs = [.ref a] ∧ H a = some (.ins C dx fs) ∧ sp [.ref a] H (fun v H' => ∃ n : Nat, v = .int n ∧ n ≤ 16777216 ∧ Q (.int n) H') E0
theorem call_lenOwn (F : FnOk X.prog X.w X.K X.mg X.base CX0 k f fd ps sp) (hs : PySem.W.findIn X.K (.ref C) "__len__" = some (some (.ref f))) (hf : PySem.W.isFn X.K (.ref f) = true) (hb : Binds X.K fd ps []) (hr : Room (k + 1) X.A) :
    CallR X (.builtin "len") (rOwnLen C sp) := by
  intro pins s σ H xs us Q I r hq
  obtain ⟨a, dx, fs, rfl, ha, hsp⟩ := hq
  obtain ⟨u, rfl, rx⟩ := vals1 r
  cases rx
  obtain ⟨mA, J, _⟩ := ins_get I.hok ha
  obtain ⟨od, J, _⟩ := J.look
  obtain ⟨m, hF⟩ := I.fr
  refine PySem.W.len_K hF I.ok.mod.kin J hs hf ?_
  have r2 : Vals [V.ref a] [Value.ref a] := .cons rfl .nil
  have hl := F.len _ _ _ _ hsp
  refine wpAny_call (codeAny_mono (F.run X.A.in1 X.stack s H ⟨[.ref a], []⟩ [.ref a] [.ref a] _ E0 hr.in1 I.env0.in1 (by
    have := hb s [.ref a] I.kIn (by simpa using hl)
    simpa using this) r2 hsp) fun r s' hq => ?_)
  cases r with
  | error e => exact hq.elim
  | ok fl =>
    cases fl with
    | ret w =>
      obtain ⟨z, H', I', rz, n, ez, hn, q⟩ := I.after hq
      subst ez
      obtain ⟨t, rfl⟩ := rz
      exact ⟨⟨by omega, by omega⟩, .int n, H', I'.tok _, ⟨_, rfl⟩, q⟩
    | next => exact False.elim hq
    | brk => exact False.elim hq
    | cont => exact False.elim hq
end
end L2


set_option Elab.async false
set_option linter.all false
set_option maxRecDepth 100000
set_option maxHeartbeats 4000000
namespace K05
open PySem PySem.Spec PyProof.Rows L2
open Evl (Ex)
/-- a market stands at x -/
structure Mkt (K : PySem.W.Frag) (H : Hp) (x : Addr) (kind : Str) (s : Int) (us : List V) (rs : List (Int × Int)) (ns : List Int) : Prop where
  ob : ∃ C dx pr pg, IsM K C kind ∧ H x = some (.ins C dx (mflds s pr pg)) ∧ H pr = some (.tup us) ∧ H pg = some (.tup (ns.map V.int))
  runs : Runs H us rs
theorem Mkt.ex {K : PySem.W.Frag} {H H' : Hp} {x : Addr} {kind : Str} {s : Int} {us : List V} {rs : List (Int × Int)} {ns : List Int} (h : Mkt K H x kind s us rs ns) (e : Ex H H') : Mkt K H' x kind s us rs ns := by
  obtain ⟨C, dx, pr, pg, a, b, c, d⟩ := h.ob
  exact ⟨⟨C, dx, pr, pg, a, e _ _ b, e _ _ c, e _ _ d⟩, h.runs.ex e⟩
section
variable {w : World} {K : PySem.W.Frag} {mg : Str → Option Value} {base : Heap} {C : Addr} {kind : Str}
theorem made {H : Hp} {x dx a g : Addr} {s : Int} {us : List V} {rs : List (Int × Int)} {ns : List Int} {Q : Hp → Prop} {E : XK} (hM : IsM K C kind) (A0 : MArg H s a g us rs ns) (hx : H x = none) (hdx : H dx = none) (hne : dx ≠ x)
    (k : ∀ H', Ex H H' → Mkt K H' x kind s us rs ns → Q H') : SupI.spSup C (spMarket K) ([.ref x, .int s, .ref a] ++ [.ref g]) (upd (upd H dx (.own x)) x (.ins C dx [])) (fun v H3 => v = .non ∧ Q H3) E := by
  have keep : ∀ b o, H b = some o → upd (upd H dx (.own x)) x (.ins C dx []) b = some o := fun b o e => by
    rw [upd_ne (ne_of_none e hx), upd_ne (ne_of_none e hdx)]
    exact e
  refine ⟨⟨x, dx, [], _, _, _, rfl, upd_same⟩, C, x, dx, a, g, kind, s, us, rs, ns, rfl, hM, upd_same, ⟨keep _ _ A0.ha, A0.runs.mono fun t xs e => keep _ _ e, A0.fits, A0.few, keep _ _ A0.hg, A0.asc, A0.inn, A0.size⟩, fun H' pr pg kp hpr hpg h1 h2 h3 => ⟨rfl, ?_⟩⟩
  have e : Ex H H' := fun b o q => kp b o (ne_of_none q hx) (keep b o q)
  exact k H' e ⟨⟨C, dx, pr, pg, hM, h1, h2, h3⟩, A0.runs.ex e⟩
theorem lookup_of {α : Type} {l : List (Str × α)} {y : Str} {v : α} (h : l.lookup y = some v) : (y, v) ∈ l := PySem.mem_of_lookup h
/-- Join.__init__ and Lap.__init__ -/
theorem ok_Join_init (T : Ctx K mg) : ∃ fd, FnOk PP w K mg base CX0 6 (He.ma K (He.ga K "Join") "__init__") fd ["self", "size", "runs", "gone"] (SupI.spSup (He.ga K "Join") (spMarket K)) ∧ KBn K fd ["self", "size", "runs", "gone"] 3 ["gone"] (fun us ws => us ++ ws) (fun vs zs => vs ++ zs) := by
  obtain ⟨fd2, F2⟩ := T.d_Market___init__
  obtain ⟨fd, S, hc⟩ := T.sup_Join
  have G2 := ok_Market_init (w := w) (base := base) T F2
  obtain ⟨mv, hb⟩ := FunD.kbinds0 (ps := ["self", "size", "runs", "gone"]) F2 3 ["gone"] [] (fun us _ ws => us ++ ws) (by intro z; cases z) (fun q hq => by cases hq) (fun r1 _ r3 => r1.append r3) (fun D doc pm an cdv ct us mv ws h1 h2 h3 => match us, ws, h1, h3 with
    | [_, _, _], [_], _, _ => rfl)
  refine ⟨fd, SupI.fn_super (ns := "self") (na := "size") (nb := "runs") (nk := "gone") (c1 := "") S hc rfl rfl rfl (fun y hy => ?_) (by decide +kernel) (by decide +kernel) rfl rfl (by decide +kernel) rfl rfl (fun u1 u2 u3 u4 i y u h1 h2 => ?_) (fun env => rfl) G2 hb, ?_⟩
  · have z : ∀ p ∈ (defScope s_Join___init__).names, (p.2 = .cell ∨ p.2 = .free) → p.1 = "__class__" := by decide +kernel
    rcases hy with h | h
    · exact z _ (lookup_of h) (.inl rfl)
    · exact z _ (lookup_of h) (.inr rfl)
  · match i, h1, h2 with
    | 0, h1, h2 => cases h1; cases h2; rfl
    | 1, h1, h2 => cases h1; cases h2; rfl
    | 2, h1, h2 => cases h1; cases h2; rfl
    | 3, h1, h2 => cases h1; cases h2; rfl
  · obtain ⟨oc, od, an, Dk, doc, pm, ct, osl, rfl, _⟩ := S.lk
    exact ⟨fun s us ws X h1 h2 => match us, ws, h1, h2 with
      | [_, _, _], [_], _, _ => BindsTo.of_eq (by first | rfl | with_unfolding_all rfl | kernel_rfl), fun r1 r2 => r1.append r2⟩
theorem ok_Lap_init (T : Ctx K mg) : ∃ fd, FnOk PP w K mg base CX0 6 (He.ma K (He.ga K "Lap") "__init__") fd ["self", "size", "runs", "gone"] (SupI.spSup (He.ga K "Lap") (spMarket K)) ∧ KBn K fd ["self", "size", "runs", "gone"] 3 ["gone"] (fun us ws => us ++ ws) (fun vs zs => vs ++ zs) := by
  obtain ⟨fd2, F2⟩ := T.d_Market___init__
  obtain ⟨fd, S, hc⟩ := T.sup_Lap
  have G2 := ok_Market_init (w := w) (base := base) T F2
  obtain ⟨mv, hb⟩ := FunD.kbinds0 (ps := ["self", "size", "runs", "gone"]) F2 3 ["gone"] [] (fun us _ ws => us ++ ws) (by intro z; cases z) (fun q hq => by cases hq) (fun r1 _ r3 => r1.append r3) (fun D doc pm an cdv ct us mv ws h1 h2 h3 => match us, ws, h1, h3 with
    | [_, _, _], [_], _, _ => rfl)
  refine ⟨fd, SupI.fn_super (ns := "self") (na := "size") (nb := "runs") (nk := "gone") (c1 := "") S hc rfl rfl rfl (fun y hy => ?_) (by decide +kernel) (by decide +kernel) rfl rfl (by decide +kernel) rfl rfl (fun u1 u2 u3 u4 i y u h1 h2 => ?_) (fun env => rfl) G2 hb, ?_⟩
  · have z : ∀ p ∈ (defScope s_Lap___init__).names, (p.2 = .cell ∨ p.2 = .free) → p.1 = "__class__" := by decide +kernel
    rcases hy with h | h
    · exact z _ (lookup_of h) (.inl rfl)
    · exact z _ (lookup_of h) (.inr rfl)
  · match i, h1, h2 with
    | 0, h1, h2 => cases h1; cases h2; rfl
    | 1, h1, h2 => cases h1; cases h2; rfl
    | 2, h1, h2 => cases h1; cases h2; rfl
    | 3, h1, h2 => cases h1; cases h2; rfl
  · obtain ⟨oc, od, an, Dk, doc, pm, ct, osl, rfl, _⟩ := S.lk
    exact ⟨fun s us ws X h1 h2 => match us, ws, h1, h2 with
      | [_, _, _], [_], _, _ => BindsTo.of_eq (by first | rfl | with_unfolding_all rfl | kernel_rfl), fun r1 r2 => r1.append r2⟩
end
end K05


set_option Elab.async false
set_option linter.all false
set_option maxRecDepth 100000
set_option maxHeartbeats 4000000
namespace K05
open PySem PySem.Spec PyProof.Rows L2
open Evl (Ex)
theorem iteT' {c : Bool} {A B : Prop} (hc : c = true) (h : A) : if c = true then A else B := by
  rw [if_pos hc]
  exact h
theorem Runs.snoc {H : Hp} {us : List V} {rs : List (Int × Int)} {t : Addr} {r : Int × Int} (h : Runs H us rs) (ht : H t = some (.tup [.int r.1, .int r.2])) : Runs H (us ++ [.ref t]) (rs ++ [r]) := by
  refine ⟨by simp [h.len], fun i q hq => ?_⟩
  by_cases c : i < rs.length
  · rw [List.getElem?_append_left c] at hq
    obtain ⟨t', a, b⟩ := h.at_ i q hq
    exact ⟨t', by rw [List.getElem?_append_left (by rw [h.len]; exact c)]; exact a, b⟩
  · have e : i = rs.length := by
      have := (List.getElem?_eq_some_iff.mp hq).1
      simp at this
      omega
    subst e
    rw [List.getElem?_concat_length] at hq
    cases hq
    exact ⟨t, by rw [← h.len, List.getElem?_concat_length], ht⟩
theorem Runs.nil {H : Hp} : Runs H [] [] := ⟨rfl, fun i r h => by simp at h⟩
end K05


set_option Elab.async false
set_option linter.all false
set_option maxRecDepth 100000
set_option maxHeartbeats 4000000
namespace K05
open PySem PySem.Spec PyProof.Rows L2
open Evl (Ex)
/-! ### draws -/
/-- all but D stays -/
def Kp (D : Addr) (H H' : Hp) : Prop := ∀ b o, b ≠ D → H b = some o → H' b = some o
/-- the draws stand at D -/
def Dr (D : Addr) (H : Hp) : Prop := ∃ ns : List Int, H D = some (.lst (ns.map V.int))
theorem Kp.refl (D : Addr) (H : Hp) : Kp D H H := fun _ _ _ h => h
theorem Kp.trans {D : Addr} {H H1 H2 : Hp} (a : Kp D H H1) (b : Kp D H1 H2) : Kp D H H2 := fun x o n h => b x o n (a x o n h)
theorem Kp.of {D : Addr} {H H' : Hp} (e : Ex H H') : Kp D H H' := fun b o _ h => e b o h
theorem Dr.ex {D : Addr} {H H' : Hp} (d : Dr D H) (e : Ex H H') : Dr D H' := by
  obtain ⟨ns, h⟩ := d
  exact ⟨ns, e _ _ h⟩
theorem Kp.fresh {D : Addr} {H H' : Hp} {p : Addr} (k : Kp D H H') (d : Dr D H') (h : H' p = none) : H p = none := by
  cases c : H p with
  | none => rfl
  | some o =>
    by_cases e : p = D
    · obtain ⟨ns, q⟩ := d
      rw [← e, h] at q
      cases q
    · rw [k p o e c] at h
      cases h
theorem Kp.tup {D : Addr} {H H' : Hp} {t : Addr} {xs : List V} (k : Kp D H H') (d : Dr D H) (h : H t = some (.tup xs)) : H' t = some (.tup xs) := by
  obtain ⟨ns, q⟩ := d
  exact k _ _ (ne_of h q (by intro z; cases z)) h
theorem Kp.runs {D : Addr} {H H' : Hp} {us : List V} {rs : List (Int × Int)} (k : Kp D H H') (d : Dr D H) (h : Runs H us rs) : Runs H' us rs := h.mono fun _ _ q => k.tup d q
theorem Kp.ne {D p : Addr} {H : Hp} (d : Dr D H) (h : H p = none) : p ≠ D := by
  obtain ⟨ns, q⟩ := d
  intro z
  rw [z, q] at h
  cases h
theorem iteF' {c : Bool} {A B : Prop} (hc : c = false) (h : B) : if c = true then A else B := by
  rw [if_neg (by rw [hc]; exact Bool.false_ne_true)]
  exact h
theorem abs_if {D : Ends} {l0 l1 l2 l4 l5 : Option V} {c0 : Int} {H : Hp} (go : ∀ c1 : Int, D.nx [l0, l1, l2, some (.int c1), l4, l5] H) :
    tIfS (tTest (tOp (rI0 fun i j => .bl (decide (i < j))) (tVar 3) (tC (.int 0)))) (tAsg (tOp (rI0 fun i j => .int (i - j)) (tC (.int 1)) (tVar 3)) (gName 3)) tNext D [l0, l1, l2, some (.int c0), l4, l5] H := by
  refine ⟨_, rfl, _, _, rfl, rfl, _, rfl, ?_⟩
  by_cases cz : c0 < 0
  · exact iteT' (decide_eq_true cz) ⟨_, rfl, _, _, rfl, rfl, go (1 - c0)⟩
  · exact iteF' (decide_eq_false cz) (go c0)
section
variable {w : World} {K : PySem.W.Frag} {mg : Str → Option Value} {base : Heap}
def spTake : Sp := fun vs H Q _ => ∃ (D : Addr) (m : Int), vs = [.ref D, .int m] ∧ Dr D H ∧ 0 < m ∧ ∀ r H', 0 ≤ r → r < m → Kp D H H' → Dr D H' → Q (.int r) H'
theorem sc_take : FnScope ["_law_draws_here", "_law_many"] ["_law_draws_here", "_law_many"] (defScope s__law_take) := ⟨rfl, rfl, rfl, by decide +kernel, rfl, by decide +kernel, by decide +kernel⟩
theorem has_take (T : Ctx K mg) : Has w K mg base CX0 "_law_take" 1 ["_law_draws_here", "_law_many"] spTake := by
  refine has_of (st := s__law_take) (f := He.ga K "_law_take") T.d__law_take T.g__law_take (fun _ _ _ _ _ _ us hl => match us, hl with | [_, _], _ => rfl) fun fd F => ?_
  refine ok0 F sc_take (fun vs H Q E h => ?_) (fun cdv A outer s0 H vs Q E hr h => ?_)
  · obtain ⟨D, m, rfl, _⟩ := h
    rfl
  · obtain ⟨D, m, rfl, ⟨ns, hD⟩, hm, k⟩ := h
    have nd := sc_take.nd
    refine ⟨_, pss_cons (ps_if (pt_cmpR op_eq (pe_callB call_len_seq (by rfl) T.b_len PySem.boot_len (pa_cons (pv 0) pa_nil)) pe_int (nomark _)) (pss_one (ps_ret pe_int)) pss_nil)
      (pss_one (ps_ret (pe_op op_mod (pe_callTy call_int1 (by rfl) T.b_int (by decide +kernel) (pa_cons (pe_bm0 PySem.F.plainAttrs_list PySem.F.slot_list_pop PySem.F.type_list_pop mt_pop (pv 0)) pa_nil)) (pv 1)))), ?_⟩
    refine ⟨_, rfl, D, _, rfl, .inl (SqL.of hD), rfl, _, rfl, ?_⟩
    by_cases c : ns = []
    · subst c
      refine iteT (k 0 H (Int.le_refl _) hm (Kp.refl _ _) ⟨[], hD⟩)
    · have hl : ns.length ≠ 0 := fun z => c (List.length_eq_zero_iff.mp z)
      rw [decide_eq_false (show ¬ (V.int ((ns.map V.int).length : Int) = V.int 0) from fun z => by
        have : ((ns.map V.int).length : Int) = 0 := by injection z
        rw [List.length_map] at this
        omega)]
      refine iteF ?_
      have hb : ns.length - 1 < ns.length := by omega
      refine ⟨_, rfl, .inl ⟨rfl, _, SqL.of hD⟩, D, _, .int ns[ns.length - 1], rfl, rfl, hD, ?_, .inl ⟨_, rfl, _, rfl, _, _, rfl, rfl, hm, ?_⟩⟩
      · rw [List.length_map, List.getElem?_map, List.getElem?_eq_getElem hb]
        rfl
      · refine k _ _ (Int.emod_nonneg _ (by omega)) (Int.emod_lt_of_pos _ hm) (fun b o n h => by rw [upd_ne n]; exact h) ⟨ns.dropLast, ?_⟩
        rw [upd_same, List.map_dropLast]
/-! ### _law_draws -/
def spDraws (K : PySem.W.Frag) : Sp := fun vs H Q _ => ∃ (a : Addr) (ns : List Int), vs = [.ref a] ∧ SqL K H a (ns.map V.int) ∧ ns.length ≤ 63 ∧ ∀ H' D, Ex H H' → H D = none → Dr D H' → Q (.ref D) H'
theorem sc_draws : FnScope ["_law_script", "_law_draws_here", "_law_at", "_law_cell", "_law_k", "_law_number"] ["_law_script"] (defScope s__law_draws) := ⟨rfl, rfl, rfl, by decide +kernel, rfl, by decide +kernel, by decide +kernel⟩
theorem has_draws (T : Ctx K mg) : Has w K mg base CX0 "_law_draws" 1 ["_law_script"] (spDraws K) := by
  refine has_of (st := s__law_draws) (f := He.ga K "_law_draws") T.d__law_draws T.g__law_draws (fun _ _ _ _ _ _ us hl => match us, hl with | [_], _ => rfl) fun fd F => ?_
  refine ok0 F sc_draws (fun vs H Q E h => ?_) (fun cdv A outer s0 H vs Q E hr h => ?_)
  · obtain ⟨a, ns, rfl, _⟩ := h
    rfl
  · obtain ⟨a, ns, rfl, hS, h63, k⟩ := h
    have nd := sc_draws.nd
    refine ⟨_, pss_cons (ps_set (i := 1) nd rfl (.inl rfl) (pe_lst pa_nil))
      (pss_cons (ps_for PassesOwn.never rfl (pi_range1 (by rfl) T.b_range (pa_cons (pe_callB (call_min2 rfl) (by rfl) T.b_min (by decide +kernel) (pa_cons (pe_callB call_len_seq (by rfl) T.b_len PySem.boot_len (pa_cons (pv 0) pa_nil)) (pa_cons pe_int pa_nil))) pa_nil)) (pg_name (i := 2) nd rfl (.inl rfl))
        (pss_cons (ps_set (i := 3) nd rfl (.inl rfl) (pe_callTy call_int1 (by rfl) T.b_int (by decide +kernel) (pa_cons (pe_ix ix_list (pv 0) (pv 2) (fun _ _ => rfl)) pa_nil)))
        (pss_cons (ps_if (pt_cmpR op_lt (pv 3) pe_int (nomark _)) (pss_one (ps_set (i := 3) nd rfl (.inl rfl) (pe_op op_sub pe_int (pv 3)))) pss_nil)
        (pss_one (ps_if (pt_cmpR op_ge (pv 3) (pe_op op_pow pe_int pe_int) (nomark _))
          (pss_one (ps_for PassesOwn.never rfl (pi_range1 (by rfl) T.b_range (pa_cons pe_int pa_nil)) (pg_name (i := 4) nd rfl (.inl rfl))
            (pss_one (ps_if (pt_cmpR op_gt (pv 3) pe_int (nomark _)) (pss_cons (ps_expr (pe_bm PySem.F.plainAttrs_list PySem.F.slot_list_append PySem.F.type_list_append mt_append (pv 1) (pa_cons (pe_op op_mod (pe_callTy call_int1 (by rfl) T.b_int (by decide +kernel) (pa_cons (pv 3) pa_nil)) pe_int) pa_nil)))
              (pss_one (ps_set (i := 3) nd rfl (.inl rfl) (pe_op op_fdiv (pv 3) pe_int)))) pss_nil))))
          (pss_cons (ps_set (i := 5) nd rfl (.inl rfl) (pe_op op_mod (pe_callTy call_int1 (by rfl) T.b_int (by decide +kernel) (pa_cons (pe_op op_add (pe_op op_add (pe_op op_mul (pv 3) pe_int) (pe_op op_mul (pv 2) pe_int)) pe_int) pa_nil)) pe_int))
          (pss_one (ps_for PassesOwn.never rfl (pi_range1 (by rfl) T.b_range (pa_cons pe_int pa_nil)) (pg_name (i := 4) nd rfl (.inl rfl))
            (pss_cons (ps_set (i := 5) nd rfl (.inl rfl) (pe_op op_mod (pe_callTy call_int1 (by rfl) T.b_int (by decide +kernel) (pa_cons (pe_op op_add (pe_op op_add (pe_op op_add (pe_op op_mul (pv 5) (pv 5)) (pe_op op_mul (pv 4) pe_int)) (pv 2)) pe_int) pa_nil)) pe_int))
            (pss_one (ps_expr (pe_bm PySem.F.plainAttrs_list PySem.F.slot_list_append PySem.F.type_list_append mt_append (pv 1) (pa_cons (pv 5) pa_nil)))))))))))))
      (pss_cons (ps_expr (pe_bm0 PySem.F.plainAttrs_list PySem.F.slot_list_reverse PySem.F.type_list_reverse mt_reverse (pv 1)))
      (pss_one (ps_ret (pv 1))))), ?_⟩
    refine ⟨(by show 0 ≤ sizeLine; decide), fun D hD => ?_⟩
    have e1 : Ex H (upd H D (.lst [])) := Ex.new hD
    have hD1 : upd H D (.lst []) D = some (.lst []) := upd_same
    generalize upd H D (.lst []) = H1 at *
    refine ⟨_, rfl, a, _, rfl, .inl (Evl.ex_l e1 hS), _, _, rfl, ?_⟩
    have hjn : (if (63 : Int) < ((ns.map V.int).length : Int) then 63 else ((ns.map V.int).length : Int)) ≤ (ns.length : Int) ∧ (if (63 : Int) < ((ns.map V.int).length : Int) then 63 else ((ns.map V.int).length : Int)) ≤ 63 ∧ 0 ≤ (if (63 : Int) < ((ns.map V.int).length : Int) then 63 else ((ns.map V.int).length : Int)) := by
      rw [List.length_map]
      split <;> omega
    generalize (if (63 : Int) < ((ns.map V.int).length : Int) then 63 else ((ns.map V.int).length : Int)) = j at *
    refine ⟨_, rfl, ?_, ?_, for_it walk_range (fun i σ H' => ∃ (v2 v3 v4 v5 : Option V) (ms : List Int), σ = [some (.ref a), some (.ref D), v2, v3, v4, v5] ∧ Ex H H' ∧ H' D = some (.lst (ms.map V.int)) ∧ ms.length ≤ 60 * i) ⟨none, none, none, none, [], rfl, e1, hD1, Nat.zero_le _⟩ (fun _ _ _ _ _ => trivial) ?_ ?_⟩
    · omega
    · omega
    · rintro i v σ H2 H3 hi ⟨v2, v3, v4, v5, ms, rfl, e2, hD2, hms⟩ ⟨rfl, rfl⟩
      have hin : i < ns.length := by omega
      have hi63 : i < 63 := by omega
      have hix : atI (ns.map V.int) (0 + (i : Nat)) = some (V.int ns[i]) := by
        rw [Int.zero_add]
        exact atI_nat (by rw [List.getElem?_map, List.getElem?_eq_getElem hin]; rfl)
      refine ⟨_, rfl, _, rfl, a, _, _, _, rfl, rfl, Evl.ex_l e2 hS, hix, .inl ⟨_, rfl, ?_⟩⟩
      generalize ns[i] = c0
      refine abs_if fun c1 => ?_
      clear hix
      refine ⟨_, rfl, _, _, rfl, rfl, (by refine ⟨?_, ?_, ?_⟩ <;> decide), _, _, rfl, rfl, _, rfl, ?_⟩
      by_cases cg : (10 : Int) ^ (18 : Int).toNat ≤ c1
      · refine iteT' (decide_eq_true cg) ⟨_, rfl, ?_, ?_, for_it walk_range (fun j σ H' => ∃ (c2 : Int) (v4 : Option V) (ms2 : List Int), σ = [some (.ref a), some (.ref D), some (.int (0 + (i : Nat))), some (.int c2), v4, v5] ∧ Ex H H' ∧ H' D = some (.lst (ms2.map V.int)) ∧ ms2.length ≤ 60 * i + j)
          ⟨c1, v4, ms, rfl, e2, hD2, by omega⟩ (fun _ _ _ _ _ => trivial) ?_ ?_⟩
        · decide
        · decide
        · rintro j' v σ H4 H5 hj ⟨c2, v4, ms2, rfl, e4, hD4, hm4⟩ ⟨rfl, rfl⟩
          have hj60 : j' < 60 := hj
          refine ⟨_, rfl, _, _, rfl, rfl, _, rfl, ?_⟩
          by_cases cc : 0 < c2
          · rw [decide_eq_true cc]
            refine iteT ⟨_, rfl, .inl ⟨rfl, _, SqL.of hD4⟩, _, rfl, .inl ⟨_, rfl, _, _, rfl, rfl, (show (0 : Int) < 24 by decide), D, _, _, rfl, rfl, hD4, ?_, ?_⟩⟩
            · rw [List.length_map]
              exact Evl.sz_lt (by omega)
            · refine ⟨_, rfl, _, _, rfl, rfl, ⟨by decide, by decide⟩, ?_⟩
              refine ⟨_, _, ms2 ++ [c2 % 24], rfl, Evl.Ex.mut e4 hD, ?_, ?_⟩
              · rw [upd_same, List.map_append]
                rfl
              · rw [List.length_append]
                have : [c2 % 24].length = 1 := rfl
                omega
          · rw [decide_eq_false cc]
            exact iteF ⟨_, _, ms2, rfl, e4, hD4, by omega⟩
        · rintro σ H4 ⟨c2, v4, ms2, rfl, e4, hD4, hm4⟩
          have : ((60 : Int) - 0).toNat = 60 := rfl
          refine ⟨_, _, _, _, ms2, rfl, e4, hD4, ?_⟩
          have h60 : (Int.toNat 60) = 60 := rfl
          omega
      · refine iteF' (decide_eq_false cg) ?_
        refine ⟨_, rfl, _, _, rfl, rfl, .inr ⟨by decide, by decide⟩, _, rfl, _, _, rfl, rfl, .inr ⟨by decide, by decide⟩, _, _, rfl, rfl, _, _, rfl, rfl, .inl ⟨_, rfl, _, _, rfl, rfl, (show (0 : Int) < 2147483647 by decide), ?_⟩⟩
        have hb0 := Int.emod_nonneg (c1 * 48271 + (0 + (i : Nat)) * 69621 + 1) (show (2147483647 : Int) ≠ 0 by decide)
        have hb1 := Int.emod_lt_of_pos (c1 * 48271 + (0 + (i : Nat)) * 69621 + 1) (show (0 : Int) < 2147483647 by decide)
        refine ⟨_, rfl, ?_, ?_, for_it walk_range (fun j σ H' => ∃ (nn : Int) (v4 : Option V) (ms2 : List Int), σ = [some (.ref a), some (.ref D), some (.int (0 + (i : Nat))), some (.int c1), v4, some (.int nn)] ∧ (0 ≤ nn ∧ nn < 2147483647) ∧ Ex H H' ∧ H' D = some (.lst (ms2.map V.int)) ∧ ms2.length ≤ 60 * i + j)
          ⟨_, v4, ms, rfl, ⟨hb0, hb1⟩, e2, hD2, by omega⟩ (fun _ _ _ _ _ => trivial) ?_ ?_⟩
        · decide
        · decide
        · rintro j' v σ H4 H5 hj ⟨nn, v4, ms2, rfl, hnn, e4, hD4, hm4⟩ ⟨rfl, rfl⟩
          have hj60 : j' < 6 := hj
          refine ⟨_, rfl, _, rfl, _, _, rfl, rfl, .inl ⟨by omega, by omega⟩, _, rfl, _, _, rfl, rfl, .inr ⟨by decide, by decide⟩, _, _, rfl, rfl, _, rfl, _, _, rfl, rfl, _, _, rfl, rfl, .inl ⟨_, rfl, _, _, rfl, rfl, (show (0 : Int) < 2147483563 by decide), ?_⟩⟩
          have hc0 := Int.emod_nonneg (nn * nn + (0 + (j' : Nat)) * 40692 + (0 + (i : Nat)) + 7) (show (2147483563 : Int) ≠ 0 by decide)
          have hc1 := Int.emod_lt_of_pos (nn * nn + (0 + (j' : Nat)) * 40692 + (0 + (i : Nat)) + 7) (show (0 : Int) < 2147483563 by decide)
          refine ⟨_, rfl, .inl ⟨rfl, _, SqL.of hD4⟩, _, rfl, D, _, _, rfl, rfl, hD4, ?_, ?_⟩
          · rw [List.length_map]
            exact Evl.sz_lt (by omega)
          · refine ⟨_, _, ms2 ++ [(nn * nn + (0 + (j' : Nat)) * 40692 + (0 + (i : Nat)) + 7) % 2147483563], rfl, ⟨hc0, by omega⟩, Evl.Ex.mut e4 hD, ?_, ?_⟩
            · rw [upd_same, List.map_append]
              rfl
            · rw [List.length_append]
              have : [(nn * nn + (0 + (j' : Nat)) * 40692 + (0 + (i : Nat)) + 7) % 2147483563].length = 1 := rfl
              omega
        · rintro σ H4 ⟨nn, v4, ms2, rfl, hnn, e4, hD4, hm4⟩
          refine ⟨_, _, _, _, ms2, rfl, e4, hD4, ?_⟩
          have h6 : (Int.toNat 6) = 6 := rfl
          omega
    · rintro σ H2 ⟨v2, v3, v4, v5, ms, rfl, e2, hD2, hms⟩
      refine ⟨_, rfl, .inl ⟨rfl, _, SqL.of hD2⟩, D, _, rfl, rfl, hD2, _, rfl, ?_⟩
      refine k _ _ (Evl.Ex.mut e2 hD) hD ⟨ms.reverse, ?_⟩
      rw [upd_same, List.map_reverse]
end
end K05


set_option Elab.async false
set_option linter.all false
set_option maxRecDepth 100000
set_option maxHeartbeats 4000000
namespace K05
open PySem PySem.Spec PyProof.Rows L2
open Evl (Ex)
theorem _root_.L2.PS.imp {X : Cx} {st : Stmt} {t t' : TS} (h : PS X st t) (i : ∀ D σ H, t' D σ H → t D σ H) : PS X st t' := ⟨fun pins s σ H D I q => h.run pins s σ H D I (i D σ H q)⟩
theorem _root_.L2.PE.imp {X : Cx} {e : Expr} {t t' : TE} (h : PE X e t) (i : ∀ σ H Q, t' σ H Q → t σ H Q) : PE X e t' := ⟨fun pins s σ H Q I q => h.run pins s σ H Q I (i σ H Q q)⟩
theorem _root_.L2.PT.imp {X : Cx} {e : Expr} {t t' : TT} (h : PT X e t) (i : ∀ σ H Q, t' σ H Q → t σ H Q) : PT X e t' := ⟨fun pins s σ H Q I q => h.run pins s σ H Q I (i σ H Q q)⟩
theorem Kp.mut {D R : Addr} {H H' : Hp} {o : HO} (k : Kp D H H') (h : H R = none) : Kp D H (upd H' R o) := fun b u n hb => by
  rw [upd_ne (ne_of_none hb h)]
  exact k b u n hb
/-- a list of runs under work: at R, at most b of them -/
structure LI (D R : Addr) (H : Hp) (s : Int) (b : Nat) (H' : Hp) : Prop where
  kp : Kp D H H'
  dr : Dr D H'
  li : ∃ us rs, H' R = some (.lst us) ∧ Runs H' us rs ∧ (∀ r ∈ rs, Fits s r) ∧ rs.length ≤ b
theorem LI.go {D R : Addr} {H : Hp} {s : Int} {b : Nat} {H1 H2 : Hp} (h : LI D R H s b H1) (hR : R ≠ D) (k : Kp D H1 H2) (d : Dr D H2) : LI D R H s b H2 := by
  obtain ⟨us, rs, a1, a2, a3, a4⟩ := h.li
  exact ⟨h.kp.trans k, d, us, rs, k _ _ hR a1, k.runs h.dr a2, a3, a4⟩
theorem LI.le {D R : Addr} {H : Hp} {s : Int} {b b' : Nat} {H1 : Hp} (h : LI D R H s b H1) (hb : b ≤ b') : LI D R H s b' H1 := by
  obtain ⟨us, rs, a1, a2, a3, a4⟩ := h.li
  exact ⟨h.kp, h.dr, us, rs, a1, a2, a3, Nat.le_trans a4 hb⟩
/-- (x, y) goes on the list -/
theorem LI.app {D R : Addr} {H : Hp} {s : Int} {b : Nat} {H1 : Hp} {x y : Int} (h : LI D R H s b H1) (hR : R ≠ D) (hR0 : H R = none) (hb : b ≤ 1000) (hf : Fits s (x, y)) {t : Addr} (ht : H1 t = none) :
    ∃ us, upd H1 t (.tup [.int x, .int y]) R = some (.lst us) ∧ us.length < sizeLine ∧ LI D R H s (b + 1) (upd (upd H1 t (.tup [.int x, .int y])) R (.lst (us ++ [.ref t]))) := by
  obtain ⟨us, rs, a1, a2, a3, a4⟩ := h.li
  have e1 : Ex H1 (upd H1 t (.tup [.int x, .int y])) := Ex.new ht
  have hl := a2.len
  have htR : t ≠ R := Ne.symm (ne_of_none a1 ht)
  refine ⟨us, e1 _ _ a1, small1000 (by omega), ⟨(h.kp.trans (Kp.of e1)).mut hR0, ?_, us ++ [.ref t], rs ++ [(x, y)], upd_same, ?_, ?_, ?_⟩⟩
  · obtain ⟨ms, hms⟩ := h.dr
    exact ⟨ms, by rw [upd_ne (Ne.symm hR)]; exact e1 _ _ hms⟩
  · refine Runs.snoc ((a2.ex e1).mono fun t' ys e => by rw [upd_ne (ne_of e (e1 _ _ a1) (by intro z; cases z))]; exact e) ?_
    rw [upd_ne htR, upd_same]
  · intro r hr
    rcases List.mem_append.mp hr with hr | hr
    · exact a3 r hr
    · rw [List.mem_singleton.mp hr]
      exact hf
  · rw [List.length_append]
    have : [(x, y)].length = 1 := rfl
    omega
section
variable {w : World} {K : PySem.W.Frag} {mg : Str → Option Value} {base : Heap}
def spChains : Sp := fun vs H Q _ => ∃ (D : Addr) (s : Int), vs = [.ref D, .int s] ∧ Dr D H ∧ 1 ≤ s ∧ s ≤ 8 ∧ ∀ R H', H R = none → LI D R H s 27 H' → Q (.ref R) H'
theorem sc_chains : FnScope ["_law_draws_here", "_law_size", "_law_runs", "_law_copy", "_law_start", "_law_k", "_law_stop"] ["_law_draws_here", "_law_size"] (defScope s__law_chains) := ⟨rfl, rfl, rfl, by decide +kernel, rfl, by decide +kernel, by decide +kernel⟩
theorem has_chains (T : Ctx K mg) : Has w K mg base CX0 "_law_chains" 2 ["_law_draws_here", "_law_size"] spChains := by
  obtain ⟨f1, fd1, m1, kp1, F1, b1⟩ := has_take (w := w) (base := base) T
  refine has_of (st := s__law_chains) (f := He.ga K "_law_chains") T.d__law_chains T.g__law_chains (fun _ _ _ _ _ _ us hl => match us, hl with | [_, _], _ => rfl) fun fd F => ?_
  refine ok0 F sc_chains (fun vs H Q E h => ?_) (fun cdv A outer s0 H vs Q E hr h => ?_)
  · obtain ⟨D, s, rfl, _⟩ := h
    rfl
  · obtain ⟨D, s, rfl, hD, hs1, hs8, k⟩ := h
    have nd := sc_chains.nd
    refine ⟨_, pss_cons (ps_set (i := 2) nd rfl (.inl rfl) (pe_lst pa_nil))
      (pss_cons (ps_for PassesOwn.never rfl (pi_range1 (by rfl) T.b_range (pa_cons (pe_op op_add pe_int (pe_call F1 hr (by rfl) m1 kp1 b1 .nil pass0 (pa_cons (pv 0) (pa_cons pe_int pa_nil)))) pa_nil)) (pg_name (i := 3) nd rfl (.inl rfl))
        (pss_cons (ps_set (i := 4) nd rfl (.inl rfl) pe_int)
        (pss_one (ps_for PassesOwn.never rfl (pi_range1 (by rfl) T.b_range (pa_cons (pv 1) pa_nil)) (pg_name (i := 5) nd rfl (.inl rfl))
          (pss_one (ps_if (pt_cmpR op_lt (pv 4) (pv 1) (nomark _))
            (pss_cons (ps_set (i := 6) nd rfl (.inl rfl) (pe_callB (call_min2 rfl) (by rfl) T.b_min (by decide +kernel) (pa_cons (pv 1) (pa_cons (pe_op op_add (pe_op op_add (pv 4) pe_int) (pe_call F1 hr (by rfl) m1 kp1 b1 .nil pass0 (pa_cons (pv 0) (pa_cons (pv 1) pa_nil)))) pa_nil))))
            (pss_cons (ps_expr (pe_bm PySem.F.plainAttrs_list PySem.F.slot_list_append PySem.F.type_list_append mt_append (pv 2) (pa_cons (pe_tup (pa_cons (pv 4) (pa_cons (pv 6) pa_nil))) pa_nil)))
            (pss_one (ps_set (i := 4) nd rfl (.inl rfl) (pv 6))))) pss_nil))))))
      (pss_cons (ps_for PassesOwn.never rfl (pi_range1 (by rfl) T.b_range (pa_cons (pe_call F1 hr (by rfl) m1 kp1 b1 .nil pass0 (pa_cons (pv 0) (pa_cons pe_int pa_nil))) pa_nil)) (pg_name (i := 5) nd rfl (.inl rfl))
        (pss_cons (ps_set (i := 4) nd rfl (.inl rfl) (pe_call F1 hr (by rfl) m1 kp1 b1 .nil pass0 (pa_cons (pv 0) (pa_cons (pv 1) pa_nil))))
        (pss_one (ps_expr (pe_bm PySem.F.plainAttrs_list PySem.F.slot_list_append PySem.F.type_list_append mt_append (pv 2) (pa_cons (pe_tup (pa_cons (pv 4) (pa_cons (pe_op op_add (pe_op op_add (pv 4) pe_int) (pe_call F1 hr (by rfl) m1 kp1 b1 .nil pass0 (pa_cons (pv 0) (pa_cons (pe_op op_sub (pv 1) (pv 4)) pa_nil)))) pa_nil))) pa_nil))))))
      (pss_one (ps_ret (pv 2))))), ?_⟩
    refine ⟨(by show 0 ≤ sizeLine; decide), fun R hR0 => ?_⟩
    have hRD : R ≠ D := Kp.ne hD hR0
    have L0 : LI D R H s 0 (upd H R (.lst [])) := ⟨Kp.of (Ex.new hR0), hD.ex (Ex.new hR0), [], [], upd_same, Runs.nil, (fun _ h => by cases h), Nat.le_refl _⟩
    generalize upd H R (.lst []) = H1 at *
    refine ⟨_, rfl, D, 3, rfl, L0.dr, by decide, fun r1 H2 h0 h1 k1 d1 => ⟨_, _, rfl, rfl, _, rfl, ?_, ?_, for_it walk_range (fun i σ H' => ∃ v3 v4 v5 v6 : Option V, σ = [some (.ref D), some (.int s), some (.ref R), v3, v4, v5, v6] ∧ LI D R H s (8 * i) H') ⟨_, _, _, _, rfl, L0.go hRD k1 d1⟩ (fun _ _ _ _ _ => trivial) ?_ ?_⟩⟩
    · omega
    · omega
    · rintro i v σ H3 H4 hi ⟨v3, v4, v5, v6, rfl, L3⟩ ⟨rfl, rfl⟩
      have hi3 : i < 3 := by omega
      refine ⟨_, rfl, _, rfl, ?_, ?_, for_it walk_range (fun j σ H' => ∃ (v3 v5 v6 : Option V) (st : Int), σ = [some (.ref D), some (.int s), some (.ref R), v3, some (.int st), v5, v6] ∧ 0 ≤ st ∧ LI D R H s (8 * i + j) H') ⟨_, _, _, 0, rfl, Int.le_refl _, L3⟩ (fun _ _ _ _ _ => trivial) ?_ ?_⟩
      · omega
      · omega
      · rintro j v σ H5 H6 hj ⟨v3, v5, v6, st, rfl, hst, L5⟩ ⟨rfl, rfl⟩
        refine ⟨_, rfl, _, rfl, _, _, rfl, rfl, _, rfl, ?_⟩
        by_cases c : st < s
        rotate_left
        · exact iteF' (decide_eq_false c) ⟨_, _, _, st, rfl, hst, L5.le (by omega)⟩
        refine iteT' (decide_eq_true c) ⟨_, rfl, _, rfl, _, _, rfl, rfl, _, rfl, _, rfl, D, s, rfl, L5.dr, by omega, fun r H7 h0 h1 k7 d7 => ⟨_, _, rfl, rfl, _, _, rfl, ?_⟩⟩
        have L7 := L5.go hRD k7 d7
        have hstop : st < (if (st + 1 + r : Int) < s then st + 1 + r else s) ∧ (if (st + 1 + r : Int) < s then st + 1 + r else s) ≤ s := by split <;> omega
        generalize hse : (if (st + 1 + r : Int) < s then st + 1 + r else s) = sp at *
        refine ⟨_, rfl, .inl ⟨rfl, ?_⟩, _, rfl, _, rfl, (by show 2 ≤ sizeLine; decide), fun t ht => ?_⟩
        · obtain ⟨us, rs, a1, _⟩ := L7.li
          exact ⟨_, SqL.of a1⟩
        · obtain ⟨us, q1, q2, L8⟩ := L7.app (x := st) (y := sp) hRD hR0 (by omega) ⟨hst, hstop.1, hstop.2⟩ ht
          exact ⟨R, us, .ref t, rfl, rfl, q1, q2, _, rfl, _, _, _, sp, rfl, by omega, L8⟩
      · rintro σ H5 ⟨v3, v5, v6, st, rfl, hst, L5⟩
        exact ⟨_, _, _, _, rfl, L5.le (by omega)⟩
    · rintro σ H3 ⟨v3, v4, v5, v6, rfl, L3⟩
      refine ⟨_, rfl, D, 4, rfl, L3.dr, by decide, fun r2 H4 h2 h3 k4 d4 => ⟨_, rfl, ?_, ?_, for_it walk_range (fun i σ H' => ∃ v3 v4 v5 v6 : Option V, σ = [some (.ref D), some (.int s), some (.ref R), v3, v4, v5, v6] ∧ LI D R H s (24 + i) H') ⟨_, _, _, _, rfl, (L3.go hRD k4 d4).le (by omega)⟩ (fun _ _ _ _ _ => trivial) ?_ ?_⟩⟩
      · omega
      · omega
      · rintro i v σ H5 H6 hi ⟨v3, v4, v5, v6, rfl, L5⟩ ⟨rfl, rfl⟩
        have hi3 : i < 3 := by omega
        refine ⟨_, rfl, _, rfl, D, s, rfl, L5.dr, by omega, fun st H7 h4 h5 k7 d7 => ?_⟩
        have L7 := L5.go hRD k7 d7
        refine ⟨_, rfl, .inl ⟨rfl, ?_⟩, _, rfl, _, rfl, _, _, rfl, rfl, _, rfl, _, rfl, _, rfl, _, _, rfl, rfl, D, s - st, rfl, L7.dr, by omega, fun r H8 h6 h7 k8 d8 => ⟨_, _, rfl, rfl, (by show 2 ≤ sizeLine; decide), fun t ht => ?_⟩⟩
        · obtain ⟨us, rs, a1, _⟩ := L7.li
          exact ⟨_, SqL.of a1⟩
        · obtain ⟨us, q1, q2, L9⟩ := (L7.go hRD k8 d8).app (x := st) (y := st + 1 + r) hRD hR0 (by omega) ⟨h4, by show st < st + 1 + r; omega, by show st + 1 + r ≤ s; omega⟩ ht
          exact ⟨R, us, .ref t, rfl, rfl, q1, q2, _, _, _, _, rfl, L9⟩
      · rintro σ H5 ⟨v3, v4, v5, v6, rfl, L5⟩
        exact ⟨_, rfl, k _ _ hR0 (L5.le (by omega))⟩
end
end K05


set_option Elab.async false
set_option linter.all false
set_option maxRecDepth 100000
set_option maxHeartbeats 4000000
namespace K05
open PySem PySem.Spec PyProof.Rows L2
open Evl (Ex)
theorem Runs.cons {H : Hp} {us : List V} {rs : List (Int × Int)} {t : Addr} {r : Int × Int} (h : Runs H us rs) (ht : H t = some (.tup [.int r.1, .int r.2])) : Runs H (.ref t :: us) (r :: rs) := by
  refine ⟨by simp [h.len], fun i q hq => ?_⟩
  cases i with
  | zero =>
    cases hq
    exact ⟨t, rfl, ht⟩
  | succ i => exact h.at_ i q hq
theorem Runs.drop {H : Hp} {us : List V} {rs : List (Int × Int)} (h : Runs H us rs) (n : Nat) : Runs H (us.drop n) (rs.drop n) := by
  refine ⟨by simp [h.len], fun i q hq => ?_⟩
  rw [List.getElem?_drop] at hq ⊢
  exact h.at_ _ q hq
theorem Runs.take {H : Hp} {us : List V} {rs : List (Int × Int)} (h : Runs H us rs) (n : Nat) : Runs H (us.take n) (rs.take n) := by
  refine ⟨by simp [h.len], fun i q hq => ?_⟩
  rw [List.getElem?_take] at hq ⊢
  split at hq
  · rename_i c
    rw [if_pos c]
    exact h.at_ _ q hq
  · cases hq
theorem Runs.app {H : Hp} {us us' : List V} {rs rs' : List (Int × Int)} (h : Runs H us rs) (h' : Runs H us' rs') : Runs H (us ++ us') (rs ++ rs') := by
  refine ⟨by simp [h.len, h'.len], fun i q hq => ?_⟩
  by_cases c : i < rs.length
  · rw [List.getElem?_append_left c] at hq
    rw [List.getElem?_append_left (by rw [h.len]; exact c)]
    exact h.at_ i q hq
  · rw [List.getElem?_append_right (by omega)] at hq
    rw [List.getElem?_append_right (by rw [h.len]; omega), h.len]
    exact h'.at_ _ q hq
theorem Runs.cut {H : Hp} {us : List V} {rs : List (Int × Int)} (h : Runs H us rs) (lo hi : Option Int) : ∃ rs', Runs H (cutV us lo hi) rs' ∧ (∀ r ∈ rs', r ∈ rs) ∧ rs'.length ≤ rs.length := by
  unfold cutV
  refine ⟨_, (h.drop _).take _, fun r hr => List.mem_of_mem_drop (List.mem_of_mem_take hr), ?_⟩
  rw [List.length_take, List.length_drop]
  omega
def tPairs : List (Int × Int) → TA
  | [] => tNil
  | r :: rs => tCons (tTup (tCons (tC (.int r.1)) (tCons (tC (.int r.2)) tNil))) (tPairs rs)
theorem pairs_ok : ∀ (rs : List (Int × Int)) {σ : L2.St} {H : Hp} {Q : List V → Hp → Prop}, (∀ us H', Ex H H' → Runs H' us rs → Q us H') → tPairs rs σ H Q
  | [], σ, H, Q, k => k [] H (Ex.refl H) Runs.nil
  | r :: rs, σ, H, Q, k => by
    refine ⟨by show 2 ≤ sizeLine; decide, fun p hp => pairs_ok rs fun us H' e R => ?_⟩
    refine k _ _ ((Ex.new hp).trans e) (R.cons (e _ _ upd_same))
theorem menu_ok (rs : List (Int × Int)) {σ : L2.St} {H : Hp} {Q : VK} (hl : rs.length ≤ 1000) (k : ∀ M us H', Ex H H' → H M = none → H' M = some (.lst us) → Runs H' us rs → Q (.ref M) H') : tLst (tPairs rs) σ H Q :=
  pairs_ok rs fun us H' e R => ⟨Nat.le_trans (by rw [R.len]; exact hl) (by decide), fun p hp => k p us _ (e.trans (Ex.new hp)) (Evl.fresh_back e hp) upd_same (R.ex (Ex.new hp))⟩
theorem menu_set (rs : List (Int × Int)) {De : Ends} {s : Int} {v0 v1 v2 v3 v4 v5 : Option V} {H : Hp} (hl : rs.length ≤ 1000) (k : ∀ M us H', Ex H H' → H M = none → H' M = some (.lst us) → Runs H' us rs → De.nx [v0, v1, some (.int s), some (.ref M), v4, v5] H') :
    tSeq (tAsg (tC (.int s)) (gName 2)) (tAsg (tLst (tPairs rs)) (gName 3)) De [v0, v1, v2, v3, v4, v5] H :=
  menu_ok (Q := fun v H' => gName 3 v [v0, v1, some (.int s), v3, v4, v5] H' De.nx) rs hl fun M us H' e h1 h2 h3 => k M us H' e h1 h2 h3
section
variable {w : World} {K : PySem.W.Frag} {mg : Str → Option Value} {base : Heap}
def spSpecial : Sp := fun vs H Q _ => ∃ (D : Addr), vs = [.ref D] ∧ Dr D H ∧ ∀ L M s us rs H', Kp D H H' → Dr D H' → H M = none → H' L = some (.lst [.int s, .ref M]) → L ≠ D → H' M = some (.lst us) → Runs H' us rs → (∀ r ∈ rs, Fits s r) → 1 ≤ s → s ≤ 8 → rs.length ≤ 9 → Q (.ref L) H'
theorem sc_special : FnScope ["_law_draws_here", "_law_word", "_law_size", "_law_menu", "_law_runs", "_law_run_here"] ["_law_draws_here"] (defScope s__law_special) := ⟨rfl, rfl, rfl, by decide +kernel, rfl, by decide +kernel, by decide +kernel⟩
theorem has_special (T : Ctx K mg) : Has w K mg base CX0 "_law_special" 2 ["_law_draws_here"] spSpecial := by
  obtain ⟨f1, fd1, m1, kp1, F1, b1⟩ := has_take (w := w) (base := base) T
  refine has_of (st := s__law_special) (f := He.ga K "_law_special") T.d__law_special T.g__law_special (fun _ _ _ _ _ _ us hl => match us, hl with | [_], _ => rfl) fun fd F => ?_
  refine ok0 F sc_special (fun vs H Q E h => ?_) (fun cdv A outer s0 H vs Q E hr h => ?_)
  · obtain ⟨D, rfl, _⟩ := h
    rfl
  · obtain ⟨D, rfl, hD, k⟩ := h
    have nd := sc_special.nd
    refine ⟨_, pss_cons (ps_set (i := 1) nd rfl (.inl rfl) (pe_call F1 hr (by rfl) m1 kp1 b1 .nil pass0 (pa_cons (pv 0) (pa_cons pe_int pa_nil))))
      (pss_cons ((ps_if (pt_cmpR op_eq (pv 1) pe_int (nomark _))
          (pss_cons (ps_set (i := 2) nd rfl (.inl rfl) pe_int) (pss_one (ps_set (i := 3) nd rfl (.inl rfl) (pe_lst (t := tPairs [(0, 1), (0, 2), (1, 2), (1, 3), (2, 3), (0, 3), (1, 2)]) (by repeat first | exact pa_nil | refine pa_cons (pe_tup (pa_cons pe_int (pa_cons pe_int pa_nil))) ?_)))))
          (pss_one (ps_if (pt_cmpR op_eq (pv 1) pe_int (nomark _))
            (pss_cons (ps_set (i := 2) nd rfl (.inl rfl) pe_int) (pss_one (ps_set (i := 3) nd rfl (.inl rfl) (pe_lst (t := tPairs [(0, 1), (1, 2), (1, 3), (2, 3), (2, 4), (3, 4), (4, 5), (0, 1), (4, 5)]) (by repeat first | exact pa_nil | refine pa_cons (pe_tup (pa_cons pe_int (pa_cons pe_int pa_nil))) ?_)))))
            (pss_cons (ps_set (i := 2) nd rfl (.inl rfl) pe_int) (pss_one (ps_set (i := 3) nd rfl (.inl rfl) (pe_lst (t := tPairs [(0, 4), (0, 2), (2, 4), (0, 1), (1, 2), (2, 3), (3, 4), (1, 2), (0, 4)]) (by repeat first | exact pa_nil | refine pa_cons (pe_tup (pa_cons pe_int (pa_cons pe_int pa_nil))) ?_)))))))).imp
            (t' := fun De σ H => ∃ v0 wd v2 v3 v4 v5, σ = [v0, some (.int wd), v2, v3, v4, v5] ∧ ∀ s M us rs H', Ex H H' → H M = none → 1 ≤ s → s ≤ 8 → H' M = some (.lst us) → Runs H' us rs → (∀ r ∈ rs, Fits s r) → rs.length ≤ 9 → De.nx [v0, some (.int wd), some (.int s), some (.ref M), v4, v5] H') ?c1)
      (pss_cons (ps_setLc (own := [("_law_run_here", 5)]) (i := 4) (g := gName 5) rfl nd rfl rfl rfl (pi_list (pv 3)) (blkOk_by (own := [("_law_run_here", 5)]) (N := ["_law_draws_here", "_law_word", "_law_size", "_law_menu", "_law_runs", "_law_run_here"]) (sc := defScope s__law_special) (by decide +kernel)) (fun _ _ _ _ _ => pg_name (i := 5) nd rfl (Or.inl rfl))
        (fun _ _ _ _ _ => pts_one (pt_cmpR op_lt (pe_call F1 hr (by rfl) m1 kp1 b1 .nil pass0 (pa_cons (pv 0) (pa_cons pe_int pa_nil))) pe_int (nomark _))) (fun _ _ _ _ _ => pv 5))
      (pss_one (ps_ret (pe_lst (pa_cons (pv 2) (pa_cons (pv 4) pa_nil))))))), ?_⟩
    case c1 =>
      rintro De σ H ⟨v0, wd, v2, v3, v4, v5, rfl, k⟩
      refine ⟨_, rfl, rfl, _, rfl, ?_⟩
      by_cases c : V.int wd = V.int 0
      · refine iteT' (decide_eq_true c) (menu_set _ (by decide) fun M us H' e hM hM' R => ?_)
        exact k 3 M us _ H' e hM (by decide) (by decide) hM' R (by show ∀ r ∈ [((0 : Int), (1 : Int)), (0, 2), (1, 2), (1, 3), (2, 3), (0, 3), (1, 2)], 0 ≤ r.1 ∧ r.1 < r.2 ∧ r.2 ≤ 3; decide) (by decide)
      refine iteF' (decide_eq_false c) ⟨_, rfl, rfl, _, rfl, ?_⟩
      by_cases c : V.int wd = V.int 1
      · refine iteT' (decide_eq_true c) (menu_set _ (by decide) fun M us H' e hM hM' R => ?_)
        exact k 5 M us _ H' e hM (by decide) (by decide) hM' R (by show ∀ r ∈ [((0 : Int), (1 : Int)), (1, 2), (1, 3), (2, 3), (2, 4), (3, 4), (4, 5), (0, 1), (4, 5)], 0 ≤ r.1 ∧ r.1 < r.2 ∧ r.2 ≤ 5; decide) (by decide)
      · refine iteF' (decide_eq_false c) (menu_set _ (by decide) fun M us H' e hM hM' R => ?_)
        exact k 4 M us _ H' e hM (by decide) (by decide) hM' R (by show ∀ r ∈ [((0 : Int), (4 : Int)), (0, 2), (2, 4), (0, 1), (1, 2), (2, 3), (3, 4), (1, 2), (0, 4)], 0 ≤ r.1 ∧ r.1 < r.2 ∧ r.2 ≤ 4; decide) (by decide)
    refine ⟨_, rfl, D, 3, rfl, hD, by decide, fun wd H1 h0 h1 k1 d1 => ⟨_, wd, _, _, _, _, rfl, fun s M us rs H2 e2 hM hs1 hs8 hM2 R2 hF hl => ?_⟩⟩
    have k2 := k1.trans (Kp.of e2)
    have d2 := d1.ex e2
    have hM0 : H M = none := k1.fresh d1 hM
    have hMD : M ≠ D := Kp.ne hD hM0
    refine ⟨_, rfl, M, rfl, ⟨_, SqL.of hM2⟩, fun L hL => lc_it walk_list (fun i H' => Kp D H H' ∧ Dr D H' ∧ H' M = some (.lst us) ∧ Runs H' us rs ∧ ∃ us' rs', H' L = some (.lst us') ∧ Runs H' us' rs' ∧ (∀ r ∈ rs', Fits s r) ∧ rs'.length ≤ i)
      ⟨k2.trans (Kp.of (Ex.new hL)), d2.ex (Ex.new hL), Ex.new hL _ _ hM2, R2.ex (Ex.new hL), [], [], upd_same, Runs.nil, (fun _ h => by cases h), Nat.le_refl _⟩ (fun i H' _ q => SqL.of q.2.2.1) ?_ ?_⟩
    · rintro i x H3 H4 hi ⟨k3, d3, hM3, R3, us', rs', hL3, R3', hF', hl'⟩ ⟨rfl, hx⟩
      have hL0 : H L = none := k2.fresh d2 hL
      have hLD : L ≠ D := Kp.ne hD hL0
      obtain ⟨t, r, hr', rfl, ht⟩ := R3.get hx
      refine ⟨rfl, ?_⟩
      refine ⟨_, rfl, D, 8, rfl, d3, by decide, fun q H5 h4 h5 k5 d5 => ⟨_, _, rfl, rfl, _, rfl, ?_⟩⟩
      have hL5 := k5 _ _ hLD hL3
      have hM5 := k5 _ _ hMD hM3
      have R5 := k5.runs d3 R3
      have R5' := k5.runs d3 R3'
      have ht5 := k5.tup d3 ht
      have k05 := k3.trans k5
      have hlen := R5'.len
      have hil : i < 1000 := by rw [R2.len] at hi; omega
      by_cases c : q < 7
      · refine iteT' (decide_eq_true c) ⟨_, rfl, us', hL5, small1000 (by omega), k05.mut hL0, ?_, ?_, ?_, us' ++ [.ref t], rs' ++ [r], upd_same, ?_, ?_, ?_⟩
        · obtain ⟨ms, hms⟩ := d5
          exact ⟨ms, by rw [upd_ne (Ne.symm hLD)]; exact hms⟩
        · rw [upd_ne (ne_of_none hM2 hL)]
          exact hM5
        · exact R5.mono fun t' ys e => by rw [upd_ne (ne_of e hL5 (by intro z; cases z))]; exact e
        · refine Runs.snoc (R5'.mono fun t' ys e => by rw [upd_ne (ne_of e hL5 (by intro z; cases z))]; exact e) ?_
          rw [upd_ne (ne_of ht5 hL5 (by intro z; cases z))]
          exact ht5
        · intro r' hr
          rcases List.mem_append.mp hr with hr | hr
          · exact hF' r' hr
          · rw [List.mem_singleton.mp hr]
            exact hF r (List.mem_of_getElem? hr')
        · rw [List.length_append]
          have : [r].length = 1 := rfl
          omega
      · exact iteF' (decide_eq_false c) ⟨k05, d5, hM5, R5, us', rs', hL5, R5', hF', by omega⟩
    · rintro H3 ⟨k3, d3, hM3, R3, us', rs', hL3, R3', hF', hl'⟩
      have hL0 : H L = none := k2.fresh d2 hL
      refine ⟨_, rfl, _, rfl, (by show 2 ≤ sizeLine; decide), fun q hq => ?_⟩
      exact k q L s us' rs' _ (k3.trans (Kp.of (Ex.new hq))) (d3.ex (Ex.new hq)) hL0 upd_same (Kp.ne d3 hq) (Ex.new hq _ _ hL3) (R3'.ex (Ex.new hq)) hF' hs1 hs8 (by rw [R2.len] at hl'; omega)
end
end K05


set_option Elab.async false
set_option linter.all false
set_option maxRecDepth 100000
set_option maxHeartbeats 4000000
namespace K05
open PySem PySem.Spec PyProof.Rows L2
open Evl (Ex)
theorem cutV_nine (xs : List V) : (cutV xs none (some 8)).length ≤ 9 := by
  unfold cutV HT.sIx
  simp
  omega
section
variable {w : World} {K : PySem.W.Frag} {mg : Str → Option Value} {base : Heap}
/-- the parts that are gone, in order -/
def Gone (H : Hp) (a : Addr) (m : Nat) : Prop := ∃ gs : List Int, H a = some (.lst (gs.map V.int)) ∧ gs.Pairwise (· < ·) ∧ ∀ n ∈ gs, 0 ≤ n ∧ n < m
theorem Gone.ex {H H' : Hp} {a : Addr} {m : Nat} (h : Gone H a m) (e : Ex H H') : Gone H' a m := by
  obtain ⟨gs, q, r⟩ := h
  exact ⟨gs, e _ _ q, r⟩
theorem Gone.kp {D : Addr} {H H' : Hp} {a : Addr} {m : Nat} (h : Gone H a m) (k : Kp D H H') (n : a ≠ D) : Gone H' a m := by
  obtain ⟨gs, q, r⟩ := h
  exact ⟨gs, k _ _ n q, r⟩
def spMk : Sp := fun vs H Q _ => ∃ (D : Addr), vs = [.ref D, .int 8] ∧ Dr D H ∧ ∀ L M a s us rs H', Kp D H H' → Dr D H' → H M = none → H L = none → H' L = some (.lst [.int s, .ref M, .ref a]) → H' M = some (.lst us) → Runs H' us rs → (∀ r ∈ rs, Fits s r) → 1 ≤ s → s ≤ 8 → rs.length ≤ 9 → H a = none → Gone H' a us.length → Q (.ref L) H'
theorem sc_mk : FnScope ["_law_draws_here", "_law_most", "_law_word", "_law_drawn", "_law_size", "_law_runs", "_law_turn", "_law_absent"] ["_law_draws_here", "_law_most"] (defScope s__law_market) := ⟨rfl, rfl, rfl, by decide +kernel, rfl, by decide +kernel, by decide +kernel⟩
theorem has_mk (T : Ctx K mg) : Has w K mg base CX0 "_law_market" 3 ["_law_draws_here", "_law_most"] spMk := by
  obtain ⟨f1, fd1, m1, kp1, F1, b1⟩ := has_take (w := w) (base := base) T
  obtain ⟨f2, fd2, m2, kp2, F2, b2⟩ := has_special (w := w) (base := base) T
  obtain ⟨f3, fd3, m3, kp3, F3, b3⟩ := has_chains (w := w) (base := base) T
  refine has_of (st := s__law_market) (f := He.ga K "_law_market") T.d__law_market T.g__law_market (fun _ _ _ _ _ _ us hl => match us, hl with | [_, _], _ => rfl) fun fd F => ?_
  refine ok0 F sc_mk (fun vs H Q E h => ?_) (fun cdv A outer s0 H vs Q E hr h => ?_)
  · obtain ⟨D, rfl, _⟩ := h
    rfl
  · obtain ⟨D, rfl, hD, k⟩ := h
    have nd := sc_mk.nd
    have hr1 := hr.mono (show 1 ≤ 2 by decide)
    refine ⟨_, pss_cons (ps_set (i := 2) nd rfl (.inl rfl) (pe_call F1 hr1 (by rfl) m1 kp1 b1 .nil pass0 (pa_cons (pv 0) (pa_cons pe_int pa_nil))))
      (pss_cons ((ps_if (pt_cmpR op_ge (pv 2) pe_int (nomark _))
          (pss_cons (ps_set (i := 3) nd rfl (.inl rfl) (pe_call F2 hr (by rfl) m2 kp2 b2 .nil pass0 (pa_cons (pv 0) pa_nil)))
          (pss_cons (ps_set (i := 4) nd rfl (.inl rfl) (pe_ix ix_list (pv 3) pe_int (fun _ _ => rfl)))
          (pss_one (ps_set (i := 5) nd rfl (.inl rfl) (pe_ix ix_list (pv 3) pe_int (fun _ _ => rfl))))))
          (pss_cons (ps_set (i := 4) nd rfl (.inl rfl) (pe_ix ix_list (pe_lst (pa_cons pe_int (pa_cons pe_int (pa_cons pe_int (pa_cons pe_int (pa_cons pe_int (pa_cons pe_int (pa_cons pe_int (pa_cons pe_int (pa_cons pe_int (pa_cons pe_int pa_nil))))))))))) (pe_call F1 hr1 (by rfl) m1 kp1 b1 .nil pass0 (pa_cons (pv 0) (pa_cons pe_int pa_nil))) (fun _ _ => rfl)))
          (pss_cons (ps_if (pt_cmpR op_eq (pe_call F1 hr1 (by rfl) m1 kp1 b1 .nil pass0 (pa_cons (pv 0) (pa_cons pe_int pa_nil))) pe_int (nomark _)) (pss_one (ps_set (i := 4) nd rfl (.inl rfl) pe_int)) pss_nil)
          (pss_one (ps_set (i := 5) nd rfl (.inl rfl) (pe_call F3 hr (by rfl) m3 kp3 b3 .nil pass0 (pa_cons (pv 0) (pa_cons (pv 4) pa_nil)))))))).imp
            (t' := fun De σ H => ∃ wd v3 v4 v5 v6 v7, σ = [some (.ref D), some (.int 8), some (.int wd), v3, v4, v5, v6, v7] ∧ Dr D H ∧ ∀ w3 s M us rs H', Kp D H H' → Dr D H' → H M = none → 1 ≤ s → s ≤ 8 → H' M = some (.lst us) → Runs H' us rs → (∀ r ∈ rs, Fits s r) → rs.length ≤ 27 → De.nx [some (.ref D), some (.int 8), some (.int wd), w3, some (.int s), some (.ref M), v6, v7] H') ?c1)
      (pss_cons (ps_set (i := 6) nd rfl (.inl rfl) (pe_call F1 hr1 (by rfl) m1 kp1 b1 .nil pass0 (pa_cons (pv 0) (pa_cons pe_int pa_nil))))
      (pss_cons ((ps_if (pt_cmpR op_lt (pv 6) (pe_callB call_len_seq (by rfl) T.b_len PySem.boot_len (pa_cons (pv 5) pa_nil)) (nomark _))
          (pss_one (ps_set (i := 5) nd rfl (.inl rfl) (pe_op op_cat (pe_slice sl_list (pv 5) (po_some (pv 6)) po_none) (pe_slice sl_list (pv 5) po_none (po_some (pv 6)))))) pss_nil).imp
            (t' := fun De σ H => ∃ v0 v1 v2 v3 v4 v7 M us rs tn, σ = [v0, v1, v2, v3, v4, some (.ref M), some (.int tn), v7] ∧ H M = some (.lst us) ∧ Runs H us rs ∧ rs.length ≤ 27 ∧ ∀ M' us' rs' H', Ex H H' → (M' = M ∨ H M' = none) → H' M' = some (.lst us') → Runs H' us' rs' → (∀ r ∈ rs', r ∈ rs) → rs'.length ≤ 54 → De.nx [v0, v1, v2, v3, v4, some (.ref M'), some (.int tn), v7] H') ?c2)
      (pss_cons (ps_set (i := 5) nd rfl (.inl rfl) (pe_slice sl_list (pv 5) po_none (po_some (pv 1))))
      (pss_cons (ps_set (i := 7) nd rfl (.inl rfl) (pe_lst pa_nil))
      (pss_cons ((ps_if (PW.pt (pw_and (pt_cmpR op_eq (pe_call F1 hr1 (by rfl) m1 kp1 b1 .nil pass0 (pa_cons (pv 0) (pa_cons pe_int pa_nil))) pe_int (nomark _)) (pw_and1 (pt_cmpR op_gt (pe_callB call_len_seq (by rfl) T.b_len PySem.boot_len (pa_cons (pv 5) pa_nil)) pe_int (nomark _)))))
          (pss_one (ps_set (i := 7) nd rfl (.inl rfl) (pe_lst (pa_cons (pe_call F1 hr1 (by rfl) m1 kp1 b1 .nil pass0 (pa_cons (pv 0) (pa_cons (pe_callB call_len_seq (by rfl) T.b_len PySem.boot_len (pa_cons (pv 5) pa_nil)) pa_nil))) pa_nil)))) pss_nil).imp
            (t' := fun De σ H => ∃ v1 v2 v3 v4 v6 a M us, σ = [some (.ref D), v1, v2, v3, v4, some (.ref M), v6, some (.ref a)] ∧ Dr D H ∧ M ≠ D ∧ H M = some (.lst us) ∧ a ≠ D ∧ H a = some (.lst []) ∧ ∀ a' H', Kp D H H' → Dr D H' → (a' = a ∨ H a' = none) → Gone H' a' us.length → De.nx [some (.ref D), v1, v2, v3, v4, some (.ref M), v6, some (.ref a')] H') ?c3)
      (pss_one (ps_ret (pe_lst (pa_cons (pv 4) (pa_cons (pv 5) (pa_cons (pv 7) pa_nil)))))))))))), ?_⟩
    case c1 =>
      rintro De σ H ⟨wd, v3, v4, v5, v6, v7, rfl, hD, k⟩
      refine ⟨_, rfl, _, _, rfl, rfl, _, rfl, ?_⟩
      by_cases c : 3 ≤ wd
      · refine iteT' (decide_eq_true c) ⟨_, rfl, D, rfl, hD, fun L M s us rs H1 k1 d1 hM hL hLD hM1 R1 hF hs1 hs8 hl => ?_⟩
        refine ⟨_, rfl, L, _, 0, _, rfl, rfl, SqL.of hL, atI_nat (j := 0) rfl, ?_⟩
        refine ⟨_, rfl, L, _, 1, _, rfl, rfl, SqL.of hL, atI_nat (j := 1) rfl, ?_⟩
        exact k _ s M us rs H1 k1 d1 hM hs1 hs8 hM1 R1 hF (by omega)
      · refine iteF' (decide_eq_false c) ⟨(by show 10 ≤ sizeLine; decide), fun p hp => ⟨_, rfl, D, 10, rfl, hD.ex (Ex.new hp), by decide, fun q H1 h0 h1 k1 d1 => ?_⟩⟩
        have hp1 := k1 _ _ (Kp.ne hD hp) (upd_same (H := H) (a := p))
        obtain ⟨s, hs, hs1, hs8⟩ : ∃ s : Int, atI [V.int 3, .int 1, .int 2, .int 4, .int 5, .int 3, .int 4, .int 3, .int 6, .int 2] q = some (.int s) ∧ 1 ≤ s ∧ s ≤ 8 := by
          have hq : ∃ n : Nat, n < 10 ∧ q = (n : Int) := ⟨q.toNat, by omega, by omega⟩
          obtain ⟨n, hn, rfl⟩ := hq
          have z : ∀ n : Nat, n < 10 → ∃ s : Int, [V.int 3, .int 1, .int 2, .int 4, .int 5, .int 3, .int 4, .int 3, .int 6, .int 2][n]? = some (.int s) ∧ 1 ≤ s ∧ s ≤ 8 := fun n hn => by
            match n, hn with
            | 0, _ => exact ⟨3, rfl, by decide, by decide⟩
            | 1, _ => exact ⟨1, rfl, by decide, by decide⟩
            | 2, _ => exact ⟨2, rfl, by decide, by decide⟩
            | 3, _ => exact ⟨4, rfl, by decide, by decide⟩
            | 4, _ => exact ⟨5, rfl, by decide, by decide⟩
            | 5, _ => exact ⟨3, rfl, by decide, by decide⟩
            | 6, _ => exact ⟨4, rfl, by decide, by decide⟩
            | 7, _ => exact ⟨3, rfl, by decide, by decide⟩
            | 8, _ => exact ⟨6, rfl, by decide, by decide⟩
            | 9, _ => exact ⟨2, rfl, by decide, by decide⟩
          obtain ⟨s, a, b⟩ := z n hn
          exact ⟨s, atI_nat a, b⟩
        refine ⟨p, _, q, _, rfl, rfl, SqL.of hp1, hs, ?_⟩
        have k01 := (Kp.of (Ex.new (o := .lst [V.int 3, .int 1, .int 2, .int 4, .int 5, .int 3, .int 4, .int 3, .int 6, .int 2]) hp)).trans k1
        refine ⟨_, rfl, D, 12, rfl, d1, by decide, fun q2 H2 h2 h3 k2 d2 => ⟨rfl, _, rfl, ?_⟩⟩
        have k02 := k01.trans k2
        have fin : ∀ s' : Int, 1 ≤ s' → s' ≤ 8 → spChains ([V.ref D, .int s'] ++ []) H2 (fun v H' => De.nx [some (.ref D), some (.int 8), some (.int wd), v3, some (.int s'), some v, v6, v7] H') E := fun s' h4 h5 =>
          ⟨D, s', rfl, d2, h4, h5, fun R H3 hR L3 => by
            obtain ⟨us, rs, a1, a2, a3, a4⟩ := L3.li
            exact k _ s' R us rs H3 (k02.trans L3.kp) L3.dr (k02.fresh d2 hR) h4 h5 a1 a2 a3 a4⟩
        by_cases c2 : V.int q2 = V.int 11
        · exact iteT' (decide_eq_true c2) ⟨_, rfl, _, rfl, fin 8 (by decide) (by decide)⟩
        · exact iteF' (decide_eq_false c2) ⟨_, rfl, _, rfl, fin s hs1 hs8⟩
    case c2 =>
      rintro De σ H ⟨v0, v1, v2, v3, v4, v7, M, us, rs, tn, rfl, hM, R, hl, k⟩
      refine ⟨_, rfl, _, rfl, M, us, rfl, .inl (SqL.of hM), _, _, rfl, rfl, _, rfl, ?_⟩
      by_cases c : tn < (us.length : Int)
      · refine iteT' (decide_eq_true c) ⟨_, rfl, _, rfl, _, rfl, M, us, rfl, SqL.of hM, fun p hp => ?_⟩
        have e1 : Ex H (upd H p (.lst (cutV us (some tn) none))) := Ex.new hp
        refine ⟨_, rfl, _, rfl, _, rfl, M, us, rfl, SqL.of (e1 _ _ hM), fun p2 hp2 => ?_⟩
        have e2 := e1.trans (Ex.new (o := .lst (cutV us none (some tn))) hp2)
        obtain ⟨ra, Ra, ma, la⟩ := R.cut (some tn) none
        obtain ⟨rb, Rb, mb, lb⟩ := R.cut none (some tn)
        have l1 := Ra.len
        have l2 := Rb.len
        refine ⟨p, p2, _, _, rfl, rfl, Ex.new hp2 _ _ upd_same, upd_same, Nat.le_trans (by omega) (show 1000 ≤ sizeLine by decide), fun p3 hp3 => ?_⟩
        exact k p3 _ (ra ++ rb) _ (e2.trans (Ex.new hp3)) (.inr (Evl.fresh_back e2 hp3)) upd_same ((Ra.app Rb).ex (e2.trans (Ex.new hp3))) (fun r hr => by
          rcases List.mem_append.mp hr with hr | hr
          · exact ma r hr
          · exact mb r hr) (by rw [List.length_append]; omega)
      · exact iteF' (decide_eq_false c) (k M us rs H (Ex.refl H) (.inl rfl) hM R (fun r hr => hr) (by omega))
    case c3 =>
      rintro De σ H ⟨v1, v2, v3, v4, v6, a, M, us, rfl, hD, hMD, hM, haD, ha, k⟩
      refine ⟨_, rfl, D, 10, rfl, hD, by decide, fun q H1 h0 h1 k1 d1 => ⟨rfl, _, rfl, ?_⟩⟩
      have hM1 := k1 _ _ hMD hM
      by_cases c : V.int q = V.int 9
      · refine iteT' (decide_eq_true c) ⟨_, rfl, M, us, rfl, .inl (SqL.of hM1), _, _, rfl, rfl, _, rfl, ?_⟩
        by_cases c2 : (1 : Int) < (us.length : Int)
        · refine iteT' (decide_eq_true c2) ⟨_, rfl, _, rfl, M, us, rfl, .inl (SqL.of hM1), D, _, rfl, d1, by omega, fun q2 H2 h2 h3 k2 d2 => ⟨(by show 1 ≤ sizeLine; decide), fun p hp => ?_⟩⟩
          exact k p _ ((k1.trans k2).trans (Kp.of (Ex.new hp))) (d2.ex (Ex.new hp)) (.inr ((k1.trans k2).fresh d2 hp)) ⟨[q2], upd_same, List.pairwise_singleton _ _, fun n hn => by rw [List.mem_singleton.mp hn]; exact ⟨h2, h3⟩⟩
        · exact iteF' (decide_eq_false c2) (k a H1 k1 d1 (.inl rfl) ⟨[], k1 _ _ haD ha, List.Pairwise.nil, fun n hn => nomatch hn⟩)
      · exact iteF' (decide_eq_false c) (k a H1 k1 d1 (.inl rfl) ⟨[], k1 _ _ haD ha, List.Pairwise.nil, fun n hn => nomatch hn⟩)
    refine ⟨_, rfl, D, 5, rfl, hD, by decide, fun wd H1 h0 h1 k1 d1 => ⟨wd, _, _, _, _, _, rfl, d1, fun w3 s M us rs H2 k2 d2 hM hs1 hs8 hM2 R2 hF hl => ?_⟩⟩
    have k02 := k1.trans k2
    have hM0 := k1.fresh d1 hM
    have hMD : M ≠ D := Kp.ne hD hM0
    refine ⟨_, rfl, D, 9, rfl, d2, by decide, fun tn H3 h2 h3 k3 d3 => ⟨_, _, _, _, _, _, M, us, rs, tn, rfl, k3 _ _ hMD hM2, k3.runs d2 R2, hl, fun M' us' rs' H4 e4 hM' hM4 R4 hF' hl' => ?_⟩⟩
    have k04 := (k02.trans k3).trans (Kp.of e4)
    have d4 := d3.ex e4
    refine ⟨_, rfl, _, rfl, _, rfl, M', us', rfl, SqL.of hM4, fun p hp => ?_⟩
    have e5 : Ex H4 (upd H4 p (.lst (cutV us' none (some 8)))) := Ex.new hp
    obtain ⟨rc, Rc, mc, lc⟩ := R4.cut none (some 8)
    have l9 := cutV_nine us'
    have lc' := Rc.len
    have hp5 : upd H4 p (.lst (cutV us' none (some 8))) p = some (.lst (cutV us' none (some 8))) := upd_same
    have hp0 : H p = none := k04.fresh d4 hp
    have Rc5 := Rc.ex e5
    have k05 := k04.trans (Kp.of e5)
    have d5 := d4.ex e5
    generalize cutV us' none (some 8) = uc at *
    generalize upd H4 p (.lst uc) = H5 at *
    have hpD : p ≠ D := Kp.ne hD hp0
    refine ⟨(by show 0 ≤ sizeLine; decide), fun a ha => ⟨_, _, _, _, _, a, p, uc, rfl, d5.ex (Ex.new ha), hpD, Ex.new ha _ _ hp5, Kp.ne d5 ha, upd_same, fun a' H6 k6 d6 ha' hG => ?_⟩⟩
    have hp6 := k6 _ _ hpD (Ex.new ha _ _ hp5)
    have R6 := k6.runs (d5.ex (Ex.new ha)) (Rc5.ex (Ex.new ha))
    have k06 := (k05.trans (Kp.of (Ex.new ha))).trans k6
    refine ⟨_, rfl, _, rfl, _, rfl, (by show 3 ≤ sizeLine; decide), fun L hL => ?_⟩
    exact k L p a' s uc rc _ (k06.trans (Kp.of (Ex.new hL))) (d6.ex (Ex.new hL)) hp0 (k06.fresh d6 hL) upd_same (Ex.new hL _ _ hp6) (R6.ex (Ex.new hL)) (fun r hr => hF r (hF' r (mc r hr))) hs1 hs8 (by omega) (ha'.elim (fun z => by rw [z]; exact k05.fresh d5 ha) fun z => (k05.trans (Kp.of (Ex.new ha))).fresh (d5.ex (Ex.new ha)) z) (hG.ex (Ex.new hL))
end
end K05


set_option Elab.async false
set_option linter.all false
set_option maxRecDepth 100000
set_option maxHeartbeats 4000000
namespace K05
open PySem PySem.Spec PyProof.Rows L2
open Evl (Ex)
section
variable {w : World} {K : PySem.W.Frag} {mg : Str → Option Value} {base : Heap}
def spKind : Sp := fun vs H Q _ => ∃ (D : Addr), vs = [.ref D] ∧ Dr D H ∧ ∀ kd H', (kd = ("join" : Str) ∨ kd = ("lap" : Str)) → Kp D H H' → Dr D H' → Q (.str kd) H'
theorem sc_kind : FnScope ["_law_draws_here"] ["_law_draws_here"] (defScope s__law_kind) := ⟨rfl, rfl, rfl, by decide +kernel, rfl, by decide +kernel, by decide +kernel⟩
theorem has_kind (T : Ctx K mg) : Has w K mg base CX0 "_law_kind" 2 ["_law_draws_here"] spKind := by
  obtain ⟨f1, fd1, m1, kp1, F1, b1⟩ := has_take (w := w) (base := base) T
  refine has_of (st := s__law_kind) (f := He.ga K "_law_kind") T.d__law_kind T.g__law_kind (fun _ _ _ _ _ _ us hl => match us, hl with | [_], _ => rfl) fun fd F => ?_
  refine ok0 F sc_kind (fun vs H Q E h => ?_) (fun cdv A outer s0 H vs Q E hr h => ?_)
  · obtain ⟨D, rfl, _⟩ := h
    rfl
  · obtain ⟨D, rfl, hD, k⟩ := h
    refine ⟨_, pss_cons (ps_if (pt_cmpR op_eq (pe_call F1 hr (by rfl) m1 kp1 b1 .nil pass0 (pa_cons (pv 0) (pa_cons pe_int pa_nil))) pe_int (nomark _)) (pss_one (ps_ret pe_str)) pss_nil) (pss_one (ps_ret pe_str)), ?_⟩
    refine ⟨_, rfl, D, 3, rfl, hD, by decide, fun q H1 h0 h1 k1 d1 => ⟨rfl, _, rfl, ?_⟩⟩
    by_cases c : V.int q = V.int 2
    · exact iteT' (decide_eq_true c) (k _ H1 (.inr rfl) k1 d1)
    · exact iteF' (decide_eq_false c) (k _ H1 (.inl rfl) k1 d1)
/-- the law makes a market -/
def spBuilt (K : PySem.W.Frag) : Sp := fun vs H Q _ => ∃ (kd : Str) (s : Int) (a g : Addr) (us : List V) (rs : List (Int × Int)) (ns : List Int), vs = [.str kd, .int s, .ref a, .ref g] ∧ (kd = "join" ∨ kd = "lap") ∧ MArg H s a g us rs ns ∧
  ∀ x H', Ex H H' → H x = none → Mkt K H' x kd s us rs ns → Q (.ref x) H'
theorem sc_built : FnScope ["_law_kind_here", "_law_size", "_law_runs", "_law_absent"] ["_law_kind_here", "_law_size", "_law_runs", "_law_absent"] (defScope s__law_built) := ⟨rfl, rfl, rfl, by decide +kernel, rfl, by decide +kernel, by decide +kernel⟩
theorem has_built (T : Ctx K mg) : Has w K mg base CX0 "_law_built" 8 ["_law_kind_here", "_law_size", "_law_runs", "_law_absent"] (spBuilt K) := by
  obtain ⟨fj, Fj, bj⟩ := ok_Join_init (w := w) (base := base) T
  obtain ⟨fl, Fl, bl⟩ := ok_Lap_init (w := w) (base := base) T
  refine has_of (st := s__law_built) (f := He.ga K "_law_built") T.d__law_built T.g__law_built (fun _ _ _ _ _ _ us hl => match us, hl with | [_, _, _, _], _ => rfl) fun fd F => ?_
  refine ok0 F sc_built (fun vs H Q E h => ?_) (fun cdv A outer s0 H vs Q E hr h => ?_)
  · obtain ⟨kd, s, a, g, us, rs, ns, rfl, _⟩ := h
    rfl
  · obtain ⟨kd, s, a, g, us, rs, ns, rfl, hkd, A0, k⟩ := h
    have hr6 := hr.mono (show 6 + 1 ≤ 7 by decide)
    refine ⟨_, pss_cons (ps_if (pt_cmpR op_eq (pv 0) pe_str (nomark _)) (pss_one (ps_ret (pe_makeK T.mk_Join Fj hr6 (by rfl) T.g_Join bj pass0 (pa_cons (pv 1) (pa_cons (pv 2) pa_nil)) (pk_cons (pv 3) pk_nil)))) pss_nil)
      (pss_one (ps_ret (pe_makeK T.mk_Lap Fl hr6 (by rfl) T.g_Lap bl pass0 (pa_cons (pv 1) (pa_cons (pv 2) pa_nil)) (pk_cons (pv 3) pk_nil)))), ?_⟩
    refine ⟨_, rfl, rfl, _, rfl, ?_⟩
    rcases hkd with rfl | rfl
    · exact iteT' (by simp) ⟨_, rfl, _, rfl, _, rfl, rfl, rfl, fun y dx hy hdx hne => made (.inl ⟨rfl, rfl⟩) A0 hy hdx hne fun H6 e6 hMk => k _ _ e6 hy hMk⟩
    · exact iteF ⟨_, rfl, _, rfl, _, rfl, rfl, rfl, fun y dx hy hdx hne => made (.inr ⟨rfl, rfl⟩) A0 hy hdx hne fun H6 e6 hMk => k _ _ e6 hy hMk⟩
end
end K05


set_option Elab.async false
set_option linter.all false
set_option maxRecDepth 100000
set_option maxHeartbeats 4000000
namespace K05
open PySem PySem.Spec PyProof.Rows L2
open Evl (Ex)
section
variable {w : World} {K : PySem.W.Frag} {mg : Str → Option Value} {base : Heap}
def spRunD : Sp := fun vs H Q _ => ∃ (D : Addr) (s : Int), vs = [.ref D, .int s] ∧ Dr D H ∧ 1 ≤ s ∧ ∀ t r H', Fits s r → Kp D H H' → Dr D H' → H t = none → H' t = some (.tup [.int r.1, .int r.2]) → Q (.ref t) H'
theorem sc_runD : FnScope ["_law_draws_here", "_law_size", "_law_start"] ["_law_draws_here", "_law_size"] (defScope s__law_run) := ⟨rfl, rfl, rfl, by decide +kernel, rfl, by decide +kernel, by decide +kernel⟩
theorem has_runD (T : Ctx K mg) : Has w K mg base CX0 "_law_run" 2 ["_law_draws_here", "_law_size"] spRunD := by
  obtain ⟨f1, fd1, m1, kp1, F1, b1⟩ := has_take (w := w) (base := base) T
  refine has_of (st := s__law_run) (f := He.ga K "_law_run") T.d__law_run T.g__law_run (fun _ _ _ _ _ _ us hl => match us, hl with | [_, _], _ => rfl) fun fd F => ?_
  refine ok0 F sc_runD (fun vs H Q E h => ?_) (fun cdv A outer s0 H vs Q E hr h => ?_)
  · obtain ⟨D, s, rfl, _⟩ := h
    rfl
  · obtain ⟨D, s, rfl, hD, hs, k⟩ := h
    have nd := sc_runD.nd
    refine ⟨_, pss_cons (ps_set (i := 2) nd rfl (.inl rfl) (pe_call F1 hr (by rfl) m1 kp1 b1 .nil pass0 (pa_cons (pv 0) (pa_cons (pv 1) pa_nil))))
      (pss_one (ps_ret (pe_tup (pa_cons (pv 2) (pa_cons (pe_op op_add (pe_op op_add (pv 2) pe_int) (pe_call F1 hr (by rfl) m1 kp1 b1 .nil pass0 (pa_cons (pv 0) (pa_cons (pe_op op_sub (pv 1) (pv 2)) pa_nil)))) pa_nil))))), ?_⟩
    refine ⟨_, rfl, _, rfl, D, s, rfl, hD, by omega, fun q H1 h0 h1 k1 d1 => ?_⟩
    refine ⟨_, rfl, _, rfl, _, _, rfl, rfl, _, rfl, _, rfl, _, rfl, _, _, rfl, rfl, D, s - q, rfl, d1, by omega, fun q2 H2 h2 h3 k2 d2 => ⟨_, _, rfl, rfl, (by show 2 ≤ sizeLine; decide), fun t ht => ?_⟩⟩
    have k12 := k1.trans k2
    exact k t (q, q + 1 + q2) _ ⟨h0, by show q < q + 1 + q2; omega, by show q + 1 + q2 ≤ s; omega⟩ (k12.trans (Kp.of (Ex.new ht))) (d2.ex (Ex.new ht)) (k12.fresh d2 ht) upd_same
def spParts : Sp := fun vs H Q _ => ∃ (D : Addr) (m : Int), vs = [.ref D, .int m] ∧ Dr D H ∧ 0 ≤ m ∧ m ≤ 50 ∧ ∀ (A : Addr) (gs : List Int) H', Kp D H H' → Dr D H' → H A = none → H' A = some (.lst (gs.map V.int)) → gs.Pairwise (· < ·) → (∀ n ∈ gs, 0 ≤ n ∧ n < m) → Q (.ref A) H'
theorem sc_parts : FnScope ["_law_draws_here", "_law_many", "_law_part"] ["_law_draws_here", "_law_many"] (defScope s__law_parts) := ⟨rfl, rfl, rfl, by decide +kernel, rfl, by decide +kernel, by decide +kernel⟩
theorem has_parts (T : Ctx K mg) : Has w K mg base CX0 "_law_parts" 2 ["_law_draws_here", "_law_many"] spParts := by
  obtain ⟨f1, fd1, m1, kp1, F1, b1⟩ := has_take (w := w) (base := base) T
  refine has_of (st := s__law_parts) (f := He.ga K "_law_parts") T.d__law_parts T.g__law_parts (fun _ _ _ _ _ _ us hl => match us, hl with | [_, _], _ => rfl) fun fd F => ?_
  refine ok0 F sc_parts (fun vs H Q E h => ?_) (fun cdv A outer s0 H vs Q E hr h => ?_)
  · obtain ⟨D, m, rfl, _⟩ := h
    rfl
  · obtain ⟨D, m, rfl, hD, hm0, hm1, k⟩ := h
    have nd := sc_parts.nd
    refine ⟨_, pss_one (ps_ret (pe_lc (own := [("_law_part", 2)]) (g := gName 2) rfl nd (pi_range1 (by rfl) T.b_range (pa_cons (pv 1) pa_nil)) (blkOk_by (own := [("_law_part", 2)]) (N := ["_law_draws_here", "_law_many", "_law_part"]) (sc := defScope s__law_parts) (by decide +kernel)) (fun _ _ _ _ _ => pg_name (i := 2) nd rfl (Or.inl rfl))
      (fun _ _ _ _ _ => pts_one (pt_cmpR op_eq (pe_call F1 hr (by rfl) m1 kp1 b1 .nil pass0 (pa_cons (pv 0) (pa_cons pe_int pa_nil))) pe_int (nomark _))) (fun _ _ _ _ _ => pv 2))), ?_⟩
    refine ⟨_, rfl, _, rfl, ?_, ?_, fun A hA => lc_it walk_range (fun i H' => Kp D H H' ∧ Dr D H' ∧ ∃ gs : List Int, H' A = some (.lst (gs.map V.int)) ∧ gs.Pairwise (· < ·) ∧ (∀ n ∈ gs, 0 ≤ n ∧ n < i)) ⟨Kp.of (Ex.new hA), hD.ex (Ex.new hA), [], upd_same, List.Pairwise.nil, fun n h => by cases h⟩ (fun _ _ _ _ => trivial) ?_ ?_⟩
    · omega
    · omega
    · rintro i x H6 H7 hi ⟨k6, d6, gs, hA6, asc, inn⟩ ⟨rfl, rfl⟩
      refine ⟨rfl, ?_⟩
      refine ⟨_, rfl, D, 2, rfl, d6, by decide, fun q H8 h2 h3 k8 d8 => ⟨rfl, _, rfl, ?_⟩⟩
      have hAD : A ≠ D := Kp.ne hD hA
      have hA8 := k8 _ _ hAD hA6
      have k58 := k6.trans k8
      have hgl : (gs.length : Int) ≤ (i : Int) - 0 := asc_few asc inn (by omega)
      have hi9 : i < 100 := by omega
      by_cases c : V.int q = V.int 1
      · refine iteT' (decide_eq_true c) ⟨_, rfl, _, hA8, by rw [List.length_map]; exact small1000 (by omega), k58.mut hA, ?_, gs ++ [(i : Int)], ?_, ?_, ?_⟩
        · obtain ⟨ms, hms⟩ := d8
          exact ⟨ms, by rw [upd_ne (Ne.symm hAD)]; exact hms⟩
        · rw [upd_same, List.map_append]
          simp
        · rw [List.pairwise_append]
          refine ⟨asc, List.pairwise_singleton _ _, fun a ha b hb => ?_⟩
          have := inn a ha
          have : b = i := by simpa using hb
          omega
        · intro n hn
          rcases List.mem_append.mp hn with hn | hn
          · have := inn n hn
            omega
          · have : n = i := by simpa using hn
            omega
      · exact iteF' (decide_eq_false c) ⟨k58, d8, gs, hA8, asc, fun n hn => by have := inn n hn; omega⟩
    · rintro H6 ⟨k6, d6, gs, hA6, asc, inn⟩
      exact k A gs H6 k6 d6 hA hA6 asc (fun n hn => by have := inn n hn; omega)
end
end K05


set_option Elab.async false
set_option linter.all false
set_option maxRecDepth 100000
set_option maxHeartbeats 4000000
/-! xs[i] += e, xs a list, i not below 0 -/
namespace L2
open PySem PySem.Spec PyProof.Rows
section
variable {X : Cx}
def rGetL (K : PySem.W.Frag) : V → V → Hp → VK → Prop := fun o i H Q => ∃ (p : Addr) (xs : List V) (j : Nat) (v : V), o = .ref p ∧ i = .int (j : Int) ∧ SqL K H p xs ∧ xs[j]? = some v ∧ Q v H
theorem get_listA : PGet X (rGetL X.K) := by
  intro pins s σ H o i ov iv Q I ro ri hq
  obtain ⟨p, xs, j, v, rfl, rfl, hs, hv, q⟩ := hq
  cases ro
  obtain ⟨t, rfl⟩ := ri
  obtain ⟨its, r, pl, hz⟩ := I.list hs
  obtain ⟨u, hu, ru⟩ := r.get hv
  have hl := r.length
  have hj := (List.getElem?_eq_some_iff.mp hv).1
  have h63 := line63
  exact wpAny_getItem_list pl.isList (Int.natCast_nonneg j) (by omega) (by rw [Int.toNat_natCast]; simpa using hu) ⟨v, H, I, ru, q⟩
/-- o[i] += e -/
theorem ps_augL {o i e : Expr} {to ti te : TE} {tpos pos : Pos} (ho : PE X o to) (hi : PE X i ti) (he : PE X e te)
    (ha : ∀ ov iv new, augStore i ov iv new = (do holding [new, ov, iv] (setItem ov iv new); release [new, ov, iv] []; pure .next) := by intros; rfl) :
    PS X (.AugAssign (.Subscript o i tpos) .Add e pos) (tAugS to ti te (rGetL X.K) (ipI fun i j => i + j) rSetL) := ps_augS ho hi get_listA he ip_add set_list ha
theorem ps_augLs {o i e : Expr} {to ti te : TE} {tpos pos : Pos} (ho : PE X o to) (hi : PE X i ti) (he : PE X e te)
    (ha : ∀ ov iv new, augStore i ov iv new = (do holding [new, ov, iv] (setItem ov iv new); release [new, ov, iv] []; pure .next) := by intros; rfl) :
    PS X (.AugAssign (.Subscript o i tpos) .Sub e pos) (tAugS to ti te (rGetL X.K) (ipI fun i j => i - j) rSetL) := ps_augS ho hi get_listA he ip_sub set_list ha
end
end L2


set_option Elab.async false
set_option linter.all false
set_option maxRecDepth 100000
set_option maxHeartbeats 4000000
namespace K05
open PySem PySem.Spec PyProof.Rows L2
open Evl (Ex)
/-- how many of these parts cover the place -/
def covAt (rs : List (Int × Int)) (ps : List Int) (j : Int) : Int := ((ps.filter fun p => decide ((rs.getD p.toNat (0, 0)).1 ≤ j ∧ j < (rs.getD p.toNat (0, 0)).2)).length : Int)
def rowOf (s : Nat) (f : Int → Int) : List Int := (List.range s).map fun j : Nat => f (j : Int)
def covL (s : Nat) (rs : List (Int × Int)) (ps : List Int) : List Int := rowOf s (covAt rs ps)
/-- the row with one more on j places behind b -/
def bump (f : Int → Int) (b : Int) (j : Nat) (q : Int) : Int := f q + (if b ≤ q ∧ q < b + j then 1 else 0)
theorem row_get {s : Nat} {f : Int → Int} {j : Nat} (h : j < s) : (rowOf s f)[j]? = some (f j) := by
  unfold rowOf
  rw [List.getElem?_map, List.getElem?_range h]
  rfl
theorem row_set {s : Nat} {f g : Int → Int} {j : Nat} {v : Int} (h : j < s) (hv : g j = v) (ho : ∀ q : Nat, q < s → q ≠ j → g q = f q) : (rowOf s f).set j v = rowOf s g := by
  apply List.ext_getElem?
  intro q
  rw [List.getElem?_set]
  by_cases c : j = q
  · subst c
    rw [if_pos rfl, row_get h, hv]
    have : (rowOf s f).length = s := by unfold rowOf; simp
    rw [if_pos (by rw [this]; exact h)]
  · rw [if_neg c]
    by_cases hq : q < s
    · rw [row_get hq, row_get hq, ho q hq (Ne.symm c)]
    · have l1 : (rowOf s f).length = s := by unfold rowOf; simp
      have l2 : (rowOf s g).length = s := by unfold rowOf; simp
      rw [List.getElem?_eq_none (by omega), List.getElem?_eq_none (by omega)]
theorem row_len (s : Nat) (f : Int → Int) : (rowOf s f).length = s := by unfold rowOf; simp
theorem row_congr {s : Nat} {f g : Int → Int} (h : ∀ q : Nat, q < s → f q = g q) : rowOf s f = rowOf s g := by
  unfold rowOf
  exact List.map_congr_left fun q hq => h q (List.mem_range.mp hq)
theorem covAt_snoc (rs : List (Int × Int)) (ps : List Int) (p j : Int) : covAt rs (ps ++ [p]) j = covAt rs ps j + (if (rs.getD p.toNat (0, 0)).1 ≤ j ∧ j < (rs.getD p.toNat (0, 0)).2 then 1 else 0) := by
  unfold covAt
  rw [List.filter_append, List.length_append]
  by_cases c : (rs.getD p.toNat (0, 0)).1 ≤ j ∧ j < (rs.getD p.toNat (0, 0)).2
  · rw [if_pos c]
    have : [p].filter (fun p => decide ((rs.getD p.toNat (0, 0)).1 ≤ j ∧ j < (rs.getD p.toNat (0, 0)).2)) = [p] := by simp only [List.filter_cons, List.filter_nil, decide_eq_true c, if_true]
    rw [this]
    rfl
  · rw [if_neg c]
    have : [p].filter (fun p => decide ((rs.getD p.toNat (0, 0)).1 ≤ j ∧ j < (rs.getD p.toNat (0, 0)).2)) = [] := by simp only [List.filter_cons, List.filter_nil, decide_eq_false c]; rfl
    rw [this]
    simp
section
variable {w : World} {K : PySem.W.Frag} {mg : Str → Option Value} {base : Heap}
def spLCover : Sp := fun vs H Q _ => ∃ (s : Nat) (R A : Addr) (us : List V) (rs : List (Int × Int)) (ps : List Int), vs = [.int s, .ref R, .ref A] ∧ s ≤ 50 ∧ H R = some (.lst us) ∧ Runs H us rs ∧ (∀ r ∈ rs, Fits s r) ∧ H A = some (.lst (ps.map V.int)) ∧ (∀ n ∈ ps, 0 ≤ n ∧ n < rs.length) ∧
  ∀ H' q, Ex H H' → H q = none → H' q = some (.lst ((covL s rs ps).map V.int)) → Q (.ref q) H'
theorem sc_lcover : FnScope ["_law_size", "_law_runs", "_law_parts_here", "_law_covers", "_law_place", "_law_part"] ["_law_size", "_law_runs", "_law_parts_here"] (defScope s__law_cover) := ⟨rfl, rfl, rfl, by decide +kernel, rfl, by decide +kernel, by decide +kernel⟩
theorem has_lcover (T : Ctx K mg) : Has w K mg base CX0 "_law_cover" 1 ["_law_size", "_law_runs", "_law_parts_here"] spLCover := by
  refine has_of (st := s__law_cover) (f := He.ga K "_law_cover") T.d__law_cover T.g__law_cover (fun _ _ _ _ _ _ us hl => match us, hl with | [_, _, _], _ => rfl) fun fd F => ?_
  refine ok0 F sc_lcover (fun vs H Q E h => ?_) (fun cdv A outer s0 H vs Q E hr h => ?_)
  · obtain ⟨s, R, A, us, rs, ps, rfl, _⟩ := h
    rfl
  · obtain ⟨s, R, A, us, rs, ps, rfl, hs50, hR, RR, hF, hA, inn, k⟩ := h
    have nd := sc_lcover.nd
    refine ⟨_, pss_cons (ps_setLc (own := [("_law_place", 4)]) (i := 3) (g := gName 4) (tt := tYes) rfl nd rfl rfl rfl (pi_range1 (by rfl) T.b_range (pa_cons (pv 0) pa_nil)) (blkOk_by (own := [("_law_place", 4)]) (N := ["_law_size", "_law_runs", "_law_parts_here", "_law_covers", "_law_place", "_law_part"]) (sc := defScope s__law_cover) (by decide +kernel)) (fun _ _ _ _ _ => pg_name (i := 4) nd rfl (Or.inl rfl)) (fun _ _ _ _ _ => pts_nil) (fun _ _ _ _ _ => pe_int))
      (pss_cons (ps_for PassesOwn.never rfl (pi_list (pv 2)) (pg_name (i := 5) nd rfl (.inl rfl))
        (pss_one (ps_for PassesOwn.never rfl (pi_range2 (by rfl) T.b_range (pa_cons (pe_ix ix_tup (pe_ix ix_list (pv 1) (pv 5) (fun _ _ => rfl)) pe_int (fun _ _ => rfl)) (pa_cons (pe_ix ix_tup (pe_ix ix_list (pv 1) (pv 5) (fun _ _ => rfl)) pe_int (fun _ _ => rfl)) pa_nil))) (pg_name (i := 4) nd rfl (.inl rfl))
          (pss_one (ps_augL (pv 3) (pv 4) pe_int)))))
      (pss_one (ps_ret (pv 3)))), ?_⟩
    refine ⟨_, rfl, _, rfl, ?_, ?_, fun q hq => lc_it walk_range (fun i H' => Ex H H' ∧ H' q = some (.lst ((List.replicate i (0 : Int)).map V.int))) ⟨Ex.new hq, upd_same⟩ (fun _ _ _ _ => trivial) ?_ ?_⟩
    · omega
    · omega
    · rintro i x H2 H3 hi ⟨e2, hq2⟩ ⟨rfl, rfl⟩
      have hi50 : i < 100 := by omega
      refine ⟨rfl, tYesI ⟨_, hq2, by rw [List.length_map, List.length_replicate]; exact small1000 (by omega), Evl.Ex.mut e2 hq, ?_⟩⟩
      rw [upd_same, List.replicate_succ', List.map_append]
      rfl
    rintro H1 ⟨e1, hq1⟩
    have hrow0 : List.replicate ((s : Int).toNat) (0 : Int) = covL s rs [] := by
      unfold covL rowOf
      rw [Int.toNat_natCast]
      apply List.ext_getElem?
      intro n
      by_cases hn : n < s
      · rw [List.getElem?_map, List.getElem?_range hn, List.getElem?_replicate, if_pos hn]
        rfl
      · rw [List.getElem?_eq_none (by simp; omega), List.getElem?_eq_none (by simp; omega)]
    rw [hrow0] at hq1
    have hRq : R ≠ q := ne_of_none hR hq
    have hAq : A ≠ q := ne_of_none hA hq
    refine ⟨_, rfl, A, rfl, ⟨_, SqL.of (e1 _ _ hA)⟩, for_it walk_list (fun i σ H' => ∃ v4 v5 : Option V, σ = [some (.int s), some (.ref R), some (.ref A), some (.ref q), v4, v5] ∧ Ex H H' ∧ H' q = some (.lst ((covL s rs (ps.take i)).map V.int))) ⟨_, _, rfl, e1, hq1⟩ (fun i σ H' _ ⟨_, _, _, e, _⟩ => SqL.of (e _ _ hA)) ?_ ?_⟩
    · rintro i x σ H2 H3 hi ⟨v4, v5, rfl, e2, hq2⟩ ⟨rfl, hx⟩
      obtain ⟨p, hp, rfl⟩ : ∃ p, ps[i]? = some p ∧ x = V.int p := by
        have hx2 : (ps.map V.int)[i]? = some x := hx
        rw [List.getElem?_map] at hx2
        cases c : ps[i]? with
        | none => rw [c] at hx2; cases hx2
        | some p => rw [c] at hx2; cases hx2; exact ⟨p, rfl, rfl⟩
      obtain ⟨hp0, hp1⟩ := inn p (List.mem_of_getElem? hp)
      obtain ⟨n, rfl⟩ : ∃ n : Nat, p = (n : Int) := ⟨p.toNat, by omega⟩
      have hn : n < rs.length := by omega
      obtain ⟨t, ht, htt⟩ := (RR.ex e2).at_ n _ (List.getElem?_eq_getElem hn)
      have hf := hF _ (List.getElem_mem hn)
      have hgd : rs.getD (n : Int).toNat (0, 0) = rs[n] := by
        rw [Int.toNat_natCast, List.getD_eq_getElem?_getD, List.getElem?_eq_getElem hn]
        rfl
      generalize rs[n] = r at *
      obtain ⟨f0, f1, f2⟩ := hf
      have hix : atI us (n : Int) = some (.ref t) := atI_nat ht
      refine ⟨_, rfl, _, rfl, R, us, _, _, rfl, rfl, SqL.of (e2 _ _ hR), hix, t, _, 0, _, rfl, rfl, SqT.of htt, atI_nat (j := 0) rfl, ?_⟩
      refine ⟨_, rfl, _, rfl, R, us, _, _, rfl, rfl, SqL.of (e2 _ _ hR), hix, t, _, 1, _, rfl, rfl, SqT.of htt, atI_nat (j := 1) rfl, ?_⟩
      refine ⟨_, _, rfl, ⟨by omega, by omega, by omega, by omega⟩, for_it walk_range (fun j σ H' => ∃ v4 v5 : Option V, σ = [some (.int s), some (.ref R), some (.ref A), some (.ref q), v4, v5] ∧ Ex H H' ∧ H' q = some (.lst ((rowOf s (bump (covAt rs (ps.take i)) r.1 j)).map V.int))) ⟨_, _, rfl, e2, ?_⟩ (fun _ _ _ _ _ => trivial) ?_ ?_⟩
      · rw [hq2]
        unfold covL
        rw [row_congr (g := bump (covAt rs (ps.take i)) r.1 0) fun z _ => ?_]
        unfold bump
        rw [if_neg (by omega)]
        omega
      · rintro j x σ H4 H5 hj ⟨v4, v5, rfl, e4, hq4⟩ ⟨rfl, rfl⟩
        obtain ⟨b, hb⟩ : ∃ b : Nat, r.1 = (b : Int) := ⟨r.1.toNat, by omega⟩
        have hbj : b + j < s := by omega
        have ebj : r.1 + (j : Int) = ((b + j : Nat) : Int) := by omega
        refine ⟨_, rfl, _, rfl, q, _, b + j, .int (bump (covAt rs (ps.take i)) r.1 j ((b + j : Nat) : Int)), rfl, ?_, SqL.of hq4, ?_, _, _, rfl, rfl, q, _, r.1 + (j : Int), b + j, rfl, rfl, hq4, ?_, _, _, rfl, Evl.Ex.mut e4 hq, ?_⟩
        · exact congrArg V.int ebj
        · rw [List.getElem?_map, row_get hbj]
          rfl
        · unfold ixN
          rw [List.length_map, row_len, if_pos (by omega), if_pos (by omega), ebj, Int.toNat_natCast]
        · rw [upd_same]
          show some (HO.lst (((rowOf s (bump (covAt rs (ps.take i)) r.1 j)).map V.int).set (b + j) (V.int (bump (covAt rs (ps.take i)) r.1 j ((b + j : Nat) : Int) + 1)))) = _
          rw [← List.map_set, row_set (g := bump (covAt rs (ps.take i)) r.1 (j + 1)) hbj ?_ fun z hz hne => ?_]
          · unfold bump
            rw [if_pos (by omega), if_neg (by omega)]
            omega
          · unfold bump
            by_cases c : r.1 ≤ (z : Int) ∧ (z : Int) < r.1 + (j : Int)
            · rw [if_pos c, if_pos (by omega)]
            · rw [if_neg c, if_neg (by omega)]
      · rintro σ H4 ⟨v4, v5, rfl, e4, hq4⟩
        refine ⟨_, _, rfl, e4, ?_⟩
        rw [hq4, List.take_add_one, hp]
        unfold covL
        rw [row_congr (g := covAt rs (ps.take i ++ [(n : Int)])) fun z _ => ?_]
        · rfl
        · rw [covAt_snoc, hgd]
          unfold bump
          have e3 : r.1 + ((r.2 - r.1).toNat : Int) = r.2 := by omega
          rw [e3]
    · rintro σ H2 ⟨v4, v5, rfl, e2, hq2⟩
      refine ⟨_, rfl, k _ _ e2 hq ?_⟩
      rw [hq2, List.length_map, List.take_length]
end
end K05


set_option Elab.async false
set_option linter.all false
set_option maxRecDepth 100000
set_option maxHeartbeats 4000000
namespace K05
open PySem PySem.Spec PyProof.Rows L2
open Evl (Ex)
/-- the changes of the cover at the points -/
def dOne (r : Int × Int) (j : Int) : Int := (if j = r.1 then 1 else 0) - (if j = r.2 then 1 else 0)
def dAt (rs : List (Int × Int)) : List Int → Int → Int
  | [], _ => 0
  | p :: ps, j => dAt rs ps j + dOne (rs.getD p.toNat (0, 0)) j
def pre (f : Int → Int) : Nat → Int
  | 0 => 0
  | n + 1 => pre f n + f n
theorem pre_add (f g : Int → Int) : ∀ n, pre (fun j => f j + g j) n = pre f n + pre g n
  | 0 => rfl
  | n + 1 => by
    show pre (fun j => f j + g j) n + (f n + g n) = (pre f n + f n) + (pre g n + g n)
    rw [pre_add f g n]
    omega
theorem pre_one {r : Int × Int} (h0 : 0 ≤ r.1) (h1 : r.1 < r.2) : ∀ n : Nat, pre (dOne r) n = if r.1 ≤ (n : Int) - 1 ∧ (n : Int) - 1 < r.2 then 1 else 0
  | 0 => by
    rw [if_neg (by omega)]
    rfl
  | n + 1 => by
    show pre (dOne r) n + dOne r n = _
    rw [pre_one h0 h1 n]
    unfold dOne
    have e : ((n + 1 : Nat) : Int) - 1 = (n : Int) := by omega
    rw [e]
    split <;> split <;> split <;> split <;> omega
theorem covAt_cons (rs : List (Int × Int)) (ps : List Int) (p j : Int) : covAt rs (p :: ps) j = covAt rs ps j + (if (rs.getD p.toNat (0, 0)).1 ≤ j ∧ j < (rs.getD p.toNat (0, 0)).2 then 1 else 0) := by
  unfold covAt
  by_cases c : (rs.getD p.toNat (0, 0)).1 ≤ j ∧ j < (rs.getD p.toNat (0, 0)).2
  · rw [if_pos c, List.filter_cons, if_pos (by exact decide_eq_true c), List.length_cons]
    omega
  · rw [if_neg c, List.filter_cons, if_neg (by simpa using c)]
    omega
theorem pre_cov {s : Int} {rs : List (Int × Int)} (hF : ∀ r ∈ rs, Fits s r) : ∀ (ps : List Int), (∀ n ∈ ps, 0 ≤ n ∧ n < rs.length) → ∀ q : Nat, pre (dAt rs ps) (q + 1) = covAt rs ps q
  | [], _, q => by
    have z : ∀ n, pre (dAt rs []) n = 0 := fun n => by
      induction n with
      | zero => rfl
      | succ n ih =>
        show pre (dAt rs []) n + 0 = 0
        rw [ih]
        rfl
    rw [z]
    rfl
  | p :: ps, h, q => by
    have hp := h p (List.mem_cons_self ..)
    have hn : p.toNat < rs.length := by omega
    have hg : rs.getD p.toNat (0, 0) = rs[p.toNat] := by
      rw [List.getD_eq_getElem?_getD, List.getElem?_eq_getElem hn]
      rfl
    have hf := hF _ (List.getElem_mem hn)
    have e := pre_add (dAt rs ps) (dOne (rs.getD p.toNat (0, 0))) (q + 1)
    show pre (fun j => dAt rs ps j + dOne (rs.getD p.toNat (0, 0)) j) (q + 1) = _
    rw [e, pre_cov hF ps (fun n hn => h n (List.mem_cons_of_mem _ hn)) q, covAt_cons, hg, pre_one hf.1 hf.2.1]
    have e2 : ((q + 1 : Nat) : Int) - 1 = (q : Int) := by omega
    rw [e2]
theorem dAt_snoc (rs : List (Int × Int)) (p j : Int) : ∀ ps : List Int, dAt rs (ps ++ [p]) j = dAt rs ps j + dOne (rs.getD p.toNat (0, 0)) j
  | [] => by show 0 + _ = 0 + _; rfl
  | q :: ps => by
    show dAt rs (ps ++ [p]) j + _ = dAt rs ps j + _ + _
    rw [dAt_snoc rs p j ps]
    omega
end K05


set_option Elab.async false
set_option linter.all false
set_option maxRecDepth 100000
set_option maxHeartbeats 4000000
namespace K05
open PySem PySem.Spec PyProof.Rows L2
open Evl (Ex)
theorem cut_last (xs : List V) (v : V) : cutV (xs ++ [v]) none (some (-1)) = xs := by
  unfold cutV HT.sIx
  simp
  have e : (-1 + ((xs.length : Int) + 1)).toNat = xs.length := by omega
  rw [e]
  simp
section
variable {w : World} {K : PySem.W.Frag} {mg : Str → Option Value} {base : Heap}
def spCovered (K : PySem.W.Frag) : Sp := fun vs H Q _ => ∃ (x c : Addr) (kd : Str) (s : Nat) (us : List V) (rs : List (Int × Int)) (ns ps : List Int), vs = [.ref x, .ref c] ∧ Mkt K H x kd (s : Int) us rs ns ∧ s ≤ 50 ∧ (∀ r ∈ rs, Fits s r) ∧ H c = some (.tup (ps.map V.int)) ∧ (∀ n ∈ ps, 0 ≤ n ∧ n < rs.length) ∧
  ∀ H' q, Ex H H' → H q = none → H' q = some (.tup ((covL s rs ps).map V.int)) → Q (.ref q) H'
theorem sc_covered : FnScope ["market", "chosen", "changes", "part", "begin", "end", "counts", "count", "change"] ["market", "chosen"] (defScope s_covered) := ⟨rfl, rfl, rfl, by decide +kernel, rfl, by decide +kernel, by decide +kernel⟩
theorem has_covered (T : Ctx K mg) : Has w K mg base CX0 "covered" 1 ["market", "chosen"] (spCovered K) := by
  refine has_of (st := s_covered) (f := He.ga K "covered") T.d_covered T.g_covered (fun _ _ _ _ _ _ us hl => match us, hl with | [_, _], _ => rfl) fun fd F => ?_
  refine ok0 F sc_covered (fun vs H Q E h => ?_) (fun cdv A outer s0 H vs Q E hr h => ?_)
  · obtain ⟨x, c, kd, s, us, rs, ns, ps, rfl, _⟩ := h
    rfl
  · obtain ⟨x, c, kd, s, us, rs, ns, ps, rfl, M, hs50, hF, hc, inn, k⟩ := h
    obtain ⟨C, dx, pr, pg, hM, h1, h2, h3⟩ := M.ob
    have nd := sc_covered.nd
    refine ⟨_, pss_cons (ps_set (i := 2) nd rfl (.inl rfl) (pe_op op_rep (pe_lst (pa_cons pe_int pa_nil)) (pe_op op_add (pe_fld (pv 0) rfl) pe_int)))
      (pss_cons (ps_for PassesOwn.never rfl (pi_tup (pv 1)) (pg_name (i := 3) nd rfl (.inl rfl))
        (pss_cons (ps_asg (pe_ix ix_tup (pe_fld (pv 0) rfl) (pv 3) (fun _ _ => rfl)) (pg_tup (by rfl) (pgs_cons (pg_name (i := 4) nd rfl (.inl rfl)) (pgs_cons (pg_name (i := 5) nd rfl (.inl rfl)) pgs_nil))))
        (pss_cons (ps_augL (pv 2) (pv 4) pe_int) (pss_one (ps_augLs (pv 2) (pv 5) pe_int)))))
      (pss_cons (ps_set (i := 6) nd rfl (.inl rfl) (pe_lst pa_nil))
      (pss_cons (ps_set (i := 7) nd rfl (.inl rfl) pe_int)
      (pss_cons (ps_for PassesOwn.never rfl (pi_list (pe_slice sl_list (pv 2) po_none (po_some (pe_un un_neg pe_int)))) (pg_name (i := 8) nd rfl (.inl rfl))
        (pss_cons (ps_aug (i := 7) nd rfl (.inl rfl) (pv 8) ip_add)
        (pss_one (ps_expr (pe_bm PySem.F.plainAttrs_list PySem.F.slot_list_append PySem.F.type_list_append mt_append (pv 6) (pa_cons (pv 7) pa_nil))))))
      (pss_one (ps_ret (pe_callTy call_tuple_of (by rfl) T.b_tuple (by decide +kernel) (pa_cons (pv 6) pa_nil)))))))), ?_⟩
    refine ⟨(by show 1 ≤ sizeLine; decide), fun p0 hp0 => ?_⟩
    have e0 := Ex.new (o := .lst [V.int 0]) hp0
    refine ⟨_, rfl, x, C, dx, _, _, rfl, e0 _ _ h1, hM.cl T, hM.nS T, mf_size _ _ _, _, _, rfl, rfl, p0, _, _, rfl, rfl, upd_same, ?_, ?_, ?_, fun q hq => ?_⟩
    · omega
    · omega
    · refine Nat.le_trans (show 1 * ((s : Int) + 1).toNat ≤ 1000 by omega) (by decide)
    have hrow0 : (List.replicate (((s : Int) + 1).toNat) [V.int 0]).flatten = (rowOf (s + 1) (dAt rs [])).map V.int := by
      have e : ((s : Int) + 1).toNat = s + 1 := by omega
      rw [e]
      have z : ∀ n : Nat, (List.replicate n [V.int 0]).flatten = (List.range n).map fun _ => V.int 0 := fun n => by
        induction n with
        | zero => rfl
        | succ n ih => rw [List.replicate_succ', List.flatten_append, ih, List.range_succ, List.map_append]; rfl
      rw [z]
      unfold rowOf
      rw [List.map_map]
      rfl
    have e1 := e0.trans (Ex.new (o := .lst (List.replicate (((s : Int) + 1).toNat) [V.int 0]).flatten) hq)
    have hq0 : H q = none := Evl.fresh_back e0 hq
    refine ⟨_, rfl, c, rfl, ⟨_, SqT.of (e1 _ _ hc)⟩, for_it walk_tup (fun i σ H' => ∃ v3 v4 v5 v6 v7 v8 : Option V, σ = [some (.ref x), some (.ref c), some (.ref q), v3, v4, v5, v6, v7, v8] ∧ Ex H H' ∧ H' q = some (.lst ((rowOf (s + 1) (dAt rs (ps.take i))).map V.int))) ⟨_, _, _, _, _, _, rfl, e1, by rw [upd_same]; exact congrArg (fun z => some (HO.lst z)) hrow0⟩ (fun i σ H' _ ⟨_, _, _, _, _, _, _, e, _⟩ => Ex.tup e hc) ?_ ?_⟩
    · rintro i v σ H2 H3 hi ⟨v3, v4, v5, v6, v7, v8, rfl, e2, hq2⟩ ⟨rfl, hx⟩
      obtain ⟨p, hp, rfl⟩ : ∃ p, ps[i]? = some p ∧ v = V.int p := by
        have hx2 : (ps.map V.int)[i]? = some v := hx
        rw [List.getElem?_map] at hx2
        cases cc : ps[i]? with
        | none => rw [cc] at hx2; cases hx2
        | some p => rw [cc] at hx2; cases hx2; exact ⟨p, rfl, rfl⟩
      obtain ⟨hpp0, hp1⟩ := inn p (List.mem_of_getElem? hp)
      obtain ⟨n, rfl⟩ : ∃ n : Nat, p = (n : Int) := ⟨p.toNat, by omega⟩
      have hn : n < rs.length := by omega
      obtain ⟨t, ht, htt⟩ := (M.runs.ex e2).at_ n _ (List.getElem?_eq_getElem hn)
      have hf := hF _ (List.getElem_mem hn)
      have hgd : rs.getD (n : Int).toNat (0, 0) = rs[n] := by
        rw [Int.toNat_natCast, List.getD_eq_getElem?_getD, List.getElem?_eq_getElem hn]
        rfl
      generalize rs[n] = r at *
      obtain ⟨f0, f1, f2⟩ := hf
      have hix : atI us (n : Int) = some (.ref t) := atI_nat ht
      refine ⟨_, rfl, x, C, dx, _, _, rfl, e2 _ _ h1, hM.cl T, hM.nR T, mf_runs _ _ _, _, rfl, pr, us, _, _, rfl, rfl, SqT.of (e2 _ _ h2), hix, t, _, rfl, SqT.of htt, rfl, _, _, rfl, _, _, rfl, rfl, ?_⟩
      obtain ⟨b, hb⟩ : ∃ b : Nat, r.1 = (b : Int) := ⟨r.1.toNat, by omega⟩
      obtain ⟨e, he⟩ : ∃ e : Nat, r.2 = (e : Int) := ⟨r.2.toNat, by omega⟩
      have hbs : b < s + 1 := by omega
      have hes : e < s + 1 := by omega
      have f1' : (rowOf (s + 1) (dAt rs (ps.take i))).set b (dAt rs (ps.take i) b + 1) = rowOf (s + 1) (fun j => dAt rs (ps.take i) j + (if j = r.1 then 1 else 0)) := row_set hbs (by rw [if_pos hb.symm]) fun z hz hne => by rw [if_neg (by omega)]; omega
      refine ⟨_, rfl, _, rfl, q, _, b, .int (dAt rs (ps.take i) b), rfl, congrArg V.int hb, SqL.of hq2, ?_, _, _, rfl, rfl, q, _, r.1, b, rfl, rfl, hq2, ?_, ?_⟩
      · rw [List.getElem?_map, row_get hbs]
        rfl
      · unfold ixN
        rw [List.length_map, row_len, if_pos (by omega), if_pos (by omega), hb, Int.toNat_natCast]
      have hq3 : upd H3 q (.lst (((rowOf (s + 1) (dAt rs (ps.take i))).map V.int).set b (V.int (dAt rs (ps.take i) b + 1)))) q = some (.lst ((rowOf (s + 1) (fun j => dAt rs (ps.take i) j + (if j = r.1 then 1 else 0))).map V.int)) := by
        rw [upd_same, ← List.map_set, f1']
      have e3 : Ex H (upd H3 q (.lst (((rowOf (s + 1) (dAt rs (ps.take i))).map V.int).set b (V.int (dAt rs (ps.take i) b + 1))))) := Evl.Ex.mut e2 hq0
      have gF : ∀ j : Int, (fun j => dAt rs (ps.take i) j + (if j = r.1 then 1 else 0)) j - (if j = r.2 then 1 else 0) = dAt rs (ps.take i ++ [(n : Int)]) j := fun j => by
        rw [dAt_snoc, hgd]
        unfold dOne
        show dAt rs (ps.take i) j + (if j = r.1 then 1 else 0) - (if j = r.2 then 1 else 0) = _
        omega
      refine ⟨_, rfl, _, rfl, q, _, e, .int ((fun j => dAt rs (ps.take i) j + (if j = r.1 then 1 else 0)) (e : Int)), rfl, congrArg V.int he, SqL.of hq3, ?_, _, _, rfl, rfl, q, _, r.2, e, rfl, rfl, hq3, ?_, ?_⟩
      · rw [List.getElem?_map, row_get hes]
        rfl
      · unfold ixN
        rw [List.length_map, row_len, if_pos (by omega), if_pos (by omega), he, Int.toNat_natCast]
      refine ⟨_, _, _, _, _, _, rfl, Evl.Ex.mut e3 hq0, ?_⟩
      rw [upd_same, List.take_add_one, hp]
      show some (HO.lst (((rowOf (s + 1) (fun j => dAt rs (ps.take i) j + (if j = r.1 then 1 else 0))).map V.int).set e (V.int ((fun j => dAt rs (ps.take i) j + (if j = r.1 then 1 else 0)) (e : Int) - 1)))) = some (HO.lst ((rowOf (s + 1) (dAt rs (ps.take i ++ [(n : Int)]))).map V.int))
      rw [← List.map_set, row_set (g := dAt rs (ps.take i ++ [(n : Int)])) hes ?_ fun z hz hne => ?_]
      · rw [← gF, if_pos he.symm]
      · rw [← gF, if_neg (show ¬ ((z : Int) = r.2) by omega)]
        exact Int.sub_zero _
    · rintro σ H2 ⟨v3, v4, v5, v6, v7, v8, rfl, e2, hq2⟩
      rw [List.length_map, List.take_length] at hq2
      refine ⟨(by show 0 ≤ sizeLine; decide), fun p6 hp6 => ?_⟩
      have e3 := e2.trans (Ex.new (o := .lst []) hp6)
      have hq3 := (Ex.new (o := .lst []) hp6) _ _ hq2
      have hp60 : H p6 = none := Evl.fresh_back e2 hp6
      have hpq : p6 ≠ q := Ne.symm (ne_of_none hq2 hp6)
      have hrow : (rowOf (s + 1) (dAt rs ps)).map V.int = (rowOf s (dAt rs ps)).map V.int ++ [V.int (dAt rs ps s)] := by
        unfold rowOf
        rw [List.range_succ, List.map_append, List.map_append]
        rfl
      rw [hrow] at hq3
      refine ⟨_, rfl, _, rfl, _, rfl, q, _, rfl, SqL.of hq3, fun p8 hp8 => ?_⟩
      rw [cut_last]
      have e4 := e3.trans (Ex.new (o := .lst ((rowOf s (dAt rs ps)).map V.int)) hp8)
      have hp68 := (Ex.new (o := .lst ((rowOf s (dAt rs ps)).map V.int)) hp8) _ _ (upd_same (H := H2) (a := p6) (o := .lst []))
      have hp86 : p8 ≠ p6 := Ne.symm (ne_of_none (upd_same (H := H2) (a := p6) (o := .lst [])) hp8)
      refine ⟨p8, rfl, ⟨_, SqL.of upd_same⟩, for_it walk_list (fun i σ H' => ∃ v3 v4 v5 v8 : Option V, σ = [some (.ref x), some (.ref c), some (.ref q), v3, v4, v5, some (.ref p6), some (.int (pre (dAt rs ps) i)), v8] ∧ Ex H H' ∧ H' p8 = some (.lst ((rowOf s (dAt rs ps)).map V.int)) ∧ H' p6 = some (.lst ((rowOf i (fun j => pre (dAt rs ps) (j.toNat + 1))).map V.int))) ⟨_, _, _, _, rfl, e4, upd_same, hp68⟩ (fun i σ H' _ ⟨_, _, _, _, _, _, e, _⟩ => SqL.of e) ?_ ?_⟩
      · rintro i v σ H4 H5 hi ⟨v3, v4, v5, v8, rfl, e5, h8, h6⟩ ⟨rfl, hx⟩
        rw [List.length_map, row_len] at hi
        have hv : v = V.int (dAt rs ps (i : Int)) := by
          have hx2 : ((rowOf s (dAt rs ps)).map V.int)[i]? = some v := hx
          rw [List.getElem?_map, row_get hi] at hx2
          cases hx2
          rfl
        subst hv
        refine ⟨_, rfl, _, rfl, _, _, rfl, rfl, ?_⟩
        refine ⟨_, rfl, .inl ⟨rfl, _, SqL.of h6⟩, _, rfl, p6, _, _, rfl, rfl, h6, by rw [List.length_map, row_len]; exact small1000 (by omega), ?_⟩
        refine ⟨_, _, _, _, rfl, Evl.Ex.mut e5 hp60, by rw [upd_ne hp86]; exact h8, ?_⟩
        rw [upd_same]
        have : rowOf (i + 1) (fun j => pre (dAt rs ps) (j.toNat + 1)) = rowOf i (fun j => pre (dAt rs ps) (j.toNat + 1)) ++ [pre (dAt rs ps) (i + 1)] := by
          unfold rowOf
          rw [List.range_succ, List.map_append]
          simp
        rw [this, List.map_append]
        rfl
      · rintro σ H4 ⟨v3, v4, v5, v8, rfl, e5, h8, h6⟩
        rw [List.length_map, row_len] at h6
        refine ⟨_, rfl, p6, _, rfl, .inl ⟨SqL.of h6, fun p9 hp9 => ?_⟩⟩
        refine k _ p9 (e5.trans (Ex.new hp9)) (Evl.fresh_back e5 hp9) ?_
        rw [upd_same]
        unfold covL
        rw [row_congr fun z hz => ?_]
        show pre (dAt rs ps) ((z : Int).toNat + 1) = covAt rs ps z
        rw [Int.toNat_natCast]
        exact pre_cov hF ps inn z
end
end K05


set_option Elab.async false
set_option linter.all false
set_option maxRecDepth 100000
set_option maxHeartbeats 4000000
/-! for a, b in enumerate(t), t a tuple. -/
namespace PySem
set_option maxHeartbeats 4000000 in
theorem meets_enumerate_newT (l : Addr) (items : Array Value) (n : Nat) (dct : Option Addr) (sl : Array (Option Value)) :
    Meets (Builtin.«enumerate.__new__» ⟨[.type "enumerate", .ref l], []⟩) (fun _ R s => s.heap.get? l = some { cls := .type "tuple", dict := dct, data := .seq items n, slots := sl } ∧
      R (.ok (.ret (.ref (s.heap.push { cls := .type "tuple_iterator", data := .fields #[.ref l, .int 0 0] }).objs.size)))
        { s with heap := (s.heap.push { cls := .type "tuple_iterator", data := .fields #[.ref l, .int 0 0] }).push { cls := .type "enumerate", data := .fields #[.none, .bool false, .ref s.heap.objs.size, rawInt 0, .none, .none] } }) :=
  .of_wp fun prog w A R s h => by
    obtain ⟨hp, g, d, tk, os⟩ := s; obtain ⟨hl, h⟩ := h
    have hsub := sub_enumerate
    have hL : Heap.IsTuple (Shared.heap ⟨hp, g, d, tk, os⟩) l items := ⟨_, hl, rfl, n, rfl⟩
    wp_walk using wpAny_loadPart' hl
    refine wpAny_stack_any fun st => wpAny_pure ?_
    split
    · rename_i c _ _ _ _ _
      cases (c == Value.type "enumerate")
      · wp_walk using wpAny_loadPart' hl, wpAny_pyIter_tuple hL
        exact ⟨_, rfl, h⟩
      · wp_walk using wpAny_loadPart' hl, wpAny_pyIter_tuple hL
        exact ⟨_, rfl, h⟩
    · wp_walk using wpAny_loadPart' hl, wpAny_pyIter_tuple hL
      exact ⟨_, rfl, h⟩
section
variable {prog : Program} {w : World} {A : Around} {E : Value → Shared → Prop} {s : Shared}
theorem call_enumerate_tuple {l : Addr} {items : Array Value} {Q : Value → Shared → Prop} (hL : s.heap.IsTuple l items)
    (h : ∀ h', IsEnum h' (s.heap.objs.size + 1) s.heap.objs.size 0 .none → h'.IsTupleIter s.heap.objs.size l 0 → h'.objs.size = s.heap.objs.size + 2 →
      (∀ b o, s.heap.get? b = some o → h'.get? b = some o) → Q (.ref (s.heap.objs.size + 1)) { s with heap := h' }) :
    wpAny (model prog w) A (call (.type "enumerate") [.ref l]) Q E s := by
  obtain ⟨⟨c, dct, dt, sl⟩, hl, hc, n, hd⟩ := hL
  replace hc : c = .type "tuple" := hc
  replace hd : dt = .seq items n := hd
  subst hc hd
  refine callType_new F.called_enumerate (by decide) (F.typeCall_enumerate_1 _) (F.newCall_enumerate_1 _) (fun obj => F.args_object_init_2 obj _) F.entry_enumerate_new
    (meets_enumerate_newT l items n dct sl) ⟨hl, ?_⟩
  have hz : (s.heap.push { cls := .type "tuple_iterator", data := .fields #[.ref l, .int 0 0] }).objs.size = s.heap.objs.size + 1 := Heap.size_push ..
  show _ ∧ _
  rw [hz]
  have he : IsEnum ((s.heap.push { cls := .type "tuple_iterator", data := .fields #[.ref l, .int 0 0] }).push
      { cls := .type "enumerate", data := .fields #[.none, .bool false, .ref s.heap.objs.size, rawInt 0, .none, .none] }) (s.heap.objs.size + 1) s.heap.objs.size 0 .none := by
    have := Heap.get?_push_size (s.heap.push { cls := .type "tuple_iterator", data := .fields #[.ref l, .int 0 0] })
      (o := { cls := .type "enumerate", data := .fields #[.none, .bool false, .ref s.heap.objs.size, rawInt 0, .none, .none] }) rfl
    rw [hz] at this; exact this
  refine ⟨⟨_, he, rfl⟩, h _ he ⟨_, Heap.get?_push_of_some _ (Heap.get?_push_size _ rfl), rfl, rfl⟩ (by rw [Heap.size_push, hz]) fun b o x => Heap.get?_push_of_some _ (Heap.get?_push_of_some _ x)⟩
theorem wpAny_pyNext_enum_endT {e it l : Addr} {i : Nat} {items : Array Value} {old : Value} {Q : Option Value → Shared → Prop} (hh : A.handled = none)
    (he : IsEnum s.heap e it i old) (hit : s.heap.IsTupleIter it l i) (hl : s.heap.IsTuple l items) (hx : items[i]? = none)
    (hQ : ∀ h', Heap.ExtBut it s.heap h' → Q none { s with heap := h' }) : wpAny (model prog w) A (pyNext (.ref e)) Q E s := by
  have hT : s.TypeIs (.ref e) "enumerate" := ⟨_, he, rfl⟩
  unfold pyNext
  refine wpAny_bind (wpAny_attempt (wpAny_callSpecial?_slot (name := Str.ofString "__next__") hT F.slot_enumerate_next
    (wpAny_call_entry F.slot_enumerate_next hT F.entry_enumerate_next ?_ (F.args_enumerate_next_1 _))))
  show wpAny _ _ (field (.ref e) 2 >>= _) _ _ _
  refine wpAny_bind (wpAny_field he rfl (x := .ref it) rfl ?_)
  refine wpAny_bind (wpAny_nextOf_tuple_end hh hit hl hx fun h' x he' hx' => ?_)
  obtain ⟨o, ho, hc⟩ := hx'
  refine wpAny_bind (wpAny_isInstance (T := "StopIteration") (b := true) ⟨o, ho, hc⟩ isSubtype_stop ?_)
  exact wpAny_pure (hQ _ he')
end
end PySem
namespace L2
open PySem PySem.Spec PyProof.Rows
/-- the tuple at a as it stands at each turn, each item in a new pair -/
def ItE (K : PySem.W.Frag) (a : Addr) : It :=
  ⟨fun i H => ∃ (xs : List V) (x : V), SqT K H a xs ∧ xs[i]? = some x, fun i H v H' => ∃ T x, v = .ref T ∧ H T = none ∧ H' = upd H T (.tup [.int (i : Nat), x]) ∧ ∀ xs, SqT K H a xs → xs[i]? = some x, fun i H => ∃ xs : List V, SqT K H a xs ∧ xs.length ≤ i⟩
theorem turn_enumT {P : Program} {w : World} {K : PySem.W.Frag} {elts : List Expr} {kk : Nat} {tpos : Pos} (a e it : Addr) :
    Turn P w K (.Tuple elts kk tpos) (ItE K a) [e, it] e (fun i h => (∃ old, IsEnum h e it ((i : Nat) : Int) old) ∧ h.IsTupleIter it a i ∧ e ≠ it) where
  mem := by simp
  obj := fun i h st b hb => by
    obtain ⟨⟨old, he⟩, ⟨o, ho, hc, hd⟩, _⟩ := st
    have e' : b = e ∨ b = it := by simpa using hb
    rcases e' with z | z
    · rw [z]; exact ⟨_, he, fun v q => nomatch q⟩
    · rw [z]; exact ⟨o, ho, fun v q => by rw [hd] at q; cases q⟩
  keep := fun i h h' st k => let ⟨⟨old, he⟩, hi, hne⟩ := st; ⟨⟨old, k e (by simp) _ he⟩, hi.at fun o q => k it (by simp) o q, hne⟩
  item := by
    intro X hP hw hK hc i pins s σ H E I hf st hg
    subst hP hw hK
    obtain ⟨⟨old, he⟩, hit, hne⟩ := st
    obtain ⟨xs, x, hq, hx⟩ := hg
    obtain ⟨its, rv, p, hz⟩ := I.tuple hq
    obtain ⟨u, hu, ru⟩ := rv.get hx
    have hel : e < s.heap.objs.size := Heap.lt_size he
    have hil : it < s.heap.objs.size := by obtain ⟨_, q, _⟩ := hit; exact Heap.lt_size q
    have hit0 := hit
    have hae : a ≠ it := fun z => by
      obtain ⟨o1, q1, c1, _⟩ := hit
      obtain ⟨o2, q2, c2, _⟩ := (show s.heap.IsTuple a its.toArray from p)
      rw [z, q1] at q2
      cases q2
      rw [c1] at c2
      exact absurd c2 (by simp)
    have hea : e ≠ a := fun z => by
      obtain ⟨o2, q2, c2, _⟩ := (show s.heap.IsTuple a its.toArray from p)
      rw [← z, he] at q2
      cases q2
      exact absurd c2 (by simp)
    refine wpAny_pyNext_enum_itemD (Draws.tuple (A := X.A.in1) (I.ok.hd hc) it a hae its.toArray) he ⟨hit, (show s.heap.IsTuple a its.toArray from p)⟩ (i := i) (by
      have := (List.getElem?_eq_some_iff.mp hu).1
      simpa using this) hne (by simp [hne, hea]) fun x' h' tk hx' ho hst' hT hsz hk => ?_
    have hux : x' = u := by
      have z : its.toArray[i]? = some x' := hx'
      rw [List.getElem?_toArray, hu] at z
      exact (Option.some.inj z).symm
    subst hux
    obtain ⟨hit', _⟩ := hst'
    refine ⟨_, rfl, wpAny_letOwnedTupleGo_enum (s := { s with heap := h', toks := tk + 1 }) ho fun h'' he' sb => ?_⟩
    have hT2 : h''.get? s.heap.objs.size = some { cls := .type "tuple", data := .seq #[.int i tk, x'] } := (sb.2 _ (Nat.ne_of_gt hel)).trans hT
    have new : ObjOk X.prog X.w (upd H s.heap.objs.size (.tup [.int (i : Nat), x])) h'' s.heap.objs.size (.tup [.int (i : Nat), x]) :=
      ⟨by show 2 ≤ sizeLine; decide, [.int i tk, x'], .cons ⟨_, rfl⟩ (.cons ru .nil), ⟨_, hT2, rfl, _, rfl⟩⟩
    have I1 : Inv X pins σ (upd H s.heap.objs.size (.tup [.int (i : Nat), x])) { s with heap := h'', toks := tk + 1 } :=
      I.turnedNew (ch := [e, it]) (fun b ob hb q => (sb.2 b (fun z => hb (by simp [z]))).trans (hk b ob (fun z => hb (by simp [z])) (fun z => hb (by simp [z])) q)) hf (Nat.le_refl _) new
    refine ⟨.ref s.heap.objs.size, _, I1, rfl, ⟨_, x, rfl, I.hok.fresh (Nat.le_refl _), rfl, fun ys hy => by rw [I.tuple_inj hy hq]; exact hx⟩, ⟨⟨x', ?_⟩, hit'.at fun o q => (sb.2 it (Ne.symm hne)).trans q, hne⟩, fun b hb => ?_⟩
    · have e1 : ((i + 1 : Nat) : Int) = (i : Int) + 1 := by omega
      rw [e1]; exact he'
    · have hb' : b < s.heap.objs.size := by
        have e' : b = e ∨ b = it := by simpa using hb
        rcases e' with z | z
        · rw [z]; exact hel
        · rw [z]; exact hil
      rw [upd_ne (Nat.ne_of_lt hb')]
      exact (hf b hb).1
  done := by
    intro X hP hw hK hc i pins s σ H E I hf st hg
    subst hP hw hK
    obtain ⟨⟨old, he⟩, hit, hne⟩ := st
    obtain ⟨xs, hq, hx⟩ := hg
    obtain ⟨its, rv, p, hz⟩ := I.tuple hq
    obtain ⟨f0, f1, f2, f3, f4, f5⟩ := hf it (by simp)
    have hl := rv.length
    exact wpAny_pyNext_enum_endT (I.ok.hd hc) he hit (show s.heap.IsTuple a its.toArray from p) (by simp; omega) fun h' eb => ⟨rfl, I.turned (t' := s.toks) (fun b o hb q => eb b o hb q) f0 f1 f3 f4 f5⟩
  self := fun A i s Q E st h => let ⟨⟨_, he⟩, _⟩ := st; wpAny_pyIter_enum he h
def iEnumT (K : PySem.W.Frag) (ta : TA) : TI := fun σ H R => ta σ H fun vs H1 => ∃ a xs, vs = [.ref a] ∧ SqT K H1 a xs ∧ R (ItE K a) H1
theorem pi_enumT {X : Cx} {e : Expr} {ta : TA} {p pos tpos : Pos} {elts : List Expr} {kk : Nat} (hg : Gl X "enumerate") (hm : X.mg "enumerate" = none) (ha : PA X [e] ta) (hs : starEach [e] X.env = [(false, eval e X.env)] := by rfl) :
    PI X (.Tuple elts kk tpos) (.Call (.Name "enumerate" p) [e] [] pos) (iEnumT X.K ta) := by
  refine ⟨fun pins s σ H R I h => ?_⟩
  refine Call_ (ld_blt I hg hm boot_enumerate (PyProof.Rows.callWith_type1 (thn (ha.run pos pins s σ H _ I h) fun us s1 ⟨vs, H1, I1, r1, q1⟩ => ?_) hs rfl))
  obtain ⟨a, xs, ex, hq, q⟩ := q1
  subst ex
  cases r1 with
  | cons r rr =>
    cases rr
    cases r
    obtain ⟨its, rv, p', hz⟩ := I1.tuple hq
    refine call_enumerate_tuple (show s1.heap.IsTuple a its.toArray from p') fun h' he hit hsz hk => wpAny_pyIter_enum he ?_
    have I2 : Inv X pins σ H1 { s1 with heap := h' } := I1.kept (t' := s1.toks) hk
    refine ⟨s1.heap.objs.size + 1, [s1.heap.objs.size + 1, s1.heap.objs.size], _, _, H1, rfl, I2, turn_enumT a (s1.heap.objs.size + 1) s1.heap.objs.size, ⟨⟨.none, he⟩, hit, Nat.succ_ne_self _⟩, fun b hb => ?_, q⟩
    have e' : b = s1.heap.objs.size + 1 ∨ b = s1.heap.objs.size := by simpa using hb
    have hle : s1.heap.objs.size ≤ b := by
      rcases e' with z | z
      · rw [z]; exact Nat.le_add_right _ _
      · rw [z]; exact Nat.le_refl _
    exact I1.fpOk hle (I1.hok.fresh hle)
theorem walk_enumT {K : PySem.W.Frag} {a : Addr} {xs : List V} : Walk (ItE K a) xs.length (fun H => SqT K H a xs) (YPair (fun i => some (.int (i : Nat))) (fun i => xs[i]?)) := by
  refine ⟨fun i _ hi q => ⟨xs, xs[i], q, by simp [hi]⟩, fun _ q => ⟨xs, q, Nat.le_refl _⟩, fun i H v H' _ q y => ?_⟩
  obtain ⟨T, x, h1, h2, h3, h4⟩ := y
  exact ⟨T, .int (i : Nat), x, h1, h2, h3, rfl, h4 xs q⟩
end L2


set_option Elab.async false
set_option linter.all false
set_option maxRecDepth 100000
set_option maxHeartbeats 4000000
/-! A set's table laid anew: it never fails for small whole numbers. -/
namespace SetT
open PySem L2
def orb (mask : Nat) : Nat → Nat → Nat → List Nat
  | 0, _, _ => []
  | f + 1, i, p => i :: orb mask f ((i * 5 + 1 + p / 32) % (mask + 1)) (p / 32)
/-- every slot is met -/
def Met (mask h : Nat) : Prop := ∀ s, s < mask + 1 → s ∈ orb mask (SetTable.turns mask) (h % (mask + 1)) h
def allMet (mask : Nat) : Bool := (List.range 64).all fun h => (List.range (mask + 1)).all fun s => (orb mask (SetTable.turns mask) (h % (mask + 1)) h).contains s
theorem met_of {mask : Nat} (c : allMet mask = true) {h : Nat} (hh : h < 64) : Met mask h := fun s hs => by
  have a := List.all_eq_true.mp c h (List.mem_range.mpr hh)
  have b := List.all_eq_true.mp a s (List.mem_range.mpr hs)
  exact List.contains_iff_mem.mp b
theorem met7 : allMet 7 = true := by decide +kernel
theorem met15 : allMet 15 = true := by decide +kernel
theorem met31 : allMet 31 = true := by decide +kernel
theorem met63 : allMet 63 = true := by decide +kernel
theorem met127 : allMet 127 = true := by decide +kernel
def GoodM (mask : Nat) : Prop := mask = 7 ∨ mask = 15 ∨ mask = 31 ∨ mask = 63 ∨ mask = 127
theorem GoodM.met {mask : Nat} (g : GoodM mask) {h : Nat} (hh : h < 64) : Met mask h := by
  rcases g with rfl | rfl | rfl | rfl | rfl
  · exact met_of met7 hh
  · exact met_of met15 hh
  · exact met_of met31 hh
  · exact met_of met63 hh
  · exact met_of met127 hh
end SetT


set_option Elab.async false
set_option linter.all false
set_option maxRecDepth 100000
set_option maxHeartbeats 4000000
/-! A set's table laid anew: it never fails for small whole numbers. -/
namespace SetT
open PySem L2
theorem fm_congr {α β : Type} {f g : α → Option β} : ∀ {l : List α}, (∀ x ∈ l, f x = g x) → l.filterMap f = l.filterMap g
  | [], _ => rfl
  | x :: l, h => by
    have e := h x (List.mem_cons_self ..)
    have ih := fm_congr (l := l) fun y hy => h y (List.mem_cons_of_mem _ hy)
    cases q : f x with
    | none => rw [List.filterMap_cons_none q, List.filterMap_cons_none (by rw [← e]; exact q), ih]
    | some z => rw [List.filterMap_cons_some q, List.filterMap_cons_some (by rw [← e]; exact q), ih]
theorem free_some {mask : Nat} {owner : Array (Option Nat)} {s : Nat} (hs : (owner.getD s (some 0)).isNone = true) : ∀ (f i p : Nat), s ∈ orb mask f i p → ∃ j, SetTable.layClean.free mask owner f i p = some j
  | 0, i, p, h => by simp [orb] at h
  | f + 1, i, p, h => by
    unfold SetTable.layClean.free
    cases hf : (List.range (SetTable.runEnd mask i + 1 - i)).find? fun k => (owner.getD (i + k) (some 0)).isNone with
    | some k => exact ⟨_, rfl⟩
    | none =>
      rcases List.mem_cons.mp h with e | e
      · exfalso
        have h0 := List.find?_eq_none.mp hf 0 (List.mem_range.mpr (by
          unfold SetTable.runEnd
          split <;> omega))
        rw [← e] at h0
        exact h0 (by simpa using hs)
      · exact free_some hs f _ _ e
theorem free_sound {mask : Nat} {owner : Array (Option Nat)} : ∀ (f i p j : Nat), SetTable.layClean.free mask owner f i p = some j → (owner.getD j (some 0)).isNone = true
  | 0, i, p, j, h => by simp [SetTable.layClean.free] at h
  | f + 1, i, p, j, h => by
    unfold SetTable.layClean.free at h
    cases hf : (List.range (SetTable.runEnd mask i + 1 - i)).find? fun k => (owner.getD (i + k) (some 0)).isNone with
    | some k =>
      rw [hf] at h
      have e : i + k = j := Option.some.inj h
      rw [← e]
      exact List.find?_some (p := fun k => (owner.getD (i + k) (some 0)).isNone) hf
    | none =>
      rw [hf] at h
      exact free_sound f _ _ j h
def ownL (owner : Array (Option Nat)) (M : Nat) : List Nat := (List.range M).filterMap fun j => owner.getD j none
structure Owned (owner : Array (Option Nat)) (M k : Nat) : Prop where
  size : owner.size = M
  perm : (ownL owner M).Perm (List.range k)
theorem fm_new {f g : Nat → Option Nat} {j k : Nat} (hf : f j = none) (hg : g j = some k) (ho : ∀ i, i ≠ j → g i = f i) : ∀ l : List Nat, l.Nodup → j ∈ l → (l.filterMap g).Perm (k :: l.filterMap f)
  | [], _, h => by simp at h
  | x :: l, nd, h => by
    obtain ⟨n1, n2⟩ := List.nodup_cons.mp nd
    by_cases c : x = j
    · subst c
      have e : l.filterMap g = l.filterMap f := fm_congr fun i hi => ho i fun z => n1 (z ▸ hi)
      rw [List.filterMap_cons_some hg, List.filterMap_cons_none hf, e]
    · have hj : j ∈ l := by
        rcases List.mem_cons.mp h with z | z
        · exact absurd z.symm c
        · exact z
      have ih := fm_new hf hg ho l n2 hj
      cases q : f x with
      | none =>
        rw [List.filterMap_cons_none (by rw [ho x c]; exact q), List.filterMap_cons_none q]
        exact ih
      | some y =>
        rw [List.filterMap_cons_some (by rw [ho x c]; exact q), List.filterMap_cons_some q]
        exact (ih.cons y).trans (List.Perm.swap k y _)
theorem Owned.step {owner : Array (Option Nat)} {M k j : Nat} (h : Owned owner M k) (hj : (owner.getD j (some 0)).isNone = true) : Owned (owner.setIfInBounds j (some k)) M (k + 1) := by
  have hjs : j < owner.size := by
    by_cases c : j < owner.size
    · exact c
    · rw [Array.getD_eq_getD_getElem?, Array.getElem?_eq_none (by omega)] at hj
      cases hj
  have hn : owner.getD j none = none := by
    rw [Array.getD_eq_getD_getElem?, Array.getElem?_eq_getElem hjs] at hj ⊢
    simpa using hj
  refine ⟨by rw [Array.size_setIfInBounds]; exact h.size, ?_⟩
  have p := fm_new (f := fun i => owner.getD i none) (g := fun i => (owner.setIfInBounds j (some k)).getD i none) (j := j) (k := k) hn (by
    show (owner.setIfInBounds j (some k)).getD j none = some k
    rw [Array.getD_eq_getD_getElem?, Array.getElem?_setIfInBounds_self_of_lt hjs]
    rfl) (fun i hi => by
    show (owner.setIfInBounds j (some k)).getD i none = owner.getD i none
    rw [Array.getD_eq_getD_getElem?, Array.getD_eq_getD_getElem?, Array.getElem?_setIfInBounds_ne (Ne.symm hi)]) (List.range M) List.nodup_range (List.mem_range.mpr (by rw [← h.size]; exact hjs))
  refine p.trans ?_
  rw [List.range_succ]
  exact (h.perm.cons k).trans (List.perm_append_singleton k (List.range k)).symm
theorem fm_full {f : Nat → Option Nat} : ∀ l : List Nat, (∀ j ∈ l, f j ≠ none) → (l.filterMap f).length = l.length
  | [], _ => rfl
  | x :: l, h => by
    cases q : f x with
    | none => exact absurd q (h x (List.mem_cons_self ..))
    | some y =>
      rw [List.filterMap_cons_some q, List.length_cons, List.length_cons, fm_full l fun j hj => h j (List.mem_cons_of_mem _ hj)]
theorem Owned.room {owner : Array (Option Nat)} {M k : Nat} (h : Owned owner M k) (hk : k < M) : ∃ s, s < M ∧ (owner.getD s (some 0)).isNone = true := by
  apply Classical.byContradiction
  intro c
  have hall : ∀ j ∈ List.range M, owner.getD j none ≠ none := fun j hj e => by
    have hjM := List.mem_range.mp hj
    refine c ⟨j, hjM, ?_⟩
    rw [Array.getD_eq_getD_getElem?, Array.getElem?_eq_getElem (by rw [h.size]; exact hjM)] at e ⊢
    simp at e
    simp [e]
  have e1 := fm_full (f := fun j => owner.getD j none) (List.range M) hall
  have e2 := h.perm.length_eq
  unfold ownL at e2
  rw [List.length_range] at e1 e2
  omega
theorem Owned.nil (M : Nat) : Owned (Array.replicate M none) M 0 := by
  refine ⟨by simp, ?_⟩
  have e : ownL (Array.replicate M none) M = [] := by
    unfold ownL
    rw [List.filterMap_eq_nil_iff]
    intro j hj
    rw [Array.getD_eq_getD_getElem?, Array.getElem?_replicate]
    split <;> rfl
  rw [e]
  exact List.Perm.refl _
def stepL (mask : Nat) (acc : Option (Array (Option Nat) × Nat)) (h : Int) : Option (Array (Option Nat) × Nat) := do
    let (owner, k) ← acc
    let j ← SetTable.layClean.free mask owner (SetTable.turns mask) (SetTable.bits h % (mask + 1)) (SetTable.bits h)
    pure (owner.setIfInBounds j (some k), k + 1)
theorem fold_ok {mask : Nat} (g : GoodM mask) : ∀ (hs : List Int) (owner : Array (Option Nat)) (k : Nat), Owned owner (mask + 1) k → k + hs.length ≤ mask + 1 → (∀ h ∈ hs, SetTable.bits h < 64) →
    ∃ owner', hs.foldl (stepL mask) (some (owner, k)) = some (owner', k + hs.length) ∧ Owned owner' (mask + 1) (k + hs.length)
  | [], owner, k, O, _, _ => ⟨owner, rfl, O⟩
  | h :: hs, owner, k, O, hl, hb => by
    rw [List.length_cons] at hl
    obtain ⟨s, hs1, hs2⟩ := O.room (by omega)
    obtain ⟨j, hj⟩ := free_some hs2 _ _ _ (g.met (hb h (List.mem_cons_self ..)) s hs1)
    have hn := free_sound _ _ _ _ hj
    have e : stepL mask (some (owner, k)) h = some (owner.setIfInBounds j (some k), k + 1) := by
      unfold stepL
      show (SetTable.layClean.free mask owner (SetTable.turns mask) (SetTable.bits h % (mask + 1)) (SetTable.bits h)).bind _ = _
      rw [hj]
      rfl
    obtain ⟨o', h1, h2⟩ := fold_ok g hs _ (k + 1) (O.step hn) (by omega) fun z hz => hb z (List.mem_cons_of_mem _ hz)
    refine ⟨o', ?_, ?_⟩
    · rw [List.foldl_cons, e, h1, List.length_cons, show k + 1 + hs.length = k + (hs.length + 1) by omega]
    · rw [List.length_cons, show k + (hs.length + 1) = k + 1 + hs.length by omega]
      exact h2
theorem layClean_ok {mask : Nat} (g : GoodM mask) {hs : Array Int} (hl : hs.size ≤ mask + 1) (hb : ∀ h ∈ hs.toList, SetTable.bits h < 64) : ∃ owner, SetTable.layClean mask hs = some owner ∧ Owned owner (mask + 1) hs.size := by
  obtain ⟨o, h1, h2⟩ := fold_ok g hs.toList _ 0 (Owned.nil (mask + 1)) (by rw [Array.length_toList]; omega) hb
  refine ⟨o, ?_, by rw [Array.length_toList, Nat.zero_add] at h2; exact h2⟩
  unfold SetTable.layClean
  rw [← Array.foldl_toList]
  show Option.map (·.1) (hs.toList.foldl (stepL mask) (some (Array.replicate (mask + 1) none, 0))) = some o
  rw [h1]
  rfl
theorem laid_ok {mask finger moves : Nat} {led plain : Bool} (g : GoodM mask) {hs : Array Int} (hl : hs.size ≤ mask) (hb : ∀ h ∈ hs.toList, SetTable.bits h < 64) :
    ∃ t order, SetTable.laid mask finger moves led plain hs = some (t, order) ∧ t.mask = mask ∧ t.dummies = #[] ∧ t.led = led ∧ Ris t.place.toList ∧ t.fits hs.size = true ∧ order.toList.Perm (List.range hs.size) := by
  obtain ⟨owner, h1, h2⟩ := layClean_ok g (hs := hs) (by omega) hb
  have eo : ((List.range (mask + 1)).filterMap fun j => (owner.getD j none).map (j, ·)).map (·.2) = ownL owner (mask + 1) := by
    unfold ownL
    rw [List.map_filterMap]
    apply fm_congr
    intro j _
    cases owner.getD j none <;> rfl
  have el : ((List.range (mask + 1)).filterMap fun j => (owner.getD j none).map (j, ·)).length = hs.size := by
    have := congrArg List.length eo
    rw [List.length_map] at this
    rw [this, h2.perm.length_eq, List.length_range]
  refine ⟨_, _, by unfold SetTable.laid; rw [h1]; rfl, rfl, rfl, rfl, ?_, ?_, ?_⟩
  · refine (ris_live (fun j => owner.getD j none) (List.range (mask + 1)) ?_).1
    unfold Ris
    first | exact List.pairwise_lt_range | exact List.pairwise_lt_range _
  · unfold SetTable.fits SetTable.fill
    dsimp only
    rw [Bool.and_eq_true]
    refine ⟨?_, ?_⟩
    · rw [beq_iff_eq]
      simp only [List.size_toArray, List.length_map]
      exact el
    · rw [decide_eq_true_eq]
      simp only [List.size_toArray, List.length_map]
      rw [el]
      exact hl
  · dsimp only
    rw [eo]
    exact h2.perm
theorem range_fm {α : Type} (es : List α) : (List.range es.length).filterMap (fun i => es[i]?) = es := by
  suffices h : ∀ (n : Nat) (es : List α), es.length = n → (List.range es.length).filterMap (fun i => es[i]?) = es from h _ es rfl
  clear es
  intro n
  induction n with
  | zero =>
    intro es he
    rw [List.length_eq_zero_iff.mp he]
    rfl
  | succ n ih0 =>
    intro es0 he
    obtain ⟨es, x, rfl⟩ : ∃ es x, es0 = es ++ [x] := ⟨es0.dropLast, es0.getLast (fun z => by rw [z] at he; cases he), (List.dropLast_concat_getLast _).symm⟩
    have ih := ih0 es (by rw [List.length_append, List.length_singleton] at he; omega)
    rw [List.length_append, List.length_singleton, List.range_succ, List.filterMap_append]
    have e1 : (List.range es.length).filterMap (fun i => (es ++ [x])[i]?) = (List.range es.length).filterMap (fun i => es[i]?) := by
      apply fm_congr
      intro i hi
      rw [List.getElem?_append_left (List.mem_range.mp hi)]
    rw [e1, ih]
    simp
theorem order_perm {α : Type} {es : Array α} {order : Array Nat} (h : order.toList.Perm (List.range es.size)) : (order.filterMap (es[·]?)).toList.Perm es.toList := by
  rw [Array.toList_filterMap]
  refine (h.filterMap _).trans ?_
  have e : (List.range es.size).filterMap (fun i => es[i]?) = es.toList := by
    have := range_fm es.toList
    rw [Array.length_toList] at this
    refine Eq.trans (fm_congr fun i _ => ?_) this
    rw [Array.getElem?_toList]
  rw [e]
end SetT


set_option Elab.async false
set_option linter.all false
set_option maxRecDepth 100000
set_option maxHeartbeats 4000000
/-! Sets of small whole numbers: walked, laid anew, merged. -/
namespace SetT
open PySem PySem.Spec PyProof.Rows L2
/-- a set of whole numbers at a: its elements es -/
structure SX (w : World) (h : Heap) (a : Addr) (es : Array (Int × Value)) (ep : Nat) (t : SetTable) : Prop where
  ob : ∃ o, h.get? a = some o ∧ o.ExactSet ∧ o.data = .set es ep t
  good : ∀ e ∈ es.toList, GoodE e
  nd : (es.toList.map keyOf).Nodup
  small : es.size < scanBound
  fits : t.fits es.size = true
  ris : Ris t.place.toList
  led : w.params.followText "set-order" = true ∨ t.led = true
def Mem (S : Int → Bool) (es : Array (Int × Value)) : Prop := ∀ k, S k = true ↔ k ∈ es.toList.map keyOf
theorem sx_of {w : World} {h : Heap} {a : Addr} {S : Int → Bool} {n : Nat} (R : SetR w h a S n) : ∃ es ep t, SX w h a es ep t ∧ Mem S es ∧ es.size = n := by
  obtain ⟨o, es, ep, t, ho, hex, hd, g, nd, hm, hb, hf, hn, hr, hl⟩ := R
  exact ⟨es, ep, t, ⟨⟨o, ho, hex, hd⟩, g, nd, hb, hf, hr, hl⟩, hm, hn⟩
theorem SX.setR {w : World} {h : Heap} {a : Addr} {S : Int → Bool} {es : Array (Int × Value)} {ep : Nat} {t : SetTable} (X : SX w h a es ep t) (m : Mem S es) : SetR w h a S es.size := by
  obtain ⟨o, ho, hex, hd⟩ := X.ob
  exact ⟨o, es, ep, t, ho, hex, hd, X.good, X.nd, m, X.small, X.fits, rfl, X.ris, X.led⟩
theorem SX.keep {w : World} {h h' : Heap} {a : Addr} {es : Array (Int × Value)} {ep : Nat} {t : SetTable} (X : SX w h a es ep t) (k : ∀ o, h.get? a = some o → h'.get? a = some o) : SX w h' a es ep t := by
  obtain ⟨o, ho, r⟩ := X.ob
  exact ⟨⟨o, k o ho, r⟩, X.good, X.nd, X.small, X.fits, X.ris, X.led⟩
section
variable {P : Program} {w : World} {A : Around} {E : Value → Shared → Prop} {s : Shared} {a : Addr} {es : Array (Int × Value)} {ep : Nat} {t : SetTable}
theorem SX.typeIs (X : SX w s.heap a es ep t) : s.TypeIs (.ref a) "set" := by
  obtain ⟨o, ho, hex, _⟩ := X.ob
  exact ⟨o, ho, hex.1⟩
theorem SX.lt (X : SX w s.heap a es ep t) : a < s.heap.objs.size := by
  obtain ⟨o, ho, _⟩ := X.ob
  exact Heap.lt_size ho
theorem SX.state {Q : (Array (Int × Value) × Nat × SetTable) → Shared → Prop} (X : SX w s.heap a es ep t) (h : Q (es, ep, t) s) : wpAny (model P w) A (setState a) Q E s := by
  obtain ⟨o, ho, _, hd⟩ := X.ob
  exact wpAny_setState_of ho hd X.fits h
theorem SX.entries {Q : Array (Int × Value) → Shared → Prop} (X : SX w s.heap a es ep t) (h : Q es s) : wpAny (model P w) A (setEntries a) Q E s := by
  obtain ⟨o, ho, _, hd⟩ := X.ob
  exact wpAny_setEntries_of ho hd X.fits h
theorem SX.epoch {Q : Nat → Shared → Prop} (X : SX w s.heap a es ep t) (h : Q ep s) : wpAny (model P w) A (setEpoch a) Q E s := by
  obtain ⟨o, ho, _, hd⟩ := X.ob
  exact wpAny_setEpoch_of ho hd X.fits h
/-- stored anew -/
theorem SX.store {es' : Array (Int × Value)} {t' : SetTable} {Q : Unit → Shared → Prop} (X : SX w s.heap a es ep t) (g : ∀ e ∈ es'.toList, GoodE e) (nd : (es'.toList.map keyOf).Nodup) (hb : es'.size < scanBound) (hf : t'.fits es'.size = true) (r : Ris t'.place.toList) (hl : w.params.followText "set-order" = true ∨ t'.led = true)
    (h : ∀ h', Heap.SameBut a s.heap h' → SX w h' a es' (ep + 1) t' → Q () { s with heap := h' }) : wpAny (model P w) A (storeSet a es' t') Q E s := by
  obtain ⟨o, ho, hex, hd⟩ := X.ob
  refine wpAny_storeSet_of ho hd ?_ (fits_of_scanBound hb)
  have ho1 := store_at (es' := es') (t' := t') ho hd
  exact h _ (Heap.SameBut.update s.heap a (Obj.putSet es' t')) ⟨⟨_, ho1, hex, rfl⟩, g, nd, hb, hf, r, hl⟩
/-! ### walks -/
theorem setWalk_eq (a : Addr) : setWalk a = (do
  let (es, epoch, t) ← setState a
  if ← setsByText then return pickOrder ((← ask).params.setOrder a epoch) es
  if (!t.plain && es.size > 1) then return (← drawOrder es.size es.toList).toArray
  (do if !t.led && es.size > 1 then unsupported "set:maker-not-led" : Sem Unit)
  return es) := rfl
theorem SX.walk {Q : Array (Int × Value) → Shared → Prop} (X : SX w s.heap a es ep t) (h : ∀ es' d, es'.toList.Perm es.toList → Q es' { s with drawn := d }) : wpAny (model P w) A (setWalk a) Q E s := by
  rw [setWalk_eq]
  refine wpAny_bind (X.state ?_)
  dsimp only
  refine wpAny_bind (wpAny_byText ?_)
  cases hb : w.params.followText "set-order" with
  | true =>
    refine wp_if_pos rfl ?_
    refine wpAny_bind (wpAny_askSetting ?_)
    exact wpAny_pure (h _ s.drawn (pick_perm _ _))
  | false =>
    refine wp_if_neg (by simp) ?_
    have hl : t.led = true := by
      rcases X.led with z | z
      · rw [hb] at z; cases z
      · exact z
    cases hp : (!t.plain && decide (es.size > 1)) with
    | true =>
      refine wp_if_pos rfl ?_
      refine wpAny_bind (drawOrder_at _ _ _ _ (by rw [Array.length_toList]; exact Nat.le_refl _) fun ys d p => ?_)
      exact wpAny_pure (h _ d p)
    | false =>
      refine wp_if_neg (by simp) ?_
      refine wpAny_bind ?_
      rw [hl]
      refine wp_if_neg (by simp) ?_
      exact wpAny_pure (wpAny_pure (h _ s.drawn (List.Perm.refl _)))
theorem quiet_ok {Q : Bool → Shared → Prop} (as : List Addr) (ha : ∀ b ∈ as, ∃ es ep t, SX w s.heap b es ep t) (h : Q true s) : wpAny (model P w) A (setsQuiet as) Q E s := by
  unfold setsQuiet
  refine wpAny_bind ?_
  refine wpAny_forIn_list _ (fun rest r s' => r.1 = none ∧ s' = s ∧ ∀ b ∈ rest, ∃ es ep t, SX w s.heap b es ep t) _ ?_ ?_ _ _ ⟨rfl, rfl, ha⟩
  · rintro b rest r s' ⟨hr, rfl, hb⟩
    obtain ⟨es, ep, t, X⟩ := hb b (List.mem_cons_self ..)
    refine wpAny_bind (X.entries ?_)
    refine wpAny_bind ?_
    refine wpAny_forIn_array' _ (fun rest2 r2 s2 => r2.1 = none ∧ s2 = s' ∧ ∀ e ∈ rest2, GoodE e) _ ?_ ?_ _ _ ⟨rfl, rfl, X.good⟩
    · rintro ⟨hh, x⟩ rest2 r2 s2 ⟨hr2, rfl, hg⟩
      obtain ⟨k, tk, e1, e2⟩ := hg _ (List.mem_cons_self ..)
      dsimp only at e1
      subst e1
      dsimp only
      exact wpAny_pure ⟨rfl, rfl, fun e he => hg e (List.mem_cons_of_mem _ he)⟩
    · rintro r2 s2 ⟨hr2, rfl, _⟩
      obtain ⟨r21, r22⟩ := r2
      dsimp only at hr2
      subst hr2
      dsimp only
      exact wpAny_pure ⟨rfl, rfl, fun e he => hb e (List.mem_cons_of_mem _ he)⟩
  · rintro r s' ⟨hr, rfl, _⟩
    obtain ⟨r1, r2⟩ := r
    dsimp only at hr
    subst hr
    exact wpAny_pure h
end
end SetT


set_option Elab.async false
set_option linter.all false
set_option maxRecDepth 100000
set_option maxHeartbeats 4000000
/-! Sets of small whole numbers: merged, copied, joined. -/
namespace SetT
open PySem PySem.Spec PyProof.Rows L2
theorem bits_low {k : Int} (h0 : 0 ≤ k) (h1 : k < 64) : SetTable.bits (hashInt k) < 64 := by
  obtain ⟨n, rfl⟩ : ∃ n : Nat, k = (n : Int) := ⟨k.toNat, by omega⟩
  have hn : n < 64 := by omega
  have all : ∀ n : Fin 64, SetTable.bits (hashInt ((n : Nat) : Int)) < 64 := by decide +kernel
  exact all ⟨n, hn⟩
/-- the keys are small -/
def Low (es : Array (Int × Value)) : Prop := ∀ k ∈ es.toList.map keyOf, 0 ≤ k ∧ k < 64
theorem Low.bits {es : Array (Int × Value)} (l : Low es) (g : ∀ e ∈ es.toList, GoodE e) : ∀ h ∈ (es.map (·.1)).toList, SetTable.bits h < 64 := fun h hh => by
  rw [Array.toList_map] at hh
  obtain ⟨e, he, rfl⟩ := List.mem_map.mp hh
  obtain ⟨k, tk, h1, h2⟩ := g e he
  have hk : keyOf e = k := by
    unfold keyOf
    rw [h1]
  have := l (keyOf e) (List.mem_map.mpr ⟨e, he, rfl⟩)
  rw [hk] at this
  rw [h2]
  exact bits_low this.1 this.2
theorem above_good : ∀ n : Fin 128, (SetTable.sizeAbove n - 1 = 7 ∨ SetTable.sizeAbove n - 1 = 15 ∨ SetTable.sizeAbove n - 1 = 31 ∨ SetTable.sizeAbove n - 1 = 63 ∨ SetTable.sizeAbove n - 1 = 127) ∧ n < SetTable.sizeAbove n ∧ SetTable.sizeAbove n ≤ 128 := by decide +kernel
section
variable {P : Program} {w : World} {A : Around} {E : Value → Shared → Prop} {s : Shared} {a : Addr} {es : Array (Int × Value)} {ep : Nat} {t : SetTable}
theorem setRelay_eq (a : Addr) (wanted : Nat) : setRelay a wanted = (do
  let (es, _, t) ← setState a
  if SetTable.sizeAbove wanted > sizeLine then unsupported "set:memory"
  let (es, t) ← (do
    let some (t, order) := t.relaid (es.map (·.1)) wanted | unsupported "internal:set-table-without-room"
    let es' := order.filterMap (es[·]?)
    if es'.size != es.size then unsupported "internal:set-table-lost-an-element"
    pure (es', t))
  storeSet a es t) := rfl
/-- laid anew -/
theorem SX.relay {wanted : Nat} {Q : Unit → Shared → Prop} (X : SX w s.heap a es ep t) (lo : Low es) (hw : wanted < 128) (hs : es.size ≤ wanted)
    (h : ∀ h' es' t', Heap.SameBut a s.heap h' → SX w h' a es' (ep + 1) t' → es'.toList.Perm es.toList → GoodM t'.mask → wanted ≤ t'.mask → t'.dummies = #[] → Q () { s with heap := h' }) : wpAny (model P w) A (setRelay a wanted) Q E s := by
  obtain ⟨g1, g2, g3⟩ := above_good ⟨wanted, hw⟩
  dsimp only at g1 g2 g3
  obtain ⟨t', order, e1, e2, e3, e4, e5, e6, e7⟩ := laid_ok (finger := t.finger) (moves := t.movedTo (SetTable.sizeAbove wanted - 1)) (led := t.led) (plain := t.plain) g1 (hs := es.map (·.1)) (by rw [Array.size_map]; omega) (lo.bits X.good)
  rw [Array.size_map] at e6 e7
  have pm := order_perm e7
  have hsz : (order.filterMap (es[·]?)).size = es.size := by
    have := pm.length_eq
    rw [Array.length_toList, Array.length_toList] at this
    exact this
  rw [setRelay_eq]
  refine wpAny_bind (X.state ?_)
  dsimp only
  have hL : ¬ (SetTable.sizeAbove wanted > sizeLine) := by
    rw [sizeLine_eq]
    omega
  rw [if_neg hL]
  have er : t.relaid (es.map (·.1)) wanted = some (t', order) := e1
  rw [er]
  dsimp only
  have ec : ((order.filterMap (es[·]?)).size != es.size) = false := by
    rw [hsz]
    simp
  rw [ec]
  refine wpAny_bind (wpAny_pure ?_)
  dsimp only
  refine X.store (fun e he => X.good e (pm.mem_iff.mp he)) ((pm.map keyOf).nodup_iff.mpr X.nd) (by rw [hsz]; exact X.small) (by rw [hsz]; exact e6) e5 (X.led.imp id fun z => by rw [e4]; exact z) fun h' sb X' => ?_
  exact h h' _ t' sb X' pm (by rw [e2]; exact g1) (by rw [e2]; omega) e3
theorem Low.perm {es es' : Array (Int × Value)} (l : Low es) (p : es'.toList.Perm es.toList) : Low es' := fun k hk => l k ((p.map keyOf).mem_iff.mp hk)
theorem Mem.perm {S : Int → Bool} {es es' : Array (Int × Value)} (m : Mem S es) (p : es'.toList.Perm es.toList) : Mem S es' := fun k => (m k).trans (p.map keyOf).mem_iff.symm
/-- walked, where nobody sees the order -/
theorem SX.walkU {others : List Addr} {f : Addr} {ef : Array (Int × Value)} {epf : Nat} {tf : SetTable} {Q : Array (Int × Value) → Shared → Prop} (X : SX w s.heap a es ep t) (Xf : SX w s.heap f ef epf tf) (ho : ∀ b ∈ others, ∃ es ep t, SX w s.heap b es ep t)
    (h : ∀ es' h' d ep' t', es'.toList.Perm es.toList → Heap.SameBut f s.heap h' → SX w h' f ef ep' t' → Q es' { s with heap := h', drawn := d }) : wpAny (model P w) A (setWalkUnseen a others (some f)) Q E s := by
  have viaWalk : wpAny (model P w) A (setWalk a) Q E s := X.walk fun es' d p => h es' s.heap d epf tf p (Heap.SameBut.refl f s.heap) Xf
  unfold setWalkUnseen
  refine wpAny_bind (X.state ?_)
  dsimp only
  refine wpAny_bind (wpAny_byText ?_)
  by_cases c : (w.params.followText "set-order" || (t.led && t.plain) || decide (es.size ≤ 1)) = true
  · refine wp_if_pos c ?_
    first | exact viaWalk | exact wpAny_bind (wpAny_mono viaWalk (fun u s' q => wpAny_pure q) fun _ _ q => q)
  · refine wp_if_neg c ?_
    refine wpAny_bind (quiet_ok (a :: others) (fun b hb => ?_) ?_)
    · rcases List.mem_cons.mp hb with e | e
      · rw [e]
        exact ⟨_, _, _, X⟩
      · exact ho b e
    · refine wp_if_neg (by simp) ?_
      refine wpAny_bind (wpAny_rule ?_)
      refine wpAny_bind (Xf.state ?_)
      dsimp only
      have hb : w.params.followText "set-order" = false := by
        cases q : w.params.followText "set-order" with
        | false => rfl
        | true => rw [q] at c; exact absurd rfl c
      have hl : t.led = true := by
        rcases X.led with z | z
        · rw [hb] at z; cases z
        · exact z
      split
      · refine wpAny_bind (Xf.store Xf.good Xf.nd Xf.small ?_ Xf.ris (Xf.led.imp id fun z => ?_) fun h' sb X' => ?_)
        · exact Xf.fits
        · show (tf.led && t.led) = true
          rw [z, hl]
          rfl
        · exact wpAny_pure (h es h' s.drawn _ _ (List.Perm.refl _) sb X')
      · exact wpAny_pure (h es s.heap s.drawn epf tf (List.Perm.refl _) (Heap.SameBut.refl f s.heap) Xf)
end
end SetT


set_option Elab.async false
set_option linter.all false
set_option maxRecDepth 100000
set_option maxHeartbeats 4000000
/-! Sets of small whole numbers: one merged into another. -/
namespace SetT
open PySem PySem.Spec PyProof.Rows L2
/-- at a: the set S of at most c numbers; empty: its table can be filled -/
def Res (w : World) (h : Heap) (a : Addr) (S : Int → Bool) (c : Nat) (fl : Prop) : Prop := ∃ es ep t, SX w h a es ep t ∧ Mem S es ∧ es.size ≤ c ∧ (es.size = 0 → GoodM t.mask ∧ t.dummies = #[]) ∧ (fl → t.dummies = #[])
def LowS (S : Int → Bool) : Prop := ∀ k, S k = true → 0 ≤ k ∧ k < 64
theorem LowS.low {S : Int → Bool} {es : Array (Int × Value)} (l : LowS S) (m : Mem S es) : Low es := fun k hk => l k ((m k).mpr hk)
theorem Res.setR {w : World} {h : Heap} {a : Addr} {S : Int → Bool} {c : Nat} {fl : Prop} (R : Res w h a S c fl) : ∃ n, n ≤ c ∧ SetR w h a S n := by
  obtain ⟨es, ep, t, X, m, hc, _, _⟩ := R
  exact ⟨es.size, hc, X.setR m⟩
section
variable {P : Program} {w : World} {A : Around} {E : Value → Shared → Prop} {s : Shared} {a o : Addr} {es eo : Array (Int × Value)} {ep epo : Nat} {t to : SetTable}
theorem SX.room {more : Nat} {Q : Unit → Shared → Prop} (X : SX w s.heap a es ep t) (lo : Low es) (hm : es.size + more < 64) (hM : es.size = 0 → GoodM t.mask ∧ t.dummies = #[]) (hpos : 0 < more)
    (h : ∀ h' es' ep' t', Heap.SameBut a s.heap h' → SX w h' a es' ep' t' → es'.toList.Perm es.toList → (t'.fill = 0 → GoodM t'.mask ∧ more ≤ t'.mask) → (es.size = 0 ∧ t.dummies = #[] → t'.fill = 0) → Q () { s with heap := h' }) : wpAny (model P w) A (setRoomFor a more) Q E s := by
  unfold setRoomFor
  refine wpAny_bind (X.state ?_)
  dsimp only
  have hp : t.place.size = es.size := by
    have := X.fits
    unfold SetTable.fits at this
    rw [Bool.and_eq_true] at this
    exact beq_iff_eq.mp this.1
  unfold SetTable.roomFor
  by_cases c : (t.fill + more) * 5 ≥ t.mask * 3
  · rw [if_pos c]
    dsimp only
    refine X.relay lo (by rw [hp]; omega) (by rw [hp]; omega) fun h' es' t' sb X' pm g hw hd => ?_
    refine h h' es' _ t' sb X' pm (fun _ => ⟨g, by omega⟩) fun ⟨z, _⟩ => ?_
    have hp' : t'.place.size = es'.size := by
      have := X'.fits
      unfold SetTable.fits at this
      rw [Bool.and_eq_true] at this
      exact beq_iff_eq.mp this.1
    have hl := pm.length_eq
    rw [Array.length_toList, Array.length_toList] at hl
    unfold SetTable.fill
    rw [hd, hp', hl, z]
    rfl
  · rw [if_neg c]
    dsimp only
    refine wpAny_pure (h s.heap es ep t (Heap.SameBut.refl a s.heap) X (List.Perm.refl _) (fun hf => ?_) fun ⟨z, z2⟩ => by unfold SetTable.fill; rw [z2, hp, z]; rfl)
    have h0 : es.size = 0 := by
      unfold SetTable.fill at hf
      omega
    obtain ⟨g, _⟩ := hM h0
    exact ⟨g, by rw [hf] at c; omega⟩
theorem setMerge_eq (s o : Addr) (each : Sem Unit) : setMerge s o each = (do
  if s == o then return
  let (eo, epoch, to) ← setState o
  if eo.isEmpty then return
  setRoomFor s eo.size
  let (_, _, ts) ← setState s
  match ts.road to with
  | .slotForSlot => storeSet s eo { to with finger := ts.finger, led := ts.led && to.led, moves := ts.moves, plain := ts.plain && to.plain }
  | .clean =>
    let (es, t) ← (do
      let some (t, order) := (SetTable.laid ts.mask ts.finger ts.moves (led := ts.led && to.led) (plain := ts.plain && to.plain) (eo.map (·.1))) | unsupported "internal:set-table-without-room"
      let es' := order.filterMap (eo[·]?)
      if es'.size != eo.size then unsupported "internal:set-table-lost-an-element"
      pure (es', t))
    storeSet s es t
  | .oneByOne =>
    for (h, x) in ← setWalkUnseen o [s] (some s) do
      let _ ← holding [x] (setAddHashed s x h)
      each
      if (← setState o).2.1 != epoch then unsupported "set.changed-during-merge") := rfl
theorem merge_at {S So : Int → Bool} {each : Sem Unit} {Q : Unit → Shared → Prop} (X : SX w s.heap a es ep t) (Xo : SX w s.heap o eo epo to) (hne : a ≠ o) (m : Mem S es) (mo : Mem So eo) (lo : LowS S) (loo : LowS So) (hsz : es.size + eo.size < 64)
    (hM : es.size = 0 → GoodM t.mask ∧ t.dummies = #[]) (hE : ∀ (s1 : Shared) (Q' : Unit → Shared → Prop), SX w s1.heap o eo epo to → Q' () s1 → wpAny (model P w) A each Q' E s1)
    (h : ∀ h' d, Heap.SameBut a s.heap h' → Res w h' a (fun k => S k || So k) (es.size + eo.size) (es.size = 0 ∧ t.dummies = #[]) → Q () { s with heap := h', drawn := d }) : wpAny (model P w) A (setMerge a o each) Q E s := by
  rw [setMerge_eq]
  have hb : (a == o) = false := by simpa using hne
  rw [hb]
  refine wp_if_neg (by simp) ?_
  refine wpAny_bind (Xo.state ?_)
  dsimp only
  by_cases c0 : eo.size = 0
  · refine wp_if_pos (by simpa [Array.isEmpty] using c0) ?_
    refine wpAny_pure (h s.heap s.drawn (Heap.SameBut.refl a s.heap) ⟨es, ep, t, X, fun k => ?_, by omega, hM, fun z => z.2⟩)
    have hso : So k = false := by
      cases q : So k with
      | false => rfl
      | true =>
        have := (mo k).mp q
        rw [Array.size_eq_zero_iff.mp c0] at this
        simp at this
    show (S k || So k) = true ↔ _
    rw [hso, Bool.or_false]
    exact m k
  refine wp_if_neg (by simpa [Array.isEmpty] using c0) ?_
  refine wpAny_bind (X.room (lo.low m) (by omega) hM (by omega) fun h1 es1 ep1 t1 sb1 X1 pm1 hg1 hf1 => ?_)
  have Xo1 : SX w h1 o eo epo to := Xo.keep fun ob q => by rw [sb1.2 o (Ne.symm hne)]; exact q
  have hes1 : es1.size = es.size := by
    have := pm1.length_eq
    rw [Array.length_toList, Array.length_toList] at this
    exact this
  refine wpAny_bind (X1.state ?_)
  dsimp only
  have hp1 : t1.place.size = es1.size := by
    have := X1.fits
    unfold SetTable.fits at this
    rw [Bool.and_eq_true] at this
    exact beq_iff_eq.mp this.1
  have emp : t1.fill = 0 → ∀ k, S k = false := fun hf k => by
    cases q : S k with
    | false => rfl
    | true =>
      have := (m k).mp q
      have e0 : es.size = 0 := by
        unfold SetTable.fill at hf
        omega
      rw [Array.size_eq_zero_iff.mp e0] at this
      simp at this
  unfold SetTable.road
  by_cases cf : t1.fill = 0
  · have hS := emp cf
    have meq : ∀ {es' : Array (Int × Value)}, es'.toList.Perm eo.toList → Mem (fun k => S k || So k) es' := fun p k => by
      show (S k || So k) = true ↔ _
      rw [hS k, Bool.false_or]
      exact mo.perm p k
    rw [if_neg (by simp [cf])]
    by_cases cs : (t1.mask == to.mask && to.dummies.isEmpty) = true
    · rw [if_pos cs]
      dsimp only
      refine X1.store Xo.good Xo.nd Xo.small ?_ Xo.ris ?_ fun h2 sb2 X2 => ?_
      · exact Xo.fits
      · rcases X1.led with z | z
        · exact .inl z
        · rcases Xo.led with z2 | z2
          · exact .inl z2
          · exact .inr (by show (t1.led && to.led) = true; rw [z, z2]; rfl)
      · refine h h2 s.drawn (sb1.trans sb2) ⟨_, _, _, X2, meq (List.Perm.refl _), by omega, fun z => absurd z c0, fun _ => ?_⟩
        rw [Bool.and_eq_true] at cs
        exact Array.isEmpty_iff.mp cs.2
    · rw [if_neg cs]
      dsimp only
      obtain ⟨g1, g2⟩ := hg1 cf
      obtain ⟨t', order, e1, e2, e3, e4, e5, e6, e7⟩ := laid_ok (finger := t1.finger) (moves := t1.moves) (led := t1.led && to.led) (plain := t1.plain && to.plain) g1 (hs := eo.map (·.1)) (by rw [Array.size_map]; omega) ((loo.low mo).bits Xo.good)
      rw [Array.size_map] at e6 e7
      have pm := order_perm e7
      have hsz2 : (order.filterMap (eo[·]?)).size = eo.size := by
        have := pm.length_eq
        rw [Array.length_toList, Array.length_toList] at this
        exact this
      rw [e1]
      dsimp only
      have ec : ((order.filterMap (eo[·]?)).size != eo.size) = false := by
        rw [hsz2]
        simp
      rw [ec]
      refine wpAny_bind (wpAny_pure ?_)
      dsimp only
      refine X1.store (fun e he => Xo.good e (pm.mem_iff.mp he)) ((pm.map keyOf).nodup_iff.mpr Xo.nd) (by rw [hsz2]; exact Xo.small) (by rw [hsz2]; exact e6) e5 ?_ fun h2 sb2 X2 => ?_
      · rcases X1.led with z | z
        · exact .inl z
        · rcases Xo.led with z2 | z2
          · exact .inl z2
          · exact .inr (by rw [e4, z, z2]; rfl)
      · exact h h2 s.drawn (sb1.trans sb2) ⟨_, _, _, X2, meq pm, by rw [hsz2]; omega, fun z => absurd (hsz2 ▸ z) c0, fun _ => e3⟩
  · rw [if_pos (by simp [cf])]
    dsimp only
    refine wpAny_bind (SX.walkU (s := { s with heap := h1 }) Xo1 X1 (fun b hb => ?_) fun es2 h2 d2 ep2 t2 pm2 sb2 X2 => ?_)
    · rw [List.mem_singleton.mp hb]
      exact ⟨_, _, _, X1⟩
    · have Xo2 : SX w h2 o eo epo to := Xo1.keep fun ob q => by rw [sb2.2 o (Ne.symm hne)]; exact q
      have R2 : SetR w h2 a S es1.size := X2.setR (m.perm pm1)
      have hl2 : es2.toList.length = eo.size := by rw [pm2.length_eq, Array.length_toList]
      refine wpAny_bind ?_
      refine wpAny_forIn_array' _ (fun rest _ s1 => ∃ h3 S3 c3, s1 = { s with heap := h3, drawn := d2 } ∧ Heap.SameBut a h2 h3 ∧ SetR w h3 a S3 c3 ∧ c3 + rest.length ≤ es.size + eo.size ∧ (∀ e ∈ rest, GoodE e) ∧ (∀ k, (S3 k = true ∨ k ∈ rest.map keyOf) ↔ (S k = true ∨ So k = true)))
        _ ?_ ?_ _ _ ⟨h2, S, es1.size, rfl, Heap.SameBut.refl a h2, R2, by omega, fun e he => Xo.good e (pm2.mem_iff.mp he), fun k => by rw [(mo.perm pm2 k)]⟩
      · rintro ⟨hh, x⟩ rest _ s1 ⟨h3, S3, c3, rfl, sb3, R3, hc3, hg3, hk3⟩
        obtain ⟨k, tk, e1, e2⟩ := hg3 _ (List.mem_cons_self ..)
        dsimp only at e1 e2
        subst e1 e2
        rw [List.length_cons] at hc3
        have hkey : keyOf (hashInt k, Value.int k tk) = k := rfl
        have sc : scanBound = 4096 := rfl
        refine wpAny_bind (wpAny_holding ?_)
        refine setR_add_hashed (s := { s with heap := h3, drawn := d2 }) (k := k) (tk := tk) R3 (by omega) fun h4 sb4 R4 => ?_
        have Xo4 : SX w h4 o eo epo to := (Xo2.keep fun ob q => by rw [sb3.2 o (Ne.symm hne)]; exact q).keep fun ob q => by rw [sb4.2 o (Ne.symm hne)]; exact q
        refine wpAny_bind (hE _ _ Xo4 ?_)
        refine wpAny_bind (Xo4.state ?_)
        have en : (epo != epo) = false := by simp
        dsimp only
        rw [en]
        refine wp_if_neg (by simp) ?_
        refine wpAny_pure ⟨h4, _, _, rfl, sb3.trans sb4, R4, ?_, fun e he => hg3 e (List.mem_cons_of_mem _ he), fun j => ?_⟩
        · split <;> omega
        · rw [← hk3 j, List.map_cons, hkey]
          simp only [Bool.or_eq_true, decide_eq_true_eq, List.mem_cons]
          constructor
          · rintro ((z | z) | z)
            · exact .inl z
            · exact .inr (.inl z)
            · exact .inr (.inr z)
          · rintro (z | z | z)
            · exact .inl (.inl z)
            · exact .inl (.inr z)
            · exact .inr z
      · rintro _ s1 ⟨h3, S3, c3, rfl, sb3, R3, hc3, _, hk3⟩
        have eS : ∀ k, (fun k => S k || So k) k = S3 k := fun k => by
          have := hk3 k
          rw [List.map_nil] at this
          simp only [List.not_mem_nil, or_false] at this
          cases q1 : S3 k <;> cases q2 : S k <;> cases q3 : So k <;> simp_all
        have R4 := R3.congr eS
        obtain ⟨es4, ep4, t4, X4, m4, hn4⟩ := sx_of R4
        refine wpAny_pure (h h3 d2 ((sb1.trans sb2).trans sb3) ⟨es4, ep4, t4, X4, m4, ?_, fun z => ?_, fun z => absurd (hf1 z) cf⟩)
        · simp at hc3
          omega
        · exfalso
          obtain ⟨e0, he0⟩ : ∃ e0, e0 ∈ eo.toList := List.exists_mem_of_ne_nil _ fun q => c0 (by rw [← Array.length_toList, q]; rfl)
          have hk0 : So (keyOf e0) = true := (mo _).mpr (List.mem_map.mpr ⟨e0, he0, rfl⟩)
          have := (m4 (keyOf e0)).mp (by show (S (keyOf e0) || So (keyOf e0)) = true; rw [hk0, Bool.or_true])
          rw [Array.size_eq_zero_iff.mp z] at this
          simp at this
end
end SetT


set_option Elab.async false
set_option linter.all false
set_option maxRecDepth 100000
set_option maxHeartbeats 4000000
namespace SetT
open PySem PySem.Spec PyProof.Rows L2
theorem entry_or : entryFor table "set.__or__" = some Builtin.«frozenset.__or__» := entryFor_alias (id' := "frozenset.__or__") (by kernel_rfl) rfl (by decide +kernel) (by kernel_rfl)
theorem entry_and : entryFor table "set.__and__" = some Builtin.«frozenset.__and__» := entryFor_alias (id' := "frozenset.__and__") (by kernel_rfl) rfl (by decide +kernel) (by kernel_rfl)
theorem entry_sub : entryFor table "set.__sub__" = some Builtin.«frozenset.__sub__» := entryFor_alias (id' := "frozenset.__sub__") (by kernel_rfl) rfl (by decide +kernel) (by kernel_rfl)
end SetT


set_option Elab.async false
set_option linter.all false
set_option maxRecDepth 100000
set_option maxHeartbeats 4000000
/-! Sets of small whole numbers: a | b, a & b, a - b. -/
namespace SetT
open PySem PySem.Spec PyProof.Rows L2
section
variable {P : Program} {w : World} {A : Around} {E : Value → Shared → Prop} {s : Shared} {a o : Addr} {es eo : Array (Int × Value)} {ep epo : Nat} {t to : SetTable}
def freshObj (w : World) : Obj := { cls := .type "set", dict := none, data := .set #[] 0 (.fresh 0 0 (!w.params.followText "set-order")) }
theorem newSet_at {Q : Value → Shared → Prop} (h : Q (.ref s.heap.objs.size) { s with heap := s.heap.push (freshObj w) }) : wpAny (model P w) A (newSet (.type "set")) Q E s := by
  unfold newSet setsByText
  refine wpAny_bind (wpAny_bind (wpAny_askSetting (wpAny_pure ?_)))
  dsimp only
  simp only [newObj]
  exact wpAny_bind (wpAny_alloc (wpAny_pure h))
theorem fresh_sx {h : Heap} (w : World) : SX w (h.push (freshObj w)) h.objs.size #[] 0 (.fresh 0 0 (!w.params.followText "set-order")) :=
  ⟨⟨_, Heap.get?_push_size _ rfl, ⟨rfl, rfl, rfl⟩, rfl⟩, (fun e he => by simp at he), (by simp), (by decide), (by rfl), List.Pairwise.nil, by
    show _ ∨ (!w.params.followText "set-order") = true
    cases w.params.followText "set-order"
    · exact .inr rfl
    · exact .inl rfl⟩
theorem SX.anySet {Q : Bool → Shared → Prop} (X : SX w s.heap a es ep t) (h : Q true s) : wpAny (model P w) A (Builtin.Frozenset.isAnySet (.ref a)) Q E s := by
  unfold Builtin.Frozenset.isAnySet orM
  refine wpAny_bind (wpAny_isInstance (b := true) X.typeIs sub_set_self ?_)
  exact wpAny_pure h
theorem SX.base {Q : Value → Shared → Prop} (X : SX w s.heap a es ep t) (h : Q (.type "set") s) : wpAny (model P w) A (Builtin.Frozenset.baseOf a) Q E s := by
  unfold Builtin.Frozenset.baseOf
  refine wpAny_bind (wpAny_isInstance (b := true) X.typeIs sub_set_self ?_)
  exact wpAny_pure h
theorem SX.push (X : SX w s.heap a es ep t) (x : Obj) : SX w (s.heap.push x) a es ep t := X.keep fun _ q => Heap.get?_push_of_some _ q
theorem SX.ne_new (X : SX w s.heap a es ep t) : s.heap.objs.size ≠ a := Nat.ne_of_gt X.lt
/-- a new heap: all old things stay, at the new place stands S -/
def NewS (w : World) (h h' : Heap) (S : Int → Bool) (c : Nat) (fl : Prop) : Prop := (∀ b u, h.get? b = some u → h'.get? b = some u) ∧ Res w h' h.objs.size S c fl
theorem keep_new {h h' : Heap} {x : Obj} (sb : Heap.SameBut h.objs.size (h.push x) h') : ∀ b u, h.get? b = some u → h'.get? b = some u := fun b u q => by
  rw [sb.2 b (Nat.ne_of_lt (Heap.lt_size q))]
  exact Heap.get?_push_of_some _ q
/-- a copy -/
theorem copy_at {S : Int → Bool} {Q : Value → Shared → Prop} (X : SX w s.heap a es ep t) (m : Mem S es) (lo : LowS S) (hs : es.size < 64)
    (h : ∀ h' d, NewS w s.heap h' S es.size True → Q (.ref s.heap.objs.size) { s with heap := h', drawn := d }) : wpAny (model P w) A (Builtin.Frozenset.copyOf a) Q E s := by
  unfold Builtin.Frozenset.copyOf
  refine wpAny_bind (X.base ?_)
  refine wpAny_bind (newSet_at ?_)
  unfold Builtin.Frozenset.addrOf
  refine wpAny_bind (wpAny_pure ?_)
  refine wpAny_bind (merge_at (s := { s with heap := s.heap.push (freshObj w) }) (S := fun _ => false) (So := S) (fresh_sx w) (X.push _) X.ne_new (fun k => by simp) m (fun k z => nomatch z) lo (by simp; exact hs) (fun _ => ⟨.inl rfl, rfl⟩) (fun s1 Q' _ q => wpAny_pure q) fun h' d sb R => ?_)
  refine wpAny_pure (h h' d ⟨keep_new sb, ?_⟩)
  obtain ⟨es', ep', t', X', m', hc, hM, hF⟩ := R
  exact ⟨es', ep', t', X', fun k => by rw [← m' k]; simp, by simpa using hc, hM, fun _ => hF ⟨rfl, rfl⟩⟩
theorem Res.mono {h : Heap} {S S' : Int → Bool} {c c' : Nat} {fl : Prop} (R : Res w h a S c fl) (e : ∀ k, S' k = S k) (hc : c ≤ c') : Res w h a S' c' False := by
  obtain ⟨es, ep, t, X, m, h1, h2, _⟩ := R
  exact ⟨es, ep, t, X, fun k => by rw [e k]; exact m k, Nat.le_trans h1 hc, h2, fun z => z.elim⟩
theorem or_at {S So : Int → Bool} {Q : Value → Shared → Prop} (X : SX w s.heap a es ep t) (Xo : SX w s.heap o eo epo to) (hne : a ≠ o) (m : Mem S es) (mo : Mem So eo) (lo : LowS S) (loo : LowS So) (hsz : es.size + eo.size < 64)
    (h : ∀ h' d, NewS w s.heap h' (fun k => S k || So k) (es.size + eo.size) False → Q (.ref s.heap.objs.size) { s with heap := h', drawn := d }) : wpAny (model P w) A (binaryOp .BitOr (.ref a) (.ref o)) Q E s := by
  refine wpAny_binaryOp_same X.typeIs Xo.typeIs PySem.F.fills_set_or PySem.F.slot_set_or (wpAny_call_entry PySem.F.slot_set_or X.typeIs entry_or ?_ (PySem.F.args_set_or_2 _ _))
  unfold Builtin.«frozenset.__or__»
  refine wpAny_bind (m := Builtin.Frozenset.slot1 "__or__" _) (wpAny_of_eq (a := (.ref a, .ref o)) (by rfl) ?_)
  dsimp only
  refine wpAny_bind ?_
  refine wpAny_bind (X.anySet ?_)
  show wpAny _ _ (Builtin.Frozenset.isAnySet (.ref o)) _ _ _
  refine Xo.anySet ?_
  refine wp_if_neg (by simp) ?_
  unfold Builtin.Frozenset.addrOf
  refine wpAny_bind (wpAny_pure ?_)
  refine wpAny_bind ?_
  show wpAny _ _ (do
    let result ← Builtin.Frozenset.copyOf a
    if (Value.ref o) != .ref a then
      let x ← Builtin.Frozenset.addrOf result
      holding [result] (Builtin.Frozenset.updateFrom "frozenset.__or__" x (.ref o))
    return result) _ _ _
  refine wpAny_bind (copy_at X m lo (by omega) fun h1 d1 N1 => ?_)
  have hra : (Value.ref o != Value.ref a) = true := by simpa using (Ne.symm hne)
  refine wp_if_pos hra ?_
  obtain ⟨k1, es1, ep1, t1, X1, m1, hc1, hM1, _⟩ := N1
  have Xo1 : SX w h1 o eo epo to := Xo.keep fun ob q => k1 _ _ q
  unfold Builtin.Frozenset.addrOf
  refine wpAny_bind (wpAny_pure ?_)
  refine wpAny_bind (wpAny_holding ?_)
  unfold Builtin.Frozenset.updateFrom
  refine wpAny_bind (SX.anySet (s := { s with heap := h1, drawn := d1 }) Xo1 ?_)
  refine wp_if_pos rfl ?_
  unfold Builtin.Frozenset.addrOf Builtin.Frozenset.merge
  refine wpAny_bind (wpAny_pure ?_)
  refine wpAny_bind (SX.epoch (s := { s with heap := h1, drawn := d1 }) Xo1 ?_)
  refine merge_at (s := { s with heap := h1, drawn := d1 }) X1 Xo1 Xo.ne_new m1 mo lo loo (by omega) hM1 (fun s1 Q' Xs q => ?_) fun h2 d2 sb2 R2 => ?_
  · unfold Builtin.Frozenset.unchanged
    refine wpAny_bind (Xs.epoch ?_)
    refine wp_if_neg (by simp) ?_
    exact wpAny_pure q
  · refine wpAny_pure ?_
    refine wpAny_pure ⟨_, rfl, (fun z => nomatch z), h h2 d2 ⟨fun b u q => ?_, R2.mono (fun _ => rfl) (by omega)⟩⟩
    rw [sb2.2 b (Nat.ne_of_lt (Heap.lt_size q))]
    exact k1 _ _ q
end
end SetT


set_option Elab.async false
set_option linter.all false
set_option maxRecDepth 100000
set_option maxHeartbeats 4000000
namespace SetT
open PySem PySem.Spec PyProof.Rows L2
section
variable {P : Program} {w : World} {A : Around} {E : Value → Shared → Prop} {s : Shared} {a o : Addr} {es eo : Array (Int × Value)} {ep epo : Nat} {t to : SetTable}
/-- of the walked set (at a) those that p asks for go into the set at r -/
theorem pick_loop {r : Addr} {S Sr p : Int → Bool} {cr : Nat} {body : Int × Value → PUnit → Sem (ForInStep PUnit)} {Q : PUnit → Shared → Prop} (es2 : Array (Int × Value)) (pm : es2.toList.Perm es.toList) (X : SX w s.heap a es ep t) (hne : r ≠ a) (m : Mem S es) (R : SetR w s.heap r Sr cr) (he : ∀ k, Sr k = false) (hsz : cr + es.size < 128) (G : Heap → Prop) (hG : ∀ h', Heap.SameBut r s.heap h' → G h')
    (hbody : ∀ (k : Int) (tk : Tok) (s1 : Shared) (Q' : ForInStep PUnit → Shared → Prop) (S1 : Int → Bool) (c1 : Nat), G s1.heap → SX w s1.heap a es ep t → SetR w s1.heap r S1 c1 → c1 < 128 →
      (∀ h' c', Heap.SameBut r s1.heap h' → c' ≤ c1 + 1 → SetR w h' r (fun j => S1 j || (decide (j = k) && p k)) c' → Q' (.yield ⟨⟩) { s1 with heap := h' }) → wpAny (model P w) A (body (hashInt k, .int k tk) ⟨⟩) Q' E s1)
    (h : ∀ h' c, Heap.SameBut r s.heap h' → SetR w h' r (fun k => S k && p k) c → c ≤ cr + es.size → Q ⟨⟩ { s with heap := h' }) : wpAny (model P w) A (forIn es2 ⟨⟩ body) Q E s := by
  have hl2 : es2.toList.length = es.size := by rw [pm.length_eq, Array.length_toList]
  refine wpAny_forIn_array' _ (fun rest _ s1 => ∃ h3 S3 c3, s1 = { s with heap := h3 } ∧ Heap.SameBut r s.heap h3 ∧ SetR w h3 r S3 c3 ∧ c3 + rest.length ≤ cr + es.size ∧ (∀ e ∈ rest, GoodE e) ∧ (∀ k, (S3 k = true ∨ (k ∈ rest.map keyOf ∧ p k = true)) ↔ (S k = true ∧ p k = true)))
    _ ?_ ?_ _ _ ⟨s.heap, Sr, cr, rfl, Heap.SameBut.refl r s.heap, R, by omega, fun e he => X.good e (pm.mem_iff.mp he), fun k => by rw [(m.perm pm k), he k]; simp⟩
  · rintro ⟨hh, x⟩ rest u s1 ⟨h3, S3, c3, rfl, sb3, R3, hc3, hg3, hk3⟩
    obtain ⟨k, tk, e1, e2⟩ := hg3 _ (List.mem_cons_self ..)
    dsimp only at e1 e2
    subst e1 e2
    rw [List.length_cons] at hc3
    have hkey : keyOf (hashInt k, Value.int k tk) = k := rfl
    refine hbody k tk { s with heap := h3 } _ S3 c3 (hG h3 sb3) (X.keep fun ob q => by rw [sb3.2 a (Ne.symm hne)]; exact q) R3 (by omega) fun h4 c4 sb4 hc4 R4 => ?_
    refine ⟨h4, _, c4, rfl, sb3.trans sb4, R4, by omega, fun e he => hg3 e (List.mem_cons_of_mem _ he), fun j => ?_⟩
    rw [← hk3 j, List.map_cons, hkey]
    simp only [Bool.or_eq_true, Bool.and_eq_true, decide_eq_true_eq, List.mem_cons]
    constructor
    · rintro ((z | ⟨rfl, z⟩) | ⟨z, z2⟩)
      · exact .inl z
      · exact .inr ⟨.inl rfl, z⟩
      · exact .inr ⟨.inr z, z2⟩
    · rintro (z | ⟨rfl | z, z2⟩)
      · exact .inl (.inl z)
      · exact .inl (.inr ⟨rfl, z2⟩)
      · exact .inr ⟨z, z2⟩
  · rintro u s1 ⟨h3, S3, c3, rfl, sb3, R3, hc3, _, hk3⟩
    have eS : ∀ k, (fun k => S k && p k) k = S3 k := fun k => by
      have := hk3 k
      rw [List.map_nil] at this
      simp only [List.not_mem_nil, false_and, or_false] at this
      cases q1 : S3 k <;> cases q2 : S k <;> cases q3 : p k <;> simp_all
    exact h h3 c3 sb3 (R3.congr eS) (by simp at hc3; omega)
theorem find_at {S : Int → Bool} {n : Nat} {k : Int} {tk : Tok} {Q : Option Nat → Shared → Prop} (R : SetR w s.heap a S n) (h : ∀ r : Option Nat, r.isSome = S k → Q r s) : wpAny (model P w) A (setFind a (.int k tk) (hashInt k)) Q E s :=
  wpAny_setFind_of (knd := intKind P w) (intKind_is P w k tk) rfl R.setOf h
/-- a & b -/
theorem and_at {S So : Int → Bool} {Q : Value → Shared → Prop} (X : SX w s.heap a es ep t) (Xo : SX w s.heap o eo epo to) (hne : a ≠ o) (m : Mem S es) (mo : Mem So eo) (hsz : es.size + eo.size < 64)
    (h : ∀ h' d c, (∀ b u, s.heap.get? b = some u → h'.get? b = some u) → SetR w h' s.heap.objs.size (fun k => S k && So k) c → c < 64 → Q (.ref s.heap.objs.size) { s with heap := h', drawn := d }) : wpAny (model P w) A (binaryOp .BitAnd (.ref a) (.ref o)) Q E s := by
  refine wpAny_binaryOp_same X.typeIs Xo.typeIs PySem.F.fills_set_and PySem.F.slot_set_and (wpAny_call_entry PySem.F.slot_set_and X.typeIs entry_and ?_ (PySem.F.args_set_and_2 _ _))
  unfold Builtin.«frozenset.__and__»
  refine wpAny_bind (m := Builtin.Frozenset.slot1 "__and__" _) (wpAny_of_eq (a := (.ref a, .ref o)) (by rfl) ?_)
  dsimp only
  refine wpAny_bind ?_
  refine wpAny_bind (X.anySet ?_)
  show wpAny _ _ (Builtin.Frozenset.isAnySet (.ref o)) _ _ _
  refine Xo.anySet ?_
  refine wp_if_neg (by simp) ?_
  unfold Builtin.Frozenset.addrOf
  refine wpAny_bind (wpAny_pure ?_)
  refine wpAny_bind ?_
  show wpAny _ _ (Builtin.Frozenset.intersection _ a (.ref o)) _ _ _
  unfold Builtin.Frozenset.intersection
  have hra : (Value.ref o == Value.ref a) = false := by simpa using (Ne.symm hne)
  refine wp_if_neg (by rw [hra]; exact Bool.false_ne_true) ?_
  refine wpAny_bind (X.base ?_)
  refine wpAny_bind (newSet_at ?_)
  unfold Builtin.Frozenset.addrOf
  refine wpAny_bind (wpAny_pure ?_)
  have F := fresh_sx (h := s.heap) w
  have X1 := X.push (freshObj w)
  have Xo1 := Xo.push (freshObj w)
  have n1 := X.ne_new
  have n2 := Xo.ne_new
  refine wpAny_bind (wpAny_holding ?_)
  refine wpAny_bind (SX.anySet (s := { s with heap := s.heap.push (freshObj w) }) Xo1 ?_)
  refine wp_if_pos rfl ?_
  refine wpAny_bind (wpAny_pure ?_)
  unfold Builtin.Frozenset.sizeOf
  refine wpAny_bind (wpAny_bind (SX.entries (s := { s with heap := s.heap.push (freshObj w) }) Xo1 (wpAny_pure ?_)))
  refine wpAny_bind (wpAny_bind (SX.entries (s := { s with heap := s.heap.push (freshObj w) }) X1 (wpAny_pure ?_)))
  -- the walked one
  have go : ∀ (a1 o1 : Addr) (e1 eo1 : Array (Int × Value)) (p1 po1 : Nat) (t1 to1 : SetTable) (S1 So1 : Int → Bool), SX w (s.heap.push (freshObj w)) a1 e1 p1 t1 → SX w (s.heap.push (freshObj w)) o1 eo1 po1 to1 → s.heap.objs.size ≠ a1 → s.heap.objs.size ≠ o1 → Mem S1 e1 → Mem So1 eo1 → e1.size < 64 → (∀ k, (S1 k && So1 k) = (S k && So k)) →
      wpAny (model P w) A.in1 (do
        let was ← setEpoch a1
        for (h, x) in ← setWalkUnseen a1 [o1, s.heap.objs.size] (some s.heap.objs.size) do
          holding [x] do
            if (← setFind o1 x h).isSome then
              let _ ← setAddHashed s.heap.objs.size x h
          Builtin.Frozenset.unchanged (toString "frozenset." ++ toString "__and__") a1 was) (fun _ s' => wpAny (model P w) A.in1 (pure (Value.ref s.heap.objs.size)) (fun a s' => wpAny (model P w) A.in1 (ret a) (fun fin s' => ∃ v, fin = Fin.done (Flow.ret v) ∧ v ≠ Value.notImplemented ∧ Q v s') E s') E s') E { s with heap := s.heap.push (freshObj w) } := by
    intro a1 o1 e1 eo1 p1 po1 t1 to1 S1 So1 Y Yo na no mY mYo hz eq
    refine wpAny_bind (SX.epoch (s := { s with heap := s.heap.push (freshObj w) }) Y ?_)
    refine wpAny_bind (SX.walkU (s := { s with heap := s.heap.push (freshObj w) }) Y F (fun b hb => ?_) fun es2 h2 d2 ep2 t2 pm2 sb2 F2 => ?_)
    · rcases List.mem_cons.mp hb with z | z
      · rw [z]; exact ⟨_, _, _, Yo⟩
      · rw [List.mem_singleton.mp z]; exact ⟨_, _, _, F⟩
    have Y2 : SX w h2 a1 e1 p1 t1 := Y.keep fun ob q => by rw [sb2.2 a1 (Ne.symm na)]; exact q
    have Yo2 : SX w h2 o1 eo1 po1 to1 := Yo.keep fun ob q => by rw [sb2.2 o1 (Ne.symm no)]; exact q
    have R2 : SetR w h2 s.heap.objs.size (fun _ => false) 0 := F2.setR (fun k => by simp)
    refine wpAny_bind ?_
    refine pick_loop (s := { s with heap := h2, drawn := d2 }) (p := So1) es2 pm2 Y2 na mY R2 (fun _ => rfl) (by omega) (fun h' => SX w h' o1 eo1 po1 to1) (fun h' sb => Yo2.keep fun ob q => by rw [sb.2 o1 (Ne.symm no)]; exact q) (fun k tk s1 Q' S3 c3 G3 X3 R3 hc hq => ?_) fun h3 c3 sb3 R3 hc3 => ?_
    · dsimp only
      have Yr := G3.setR mYo
      refine wpAny_bind (wpAny_holding ?_)
      refine wpAny_bind (find_at Yr fun r hr => ?_)
      have sc : scanBound = 4096 := rfl
      rw [hr]
      cases c : So1 k with
      | true =>
        refine wp_if_pos rfl ?_
        refine wpAny_bind (setR_add_hashed R3 (by omega) fun h4 sb4 R4 => ?_)
        refine wpAny_pure ?_
        unfold Builtin.Frozenset.unchanged
        have X4 : SX w h4 a1 e1 p1 t1 := X3.keep fun ob q => by rw [sb4.2 a1 (Ne.symm na)]; exact q
        refine wpAny_bind (wpAny_bind (SX.epoch (s := { s1 with heap := h4 }) X4 ?_))
        refine wp_if_neg (by simp) ?_
        refine wpAny_pure (wpAny_pure ?_)
        refine hq h4 _ sb4 ?_ (R4.congr fun j => ?_)
        · split <;> omega
        · rw [c, Bool.and_true]
      | false =>
        refine wp_if_neg (by simp) ?_
        refine wpAny_pure ?_
        unfold Builtin.Frozenset.unchanged
        refine wpAny_bind (wpAny_bind (X3.epoch ?_))
        refine wp_if_neg (by simp) ?_
        refine wpAny_pure (wpAny_pure ?_)
        refine hq s1.heap c3 (Heap.SameBut.refl _ _) (by omega) (R3.congr fun j => ?_)
        rw [c, Bool.and_false, Bool.or_false]
    · refine wpAny_pure (wpAny_pure ?_)
      refine wpAny_pure ⟨_, rfl, (fun z => nomatch z), h h3 d2 c3 (keep_new (sb2.trans sb3)) (R3.congr fun k => ?_) (by omega)⟩
      exact (eq k).symm
  by_cases c : eo.size > es.size
  · rw [if_pos c]
    exact go a o es eo ep epo t to S So X1 Xo1 n1 n2 m mo (by omega) fun _ => rfl
  · rw [if_neg c]
    exact go o a eo es epo ep to t So S Xo1 X1 n2 n1 mo m (by omega) fun k => Bool.and_comm _ _
end
end SetT


set_option Elab.async false
set_option linter.all false
set_option maxRecDepth 100000
set_option maxHeartbeats 4000000
namespace SetT
open PySem PySem.Spec PyProof.Rows L2
section
variable {P : Program} {w : World} {A : Around} {E : Value → Shared → Prop} {s : Shared} {a o : Addr} {es eo : Array (Int × Value)} {ep epo : Nat} {t to : SetTable}
/-- walked, where nobody sees the order, nothing filled -/
theorem SX.walkU0 {others : List Addr} {Q : Array (Int × Value) → Shared → Prop} (X : SX w s.heap a es ep t) (ho : ∀ b ∈ others, ∃ es ep t, SX w s.heap b es ep t)
    (h : ∀ es' d, es'.toList.Perm es.toList → Q es' { s with drawn := d }) : wpAny (model P w) A (setWalkUnseen a others none) Q E s := by
  have viaWalk : wpAny (model P w) A (setWalk a) Q E s := X.walk fun es' d p => h es' d p
  unfold setWalkUnseen
  refine wpAny_bind (X.state ?_)
  dsimp only
  refine wpAny_bind (wpAny_byText ?_)
  by_cases c : (w.params.followText "set-order" || (t.led && t.plain) || decide (es.size ≤ 1)) = true
  · refine wp_if_pos c ?_
    first | exact viaWalk | exact wpAny_bind (wpAny_mono viaWalk (fun u s' q => wpAny_pure q) fun _ _ q => q)
  · refine wp_if_neg c ?_
    refine wpAny_bind (quiet_ok (a :: others) (fun b hb => ?_) ?_)
    · rcases List.mem_cons.mp hb with e | e
      · rw [e]
        exact ⟨_, _, _, X⟩
      · exact ho b e
    · refine wp_if_neg (by simp) ?_
      refine wpAny_bind (wpAny_rule ?_)
      exact wpAny_pure (h es s.drawn (List.Perm.refl _))
theorem find_ix {k : Int} {tk : Tok} {Q : Option Nat → Shared → Prop} (X : SX w s.heap a es ep t)
    (h0 : k ∉ es.toList.map keyOf → Q none s) (h1 : ∀ (i : Nat) (hi : i < es.toList.length), keyOf es.toList[i] = k → Q (some i) s) : wpAny (model P w) A (setFind a (.int k tk) (hashInt k)) Q E s := by
  obtain ⟨ob, ho, hex, hd⟩ := X.ob
  have hkey : (intKind P w).is k (.int k tk) = true := intKind_is P w k tk
  have hsc : (Value.int k tk).scannable = true := rfl
  have hel : ElemsOf (intKind P w) es.toList := good_elems X.good
  unfold setFind setFindIn
  refine wpAny_bind (wpAny_setState_of ho hd X.fits ?_)
  dsimp only
  rw [byScan_of hsc X.small hel]
  simp only [↓reduceIte]
  refine wpAny_bind (wpAny_rule ?_)
  refine wpAny_bind (wpAny_setScan_of (knd := intKind P w) hkey ho hd X.fits hel ?_)
  cases hr : List.findIdx? (fun e => (intKind P w).is k e.2) es.toList with
  | none =>
    dsimp only
    refine wpAny_pure (h0 fun z => ?_)
    obtain ⟨e, he, q⟩ := (good_mem (P := P) (w := w) X.good k).1 z
    have c := List.findIdx?_eq_none_iff.mp hr e he
    rw [q] at c
    cases c
  | some j =>
    dsimp only
    obtain ⟨hj, pj, _⟩ := List.findIdx?_eq_some_iff_getElem.mp hr
    refine wpAny_pure ?_
    have := h1 j hj ((good_is (P := P) (w := w) (X.good _ (List.getElem_mem hj)) k).mp pj)
    first | exact this | (rw [Nat.zero_add]; exact this)
theorem erase_list {α : Type} (xs : Array α) (i : Nat) : (SetTable.eraseAt xs i).toList = xs.toList.eraseIdx i := by
  unfold SetTable.eraseAt
  rw [Array.toList_append, Array.toList_extract, Array.toList_extract, List.eraseIdx_eq_take_drop_succ]
  simp only [List.extract_eq_take_drop, Nat.sub_zero, List.drop_zero]
  rw [List.take_of_length_le (l := List.drop (i + 1) xs.toList) (by rw [List.length_drop, Array.length_toList]; exact Nat.le_refl _)]
theorem erase_map {α β : Type} (f : α → β) : ∀ (l : List α) (i : Nat), (l.eraseIdx i).map f = (l.map f).eraseIdx i
  | [], i => by simp
  | a :: r, 0 => by simp
  | a :: r, i + 1 => by simp [erase_map f r i]
theorem nodup_inj {l : List Int} (nd : l.Nodup) {i j : Nat} (hi : i < l.length) (hj : j < l.length) (e : l[i] = l[j]) : i = j := by
  rcases Nat.lt_trichotomy i j with c | c | c
  · exact absurd e (List.pairwise_iff_getElem.mp nd i j hi hj c)
  · exact c
  · exact absurd e.symm (List.pairwise_iff_getElem.mp nd j i hj hi c)
/-- one taken out -/
theorem discard_at {S : Int → Bool} {k : Int} {tk : Tok} {Q : Bool → Shared → Prop} (X : SX w s.heap a es ep t) (m : Mem S es)
    (h : ∀ b h' es' ep' t', Heap.SameBut a s.heap h' → SX w h' a es' ep' t' → Mem (fun j => S j && !decide (j = k)) es' → es'.size ≤ es.size → t'.mask = t.mask → t'.dummies.size ≤ t.dummies.size + 1 → Q b { s with heap := h' }) :
    wpAny (model P w) A (setDiscardHashed a (.int k tk) (hashInt k)) Q E s := by
  unfold setDiscardHashed
  refine wpAny_bind (find_ix X (fun hk => ?_) fun i hi hk => ?_)
  · refine wpAny_pure (h false s.heap es ep t (Heap.SameBut.refl a s.heap) X (fun j => ?_) (Nat.le_refl _) rfl (by omega))
    show (S j && !decide (j = k)) = true ↔ _
    rw [Bool.and_eq_true, Bool.not_eq_true', decide_eq_false_iff_not, m j]
    refine ⟨fun z => z.1, fun z => ⟨z, fun e => hk (e ▸ z)⟩⟩
  · dsimp only
    refine wpAny_bind (X.state ?_)
    dsimp only
    have hle := erase_list es i
    have hi2 : i < es.size := by rw [← Array.length_toList]; exact hi
    have hsz : (SetTable.eraseAt es i).size = es.size - 1 := by
      rw [← Array.length_toList, hle, List.length_eraseIdx_of_lt hi, Array.length_toList]
    have hp : t.place.size = es.size := by
      have := X.fits
      unfold SetTable.fits at this
      rw [Bool.and_eq_true] at this
      exact beq_iff_eq.mp this.1
    have hfl : t.fill ≤ t.mask := by
      have := X.fits
      unfold SetTable.fits at this
      rw [Bool.and_eq_true] at this
      exact of_decide_eq_true this.2
    have hpi : t.place[i]? = some (t.place[i]'(by rw [hp]; exact hi2)) := Array.getElem?_eq_getElem _
    have hdr : t.drop i = { t with place := SetTable.eraseAt t.place i, dummies := SetTable.insertAt t.dummies (SetTable.below t.dummies (t.place[i]'(by rw [hp]; exact hi2))) (t.place[i]'(by rw [hp]; exact hi2)) } := by
      unfold SetTable.drop
      rw [hpi]
    have hpe : (SetTable.eraseAt t.place i).size = es.size - 1 := by
      rw [← Array.length_toList, erase_list, List.length_eraseIdx_of_lt (by rw [Array.length_toList, hp]; exact hi2), Array.length_toList, hp]
    have hin : ∀ (p : Nat) (x : Nat), (SetTable.insertAt t.dummies p x).size ≤ t.dummies.size + 1 := fun p x => by
      unfold SetTable.insertAt
      simp only [Array.size_append, Array.size_push, Array.size_extract]
      omega
    have key1 : (es.toList.eraseIdx i).map keyOf = (es.toList.map keyOf).eraseIdx i := erase_map keyOf _ _
    have hik : i < (es.toList.map keyOf).length := by rw [List.length_map]; exact hi
    have hkk : (es.toList.map keyOf)[i] = k := by rw [List.getElem_map]; exact hk
    refine wpAny_bind (X.store (fun e he => ?_) ?_ ?_ ?_ ?_ ?_ fun h' sb X' => ?_)
    · rw [hle] at he
      exact X.good e (List.mem_of_mem_eraseIdx he)
    · rw [hle, key1]
      exact X.nd.sublist (List.eraseIdx_sublist _ _)
    · rw [hsz]
      have := X.small
      omega
    · rw [hdr]
      unfold SetTable.fits SetTable.fill
      dsimp only
      rw [Bool.and_eq_true]
      refine ⟨?_, ?_⟩
      · rw [beq_iff_eq, hpe, hsz]
      · rw [decide_eq_true_eq, hpe]
        have := hin (SetTable.below t.dummies (t.place[i]'(by rw [hp]; exact hi2))) (t.place[i]'(by rw [hp]; exact hi2))
        unfold SetTable.fill at hfl
        omega
    · rw [hdr]
      dsimp only
      rw [erase_list]
      exact List.Pairwise.sublist (List.eraseIdx_sublist _ _) X.ris
    · rw [hdr]
      exact X.led
    · refine wpAny_bind (wpAny_point ?_)
      refine wpAny_pure (h true h' _ _ _ sb X' (fun j => ?_) (by rw [hsz]; omega) (by rw [hdr]) (by rw [hdr]; exact hin _ _))
      show (S j && !decide (j = k)) = true ↔ _
      rw [Bool.and_eq_true, Bool.not_eq_true', decide_eq_false_iff_not, m j, hle, key1]
      constructor
      · rintro ⟨z, hne⟩
        obtain ⟨q, hq, hqe⟩ := List.mem_iff_getElem.mp z
        have hqi : q ≠ i := fun e => hne (by subst e; rw [← hqe, hkk])
        exact List.mem_eraseIdx_iff_getElem.mpr ⟨q, hq, hqi, hqe⟩
      · intro z
        obtain ⟨q, hq, hqi, hqe⟩ := List.mem_eraseIdx_iff_getElem.mp z
        refine ⟨List.mem_of_mem_eraseIdx z, fun e => hqi ?_⟩
        have e2 : (es.toList.map keyOf)[q] = (es.toList.map keyOf)[i] := by rw [hqe, hkk, e]
        exact nodup_inj X.nd hq hik e2
end
end SetT


set_option Elab.async false
set_option linter.all false
set_option maxRecDepth 100000
set_option maxHeartbeats 4000000
namespace SetT
open PySem PySem.Spec PyProof.Rows L2
section
variable {P : Program} {w : World} {A : Around} {E : Value → Shared → Prop} {s : Shared} {a o : Addr} {es eo : Array (Int × Value)} {ep epo : Nat} {t to : SetTable}
theorem SX.psize {h : Heap} (X : SX w h a es ep t) : t.place.size = es.size ∧ t.fill ≤ t.mask := by
  have := X.fits
  unfold SetTable.fits at this
  rw [Bool.and_eq_true] at this
  exact ⟨beq_iff_eq.mp this.1, of_decide_eq_true this.2⟩
/-- all of o taken out of r -/
theorem minus_at {r : Addr} {S So : Int → Bool} {id : String} {Q : Unit → Shared → Prop} (X : SX w s.heap r es ep t) (Xo : SX w s.heap o eo epo to) (hne : r ≠ o) (m : Mem S es) (mo : Mem So eo) (hb : eo.size / 8 ≤ es.size) (hq : eo.size < es.size / 4 + 1) (hd : t.dummies = #[])
    (h : ∀ h' d c, Heap.SameBut r s.heap h' → SetR w h' r (fun k => S k && !So k) c → c ≤ es.size → Q () { s with heap := h', drawn := d }) : wpAny (model P w) A (Builtin.Frozenset.differenceUpdate id r (.ref o)) Q E s := by
  have hn : t.place.size ≤ t.mask := by
    have := X.psize.2
    unfold SetTable.fill at this
    omega
  have hp := X.psize.1
  unfold Builtin.Frozenset.differenceUpdate
  have hra : (Value.ref o == Value.ref r) = false := by simpa using (Ne.symm hne)
  refine wp_if_neg (by rw [hra]; exact Bool.false_ne_true) ?_
  refine wpAny_bind (Xo.anySet ?_)
  refine wp_if_pos rfl ?_
  unfold Builtin.Frozenset.addrOf
  refine wpAny_bind (wpAny_pure ?_)
  unfold Builtin.Frozenset.sizeOf
  refine wpAny_bind (wpAny_bind (Xo.entries (wpAny_pure ?_)))
  refine wpAny_bind (wpAny_bind (X.entries (wpAny_pure ?_)))
  refine wp_if_neg (by omega) ?_
  refine wpAny_bind (Xo.epoch ?_)
  refine wpAny_bind (wpAny_holding ?_)
  refine wpAny_bind (Xo.walkU0 (fun b hb => by rw [List.mem_singleton.mp hb]; exact ⟨_, _, _, X⟩) fun es2 d2 pm2 => ?_)
  have hl2 : es2.toList.length = eo.size := by rw [pm2.length_eq, Array.length_toList]
  have hh : ∀ (X1 : SX w s.heap o eo epo to), True := fun _ => trivial
  refine wpAny_bind ?_
  refine wpAny_forIn_array' _ (fun rest _ s1 => ∃ h3 es3 ep3 t3 S3, s1 = { s with heap := h3, drawn := d2 } ∧ Heap.SameBut r s.heap h3 ∧ SX w h3 r es3 ep3 t3 ∧ Mem S3 es3 ∧ es3.size ≤ es.size ∧ t3.mask = t.mask ∧ t3.dummies.size + rest.length ≤ eo.size ∧ (∀ e ∈ rest, GoodE e) ∧ (∀ k, (S3 k = true ∧ k ∉ rest.map keyOf) ↔ (S k = true ∧ So k = false)))
    _ ?_ ?_ _ _ ⟨s.heap, es, ep, t, S, rfl, Heap.SameBut.refl r s.heap, X, m, Nat.le_refl _, rfl, by rw [hd, hl2]; simp, fun e he => Xo.good e (pm2.mem_iff.mp he), fun k => by
      have e := mo.perm pm2 k
      cases q : So k with
      | true => rw [q] at e; simp [e.mp rfl]
      | false =>
        rw [q] at e
        have : k ∉ es2.toList.map keyOf := fun z => by have := e.mpr z; cases this
        simp [this]⟩
  · rintro ⟨hh, x⟩ rest u s1 ⟨h3, es3, ep3, t3, S3, rfl, sb3, X3, m3, hc3, hm3, hd3, hg3, hk3⟩
    obtain ⟨k, tk, e1, e2⟩ := hg3 _ (List.mem_cons_self ..)
    dsimp only at e1 e2
    subst e1 e2
    rw [List.length_cons] at hd3
    have hkey : keyOf (hashInt k, Value.int k tk) = k := rfl
    have Xo3 : SX w h3 o eo epo to := Xo.keep fun ob q => by rw [sb3.2 o (Ne.symm hne)]; exact q
    dsimp only
    refine wpAny_bind (wpAny_holding ?_)
    refine discard_at (s := { s with heap := h3, drawn := d2 }) X3 m3 fun b h4 es4 ep4 t4 sb4 X4 m4 hc4 hm4 hd4 => ?_
    unfold Builtin.Frozenset.unchanged
    have Xo4 : SX w h4 o eo epo to := Xo3.keep fun ob q => by rw [sb4.2 o (Ne.symm hne)]; exact q
    refine wpAny_bind (wpAny_bind (SX.epoch (s := { s with heap := h4, drawn := d2 }) Xo4 ?_))
    refine wp_if_neg (by simp) ?_
    refine wpAny_pure (wpAny_pure ?_)
    refine ⟨h4, es4, ep4, t4, _, rfl, sb3.trans sb4, X4, m4, by omega, by omega, by omega, fun e he => hg3 e (List.mem_cons_of_mem _ he), fun j => ?_⟩
    rw [← hk3 j, List.map_cons, hkey]
    simp only [Bool.and_eq_true, Bool.not_eq_true', decide_eq_false_iff_not, List.mem_cons, not_or]
    constructor
    · rintro ⟨⟨z, z2⟩, z3⟩
      exact ⟨z, z2, z3⟩
    · rintro ⟨z, z2, z3⟩
      exact ⟨⟨z, z2⟩, z3⟩
  · rintro u s1 ⟨h3, es3, ep3, t3, S3, rfl, sb3, X3, m3, hc3, hm3, hd3, _, hk3⟩
    refine wpAny_pure ?_
    unfold setTidy
    have e3 : ∀ k, (fun k => S k && !So k) k = S3 k := fun k => by
      have := hk3 k
      rw [List.map_nil] at this
      simp only [List.not_mem_nil, not_false_eq_true, and_true] at this
      cases q1 : S3 k <;> cases q2 : S k <;> cases q3 : So k <;> simp_all
    refine wpAny_bind (SX.state (s := { s with heap := h3, drawn := d2 }) X3 ?_)
    dsimp only
    have hnd : t3.tooManyDummies = false := by
      unfold SetTable.tooManyDummies
      rw [decide_eq_false_iff_not, hm3]
      simp at hd3
      omega
    rw [hnd]
    refine wp_if_neg (by simp) ?_
    exact wpAny_pure (h h3 d2 es3.size sb3 ((X3.setR m3).congr e3) hc3)
/-- a - b -/
theorem sub_at {S So : Int → Bool} {Q : Value → Shared → Prop} (X : SX w s.heap a es ep t) (Xo : SX w s.heap o eo epo to) (hne : a ≠ o) (m : Mem S es) (mo : Mem So eo) (lo : LowS S) (hsz : es.size < 64) (hsz2 : eo.size < 64)
    (h : ∀ h' d c, (∀ b u, s.heap.get? b = some u → h'.get? b = some u) → SetR w h' s.heap.objs.size (fun k => S k && !So k) c → c < 64 → Q (.ref s.heap.objs.size) { s with heap := h', drawn := d }) : wpAny (model P w) A (binaryOp .Sub (.ref a) (.ref o)) Q E s := by
  refine wpAny_binaryOp_same X.typeIs Xo.typeIs PySem.F.fills_set_sub PySem.F.slot_set_sub (wpAny_call_entry PySem.F.slot_set_sub X.typeIs entry_sub ?_ (PySem.F.args_set_sub_2 _ _))
  unfold Builtin.«frozenset.__sub__»
  refine wpAny_bind (m := Builtin.Frozenset.slot1 "__sub__" _) (wpAny_of_eq (a := (.ref a, .ref o)) (by rfl) ?_)
  dsimp only
  refine wpAny_bind ?_
  refine wpAny_bind (X.anySet ?_)
  show wpAny _ _ (Builtin.Frozenset.isAnySet (.ref o)) _ _ _
  refine Xo.anySet ?_
  refine wp_if_neg (by simp) ?_
  unfold Builtin.Frozenset.addrOf
  refine wpAny_bind (wpAny_pure ?_)
  refine wpAny_bind ?_
  show wpAny _ _ (Builtin.Frozenset.difference _ a (.ref o)) _ _ _
  unfold Builtin.Frozenset.difference
  dsimp only
  refine wpAny_bind (Xo.anySet ?_)
  refine wp_if_neg (by simp) ?_
  unfold Builtin.Frozenset.addrOf
  refine wpAny_bind (wpAny_pure ?_)
  refine wp_if_neg (by simp) ?_
  unfold Builtin.Frozenset.sizeOf
  refine wpAny_bind ?_
  refine wpAny_bind (Xo.entries (wpAny_pure ?_))
  refine wpAny_bind (wpAny_bind (X.entries (wpAny_pure ?_)))
  by_cases c : es.size / 4 > eo.size
  · refine wp_if_pos c ?_
    refine wpAny_bind (wpAny_rule ?_)
    refine wpAny_bind (copy_at X m lo hsz fun h1 d1 N1 => ?_)
    obtain ⟨k1, es1, ep1, t1, X1, m1, hc1, hM1, hF1⟩ := N1
    have Xo1 : SX w h1 o eo epo to := Xo.keep fun ob q => k1 _ _ q
    have hpe : es1.size = es.size := by
      have p1 : (es1.toList.map keyOf).Perm (es.toList.map keyOf) := by
        rw [List.perm_ext_iff_of_nodup X1.nd X.nd]
        intro k
        rw [← m1 k, ← m k]
      have := p1.length_eq
      rw [List.length_map, List.length_map, Array.length_toList, Array.length_toList] at this
      exact this
    refine wpAny_bind (wpAny_pure ?_)
    refine wpAny_bind (wpAny_holding ?_)
    refine minus_at (s := { s with heap := h1, drawn := d1 }) X1 Xo1 Xo.ne_new m1 mo (by omega) (by omega) (hF1 trivial) fun h2 d2 c2 sb2 R2 hc2 => ?_
    refine wpAny_pure ?_
    refine wpAny_pure ⟨_, rfl, (fun z => nomatch z), h h2 d2 c2 (fun b u q => ?_) R2 (by omega)⟩
    rw [sb2.2 b (Nat.ne_of_lt (Heap.lt_size q))]
    exact k1 _ _ q
  · refine wp_if_neg c ?_
    refine wpAny_bind (X.base ?_)
    refine wpAny_bind (newSet_at ?_)
    refine wpAny_bind (wpAny_pure ?_)
    have F := fresh_sx (h := s.heap) w
    have X1 := X.push (freshObj w)
    have Xo1 := Xo.push (freshObj w)
    have n1 := X.ne_new
    have n2 := Xo.ne_new
    refine wpAny_bind (SX.epoch (s := { s with heap := s.heap.push (freshObj w) }) X1 ?_)
    refine wpAny_bind (wpAny_holding ?_)
    refine wpAny_bind ?_
    refine wp_if_pos rfl ?_
    refine SX.walkU (s := { s with heap := s.heap.push (freshObj w) }) X1 F (fun b hb => ?_) fun es2 h2 d2 ep2 t2 pm2 sb2 F2 => ?_
    · rcases List.mem_cons.mp hb with z | z
      · rw [z]; exact ⟨_, _, _, Xo1⟩
      · rw [List.mem_singleton.mp z]; exact ⟨_, _, _, F⟩
    have Y2 : SX w h2 a es ep t := X1.keep fun ob q => by rw [sb2.2 a (Ne.symm n1)]; exact q
    have Yo2 : SX w h2 o eo epo to := Xo1.keep fun ob q => by rw [sb2.2 o (Ne.symm n2)]; exact q
    have R2 : SetR w h2 s.heap.objs.size (fun _ => false) 0 := F2.setR (fun k => by simp)
    refine wpAny_bind ?_
    refine pick_loop (s := { s with heap := h2, drawn := d2 }) (p := fun k => !So k) es2 pm2 Y2 n1 m R2 (fun _ => rfl) (by omega) (fun h' => SX w h' o eo epo to) (fun h' sb => Yo2.keep fun ob q => by rw [sb.2 o (Ne.symm n2)]; exact q) (fun k tk s1 Q' S3 c3 G3 X3 R3 hc hq => ?_) fun h3 c3 sb3 R3 hc3 => ?_
    · dsimp only
      have Yr := G3.setR mo
      refine wpAny_bind (wpAny_holding ?_)
      refine wp_if_pos rfl ?_
      refine wpAny_bind (find_at Yr fun r hr => ?_)
      have sc : scanBound = 4096 := rfl
      refine wpAny_bind (wpAny_pure ?_)
      rw [hr]
      cases c : So k with
      | false =>
        refine wp_if_pos rfl ?_
        refine wpAny_bind (setR_add_hashed R3 (by omega) fun h4 sb4 R4 => ?_)
        refine wpAny_pure ?_
        unfold Builtin.Frozenset.unchanged
        have X4 : SX w h4 a es ep t := X3.keep fun ob q => by rw [sb4.2 a (Ne.symm n1)]; exact q
        refine wpAny_bind (wpAny_bind (SX.epoch (s := { s1 with heap := h4 }) X4 ?_))
        refine wp_if_neg (by simp) ?_
        refine wpAny_pure (wpAny_pure ?_)
        refine hq h4 _ sb4 ?_ (R4.congr fun j => ?_)
        · split <;> omega
        · show (S3 j || (decide (j = k) && !So k)) = _
          rw [c]
          simp
      | true =>
        refine wp_if_neg (by simp) ?_
        refine wpAny_pure ?_
        unfold Builtin.Frozenset.unchanged
        refine wpAny_bind (wpAny_bind (X3.epoch ?_))
        refine wp_if_neg (by simp) ?_
        refine wpAny_pure (wpAny_pure ?_)
        refine hq s1.heap c3 (Heap.SameBut.refl _ _) (by omega) (R3.congr fun j => ?_)
        show (S3 j || (decide (j = k) && !So k)) = _
        rw [c]
        simp
    · refine wpAny_pure (wpAny_pure ?_)
      exact wpAny_pure ⟨_, rfl, (fun z => nomatch z), h h3 d2 c3 (keep_new (sb2.trans sb3)) R3 (by omega)⟩
end
end SetT


set_option Elab.async false
set_option linter.all false
set_option maxRecDepth 100000
set_option maxHeartbeats 4000000
/-! set(t), a | b, a & b, a - b over the layer. -/
namespace L2
open PySem PySem.Spec PyProof.Rows
section
variable {X : Cx}
/-- set(t), t a tuple of whole numbers -/
def rSetT (K : PySem.W.Frag) (w : World) : List V → Hp → VK → Prop := fun xs H Q => ∃ (p : Addr) (ns : List Int), xs = [.ref p] ∧ SqT K H p (ns.map V.int) ∧ ns.length < 64 ∧ ∀ q c, H q = none → c ≤ ns.length → Q (.ref q) (upd H q (SetO w q (fun j => decide (j ∈ ns)) c))
theorem cr_setT (hc : X.calm = true) : CallR X (.type "set") (rSetT X.K X.w) := by
  intro pins s σ H xs us Q I r h
  obtain ⟨p, ns, rfl, hs, hl, q⟩ := h
  rw [Vals.ref1 r]
  obtain ⟨its, rv, pt, hz⟩ := I.tuple hs
  have hi : IntsAre its.toArray.toList ns := ints_of_vals rv
  have hd := I.ok.hd hc
  refine call_set_tupI ns hd (show s.heap.IsTuple p its.toArray from pt) hi (by unfold scanBound; omega) fun h' tk c R1 hcn k => ?_
  exact ⟨.ref _, _, I.laid (t' := tk) k (Nat.le_refl _) (setO_new R1), rfl, q _ c (I.hok.fresh (Nat.le_refl _)) hcn⟩
/-- a op b of two sets of small numbers -/
def rSet2 (w : World) (f : Bool → Bool → Bool) : R2 := fun x y H Q => ∃ (a b : Addr) (S So : Int → Bool) (n m : Nat), x = .ref a ∧ y = .ref b ∧ a ≠ b ∧ H a = some (SetO w a S n) ∧ H b = some (SetO w b So m) ∧ SetT.LowS S ∧ SetT.LowS So ∧ n + m < 64 ∧
  ∀ q c, H q = none → c < 64 → Q (.ref q) (upd H q (SetO w q (fun k => f (S k) (So k)) c))
theorem laid_drawn {pins : List (Addr × Obj)} {σ : St} {H : Hp} {s : Shared} (I : Inv X pins σ H s) {h' : Heap} {d : Drawn} {S : Int → Bool} {c : Nat} (k : ∀ b u, s.heap.get? b = some u → h'.get? b = some u) (R : SetR X.w h' s.heap.objs.size S c) :
    Inv X pins σ (upd H s.heap.objs.size (SetO X.w s.heap.objs.size S c)) { s with heap := h', drawn := d } := by
  have hn : H s.heap.objs.size = none := I.hok.fresh (Nat.le_refl _)
  exact I.call (ch := []) (Un.laid k (Nat.le_refl _) hn) (I.hok.laid k (Nat.le_refl _) (setO_new R)) I.bare (fun _ z => nomatch z)
theorem op_setOr : OpR X (binaryOp .BitOr) (rSet2 X.w fun a b => a || b) := by
  intro pins s σ H x y v u Q I rx ry hq
  obtain ⟨a, b, S, So, n, m, rfl, rfl, hne, ha, hb, lo, loo, hz, q⟩ := hq
  cases rx
  cases ry
  obtain ⟨es, ep, t, Y, mY, hn⟩ := SetT.sx_of (setO_get I ha)
  obtain ⟨eo, epo, to, Yo, mYo, hm⟩ := SetT.sx_of (setO_get I hb)
  refine SetT.or_at Y Yo hne mY mYo lo loo (by omega) fun h' d N => ?_
  obtain ⟨k, R⟩ := N
  obtain ⟨c, hc, R2⟩ := R.setR
  exact ⟨.ref _, _, laid_drawn I k R2, rfl, q _ c (I.hok.fresh (Nat.le_refl _)) (by omega)⟩
theorem op_setAnd : OpR X (binaryOp .BitAnd) (rSet2 X.w fun a b => a && b) := by
  intro pins s σ H x y v u Q I rx ry hq
  obtain ⟨a, b, S, So, n, m, rfl, rfl, hne, ha, hb, lo, loo, hz, q⟩ := hq
  cases rx
  cases ry
  obtain ⟨es, ep, t, Y, mY, hn⟩ := SetT.sx_of (setO_get I ha)
  obtain ⟨eo, epo, to, Yo, mYo, hm⟩ := SetT.sx_of (setO_get I hb)
  refine SetT.and_at Y Yo hne mY mYo (by omega) fun h' d c k R2 hc => ?_
  exact ⟨.ref _, _, laid_drawn I k R2, rfl, q _ c (I.hok.fresh (Nat.le_refl _)) hc⟩
theorem op_setSub : OpR X (binaryOp .Sub) (rSet2 X.w fun a b => a && !b) := by
  intro pins s σ H x y v u Q I rx ry hq
  obtain ⟨a, b, S, So, n, m, rfl, rfl, hne, ha, hb, lo, loo, hz, q⟩ := hq
  cases rx
  cases ry
  obtain ⟨es, ep, t, Y, mY, hn⟩ := SetT.sx_of (setO_get I ha)
  obtain ⟨eo, epo, to, Yo, mYo, hm⟩ := SetT.sx_of (setO_get I hb)
  refine SetT.sub_at Y Yo hne mY mYo lo (by omega) (by omega) fun h' d c k R2 hc => ?_
  exact ⟨.ref _, _, laid_drawn I k R2, rfl, q _ c (I.hok.fresh (Nat.le_refl _)) hc⟩
end
end L2


set_option Elab.async false
set_option linter.all false
set_option maxRecDepth 100000
set_option maxHeartbeats 4000000
/-! list(zip(t, u)) of two tuples of one length. -/
namespace ZiL
open PySem PySem.Calls PyProof.Rows PySem.Spec RZ
abbrev IsZf (h : Heap) (z TI TO : Addr) (f0 : Value) (f : Bool) : Prop :=
  h.get? z = some { cls := .type "zip", dict := none, data := .fields #[f0, .bool f, .bool false, .ref TI, .ref TO], slots := #[] }
section
variable {prog : Program} {w : World} {A : Around} {E : Value → Shared → Prop} {s : Shared}
theorem zipA_free {z TI TO T : Addr} {f : Bool} {oT : Obj} {Q : Bool → Shared → Prop} (hz : IsZf s.heap z TI TO (rawInt T) f) (hT : s.heap.get? T = some oT)
    (hQ : ∀ h', IsZf h' z TI TO (rawInt T) true → Heap.SameBut z s.heap h' → Q false { s with heap := h' }) : wpAny (model prog w) A (Builtin.SmallTypes.ownedTupleIsFree (.ref z)) Q E s := by
  unfold Builtin.SmallTypes.ownedTupleIsFree
  refine wpAny_bind (wpAny_field hz rfl (x := rawInt T) rfl ?_)
  show wpAny _ _ (loadIfAlive ((T : Int).toNat) >>= _) _ _ _
  rw [Int.toNat_natCast]
  refine wpAny_bind (PySem.W.kdx_alive hT ?_)
  simp only [Option.isNone_some, Bool.false_eq_true, if_false]
  refine wpAny_bind (wpAny_field hz rfl (x := .bool f) rfl ?_)
  cases f with
  | true =>
    rw [if_neg (show ¬ ((Value.bool true != Value.bool true) = true) from Bool.false_ne_true)]
    exact wpAny_pure (hQ s.heap hz (Heap.SameBut.refl _ _))
  | false =>
    rw [if_pos (show (Value.bool false != Value.bool true) = true from rfl)]
    refine wpAny_bind (wpAny_setField_rec hz (by simp) fun h₃ he₃ hs₃ => ?_)
    exact wpAny_pure (hQ h₃ he₃ hs₃)
theorem zipA_item {z TI TO i1 i2 l1 l2 T : Addr} {f : Bool} {oT : Obj} {k1 k2 : Nat} {xs ys : Array Value} {x y : Value} {Q : Value → Shared → Prop} (D : ZipApart z TI TO i1 i2 l1 l2)
    (hz : IsZf s.heap z TI TO (rawInt T) f) (hT : s.heap.get? T = some oT) (hTI : IsPair s.heap TI (.ref i1) (.ref i2))
    (h1 : s.heap.IsTupleIter i1 l1 k1) (h2 : s.heap.IsTupleIter i2 l2 k2) (hl1 : s.heap.IsTuple l1 xs) (hl2 : s.heap.IsTuple l2 ys) (hx : xs[k1]? = some x) (hy : ys[k2]? = some y)
    (hQ : ∀ h', IsZf h' z TI TO (rawInt T) true → h'.IsTupleIter i1 l1 (k1 + 1) → h'.IsTupleIter i2 l2 (k2 + 1) → IsPair h' s.heap.objs.size x y → h'.objs.size = s.heap.objs.size + 1 →
      (∀ c o, c ≠ z → c ≠ i1 → c ≠ i2 → s.heap.get? c = some o → h'.get? c = some o) → Q (.ref s.heap.objs.size) { s with heap := h' }) :
    wpAny (model prog w) A (Builtin.«zip.__next__» ⟨[.ref z], []⟩) (fun fin s' => ∃ v, fin = .done (.ret v) ∧ Q v s') E s := by
  show wpAny _ _ (field (.ref z) 2 >>= _) _ _ _
  refine wpAny_bind (wpAny_field hz rfl (x := .bool false) rfl ?_)
  show wpAny _ _ (field (.ref z) 3 >>= _) _ _ _
  refine wpAny_bind (wpAny_field hz rfl (x := .ref TI) rfl ?_)
  refine wpAny_bind (wpAny_seqItems hTI rfl ?_)
  show wpAny _ _ (Builtin.SmallTypes.ownedTupleIsFree (.ref z) >>= _) _ _ _
  refine wpAny_bind (zipA_free hz hT fun h₁ hz₁ hs₁ => ?_)
  simp only [Bool.false_eq_true, if_false]
  refine wpAny_bind ?_
  rw [← Array.forIn_toList]
  simp only [List.forIn_cons, List.forIn_nil]
  refine wpAny_bind (wpAny_bind (wpAny_holding ?_))
  show wpAny _ _ (Builtin.SmallTypes.nextOf (.ref i1) >>= _) _ _ _
  refine wpAny_bind (nextOf_tuple_item (h1.extBut hs₁.extBut D.i1z) (hl1.extBut hs₁.extBut D.l1z) hx fun h₂ h1₂ hs₂ => wpAny_pure ?_)
  refine wpAny_pure ?_
  refine wpAny_bind (wpAny_bind (wpAny_holding ?_))
  show wpAny _ _ (Builtin.SmallTypes.nextOf (.ref i2) >>= _) _ _ _
  refine wpAny_bind (nextOf_tuple_item ((h2.extBut hs₁.extBut D.i2z).extBut hs₂.extBut D.i12.symm)
    ((hl2.extBut hs₁.extBut D.l2z).extBut hs₂.extBut D.l2i1) hy fun h₄ h2₄ hs₄ => wpAny_pure ?_)
  refine wpAny_pure (wpAny_pure ?_)
  show wpAny _ _ (newTuple [x, y] >>= _) _ _ _
  refine wpAny_bind (wpAny_newTuple ?_)
  have hsz : h₄.objs.size = s.heap.objs.size := by rw [hs₄.1, hs₂.1, hs₁.1]
  have hz₄ : IsZf h₄ z TI TO (rawInt T) true := hs₄.extBut _ _ D.i2z.symm (hs₂.extBut _ _ D.i1z.symm hz₁)
  refine wpAny_pure ⟨_, rfl, ?_⟩
  show Q (.ref h₄.objs.size) _
  have q := hQ (h₄.push { cls := .type "tuple", data := .seq #[x, y] }) (Heap.get?_push_of_some _ hz₄) ((h1₂.extBut hs₄.extBut D.i12).at fun o e => Heap.get?_push_of_some _ e) (h2₄.at fun o e => Heap.get?_push_of_some _ e) (by rw [← hsz]; exact Heap.get?_push_size _ rfl) (by rw [Heap.size_push, hsz]) fun c o c1 c3 c4 e =>
    Heap.get?_push_of_some _ (hs₄.extBut _ _ c4 (hs₂.extBut _ _ c3 (hs₁.extBut _ _ c1 e)))
  rw [hsz]
  exact q
theorem zipA_end {z TI TO i1 i2 l1 l2 T : Addr} {f : Bool} {oT : Obj} {k1 : Nat} {xs : Array Value} {Q : Fin → Shared → Prop} (hh : A.handled = none) (D : ZipApart z TI TO i1 i2 l1 l2)
    (hz : IsZf s.heap z TI TO (rawInt T) f) (hT : s.heap.get? T = some oT) (hTI : IsPair s.heap TI (.ref i1) (.ref i2))
    (h1 : s.heap.IsTupleIter i1 l1 k1) (hl1 : s.heap.IsTuple l1 xs) (hx : xs[k1]? = none)
    (hE : ∀ h' e, (∀ c o, c ≠ z → c ≠ i1 → s.heap.get? c = some o → h'.get? c = some o) → (∃ o, h'.get? e = some o ∧ o.cls = .type "StopIteration") → E (.ref e) { s with heap := h' }) :
    wpAny (model prog w) A (Builtin.«zip.__next__» ⟨[.ref z], []⟩) Q E s := by
  show wpAny _ _ (field (.ref z) 2 >>= _) _ _ _
  refine wpAny_bind (wpAny_field hz rfl (x := .bool false) rfl ?_)
  show wpAny _ _ (field (.ref z) 3 >>= _) _ _ _
  refine wpAny_bind (wpAny_field hz rfl (x := .ref TI) rfl ?_)
  refine wpAny_bind (wpAny_seqItems hTI rfl ?_)
  show wpAny _ _ (Builtin.SmallTypes.ownedTupleIsFree (.ref z) >>= _) _ _ _
  refine wpAny_bind (zipA_free hz hT fun h₁ hz₁ hs₁ => ?_)
  simp only [Bool.false_eq_true, if_false]
  refine wpAny_bind ?_
  rw [← Array.forIn_toList]
  simp only [List.forIn_cons, List.forIn_nil]
  refine wpAny_bind (wpAny_bind (wpAny_holding ?_))
  show wpAny _ _ (Builtin.SmallTypes.nextOf (.ref i1) >>= _) _ _ _
  refine wpAny_bind (nextOf_tuple_end hh (h1.extBut hs₁.extBut D.i1z) (hl1.extBut hs₁.extBut D.l1z) hx fun h₂ e hs₂ he => ?_)
  exact hE h₂ e (fun c o c1 c3 x => hs₂ _ _ c3 (hs₁.extBut _ _ c1 x)) he
/-- where the walk of the zip stands: i pairs are out -/
def ZS (S : Addr) (h : Heap) (z TI TO i1 i2 l1 l2 : Addr) (i : Nat) : Prop := IsPair h TI (.ref i1) (.ref i2) ∧ h.IsTupleIter i1 l1 i ∧ h.IsTupleIter i2 l2 i ∧
  ((i = 0 ∧ IsZip h z TI TO .none ∧ ∃ a b, IsPair h TO a b) ∨ ∃ (T : Addr) (f : Bool) (oT : Obj), IsZf h z TI TO (rawInt T) f ∧ h.get? T = some oT ∧ T ≠ z ∧ T ≠ TO ∧ T ≠ i1 ∧ T ≠ i2 ∧ T ≠ S)
theorem zs_item {S z TI TO i1 i2 l1 l2 : Addr} {i : Nat} {xs ys : Array Value} {x y : Value} {Q : Option Value → Shared → Prop} (D : ZipApart z TI TO i1 i2 l1 l2) (st : ZS S s.heap z TI TO i1 i2 l1 l2 i)
    (hS : S < s.heap.objs.size) (hl1 : s.heap.IsTuple l1 xs) (hl2 : s.heap.IsTuple l2 ys) (hx : xs[i]? = some x) (hy : ys[i]? = some y)
    (hQ : ∀ h', ZS S h' z TI TO i1 i2 l1 l2 (i + 1) → IsPair h' s.heap.objs.size x y → h'.objs.size = s.heap.objs.size + 1 →
      (∀ c o, c ≠ z → c ≠ TO → c ≠ i1 → c ≠ i2 → s.heap.get? c = some o → h'.get? c = some o) → Q (some (.ref s.heap.objs.size)) { s with heap := h' }) :
    wpAny (model prog w) A (pyNext (.ref z)) Q E s := by
  obtain ⟨hTI, h1, h2, hz⟩ := st
  have n1 : ∀ {c : Addr} {o : Obj}, s.heap.get? c = some o → s.heap.objs.size ≠ c := fun e => Nat.ne_of_gt (Heap.lt_size e)
  obtain ⟨o1, e1, _⟩ := id h1
  obtain ⟨o2, e2, _⟩ := id h2
  rcases hz with ⟨rfl, hz, a, b, hTO⟩ | ⟨T, f, oT, hz, hT, t1, t2, t3, t4, t5⟩
  · refine pyNext_zipT_item D hz hTI hTO h1 h2 hl1 hl2 hx hy fun h' z' TO' h1' h2' hT hsz hk => ?_
    exact hQ h' ⟨hk _ _ D.TIz D.TITO D.TIi1 D.TIi2 hTI, h1', h2', .inr ⟨_, false, _, z', hT, n1 hz, n1 hTO, n1 e1, n1 e2, Nat.ne_of_gt hS⟩⟩ hT hsz hk
  · have hTt : s.TypeIs (.ref z) "zip" := ⟨_, hz, rfl⟩
    unfold pyNext
    refine wpAny_bind (wpAny_attempt (wpAny_callSpecial?_slot (name := Str.ofString "__next__") hTt F.slot_zip_next
      (wpAny_call_entry F.slot_zip_next hTt F.entry_zip_next
        (zipA_item D hz hT hTI h1 h2 hl1 hl2 hx hy fun h' a1 a3 a4 a5 a6 a7 => wpAny_pure ?_) (F.args_zip_next_1 _))))
    exact hQ h' ⟨a7 _ _ D.TIz D.TIi1 D.TIi2 hTI, a3, a4, .inr ⟨T, true, oT, a1, a7 _ _ t1 t3 t4 hT, t1, t2, t3, t4, t5⟩⟩ a5 a6 fun c o c1 _ c3 c4 e => a7 c o c1 c3 c4 e
theorem zs_end {S z TI TO i1 i2 l1 l2 : Addr} {i : Nat} {xs ys : Array Value} {Q : Option Value → Shared → Prop} (hh : A.handled = none) (D : ZipApart z TI TO i1 i2 l1 l2) (st : ZS S s.heap z TI TO i1 i2 l1 l2 i)
    (hl1 : s.heap.IsTuple l1 xs) (hl2 : s.heap.IsTuple l2 ys) (hx : xs[i]? = none)
    (hQ : ∀ h', (∀ c o, c ≠ z → c ≠ TO → c ≠ i1 → c ≠ i2 → s.heap.get? c = some o → h'.get? c = some o) → Q none { s with heap := h' }) :
    wpAny (model prog w) A (pyNext (.ref z)) Q E s := by
  obtain ⟨hTI, h1, h2, hz⟩ := st
  rcases hz with ⟨rfl, hz, a, b, hTO⟩ | ⟨T, f, oT, hz, hT, t1, t2, t3, t4, t5⟩
  · exact pyNext_zipT_end hh D hz hTI hTO h1 h2 hl1 hl2 (.inl hx) hQ
  · have hTt : s.TypeIs (.ref z) "zip" := ⟨_, hz, rfl⟩
    unfold pyNext
    refine wpAny_bind (wpAny_attempt (wpAny_callSpecial?_slot (name := Str.ofString "__next__") hTt F.slot_zip_next
      (wpAny_call_entry F.slot_zip_next hTt F.entry_zip_next (zipA_end hh D hz hT hTI h1 hl1 hx fun h' e hk he => ?_) (F.args_zip_next_1 _))))
    obtain ⟨o, ho, hc⟩ := he
    refine wpAny_bind (wpAny_isInstance (T := "StopIteration") (b := true) ⟨o, ho, hc⟩ isSubtype_stop ?_)
    exact wpAny_pure (hQ _ fun c o c1 _ c3 _ e => hk c o c1 c3 e)
end
end ZiL


set_option Elab.async false
set_option linter.all false
set_option maxRecDepth 100000
set_option maxHeartbeats 4000000
namespace ZiL
open PySem PySem.Calls PyProof.Rows PySem.Spec RZ
theorem lookup_zip_len : typeLookup (.type "zip") "__len__" = pure none := by rw [typeLookup_type, builtinLookup_eq_fast]; kernel_rfl
theorem lookup_zip_hint : typeLookup (.type "zip") "__length_hint__" = pure none := by rw [typeLookup_type, builtinLookup_eq_fast]; kernel_rfl
end ZiL


set_option Elab.async false
set_option linter.all false
set_option maxRecDepth 100000
set_option maxHeartbeats 4000000
namespace ZiL
open PySem PySem.Calls PyProof.Rows PySem.Spec RZ
/-- pairs made, at rising places behind lo -/
structure PG (xs ys : Array Value) (lo : Addr) (h : Heap) (as : List Addr) : Prop where
  rise : as.Pairwise (· < ·)
  above : ∀ a ∈ as, lo < a
  pairs : ∀ (j : Nat) (a : Addr), as[j]? = some a → ∃ x y, xs[j]? = some x ∧ ys[j]? = some y ∧ IsPair h a x y
theorem PG.there {xs ys : Array Value} {lo : Addr} {h : Heap} {as : List Addr} (g : PG xs ys lo h as) {a : Addr} (ha : a ∈ as) : a < h.objs.size := by
  obtain ⟨j, hj⟩ := List.mem_iff_getElem?.mp ha
  obtain ⟨_, _, _, _, e⟩ := g.pairs j a hj
  exact Heap.lt_size e
theorem ZS.keep {h h' : Heap} {z TI TO i1 i2 l1 l2 : Addr} {i : Nat} {S : Addr} (st : ZS S h z TI TO i1 i2 l1 l2 i) (up : ∀ b o, b ≠ S → h.get? b = some o → h'.get? b = some o) (hS : S ≠ z ∧ S ≠ TI ∧ S ≠ TO ∧ S ≠ i1 ∧ S ≠ i2) : ZS S h' z TI TO i1 i2 l1 l2 i := by
  obtain ⟨hTI, h1, h2, hz⟩ := st
  obtain ⟨s1, s2, s3, s4, s5⟩ := hS
  refine ⟨up _ _ (Ne.symm s2) hTI, h1.at fun o e => up _ o (Ne.symm s4) e, h2.at fun o e => up _ o (Ne.symm s5) e, ?_⟩
  rcases hz with ⟨e, hz, a, b, hTO⟩ | ⟨T, f, oT, hz, hT', t1, t2, t3, t4, t5⟩
  · exact .inl ⟨e, up _ _ (Ne.symm s1) hz, a, b, up _ _ (Ne.symm s3) hTO⟩
  · exact .inr ⟨T, f, oT, up _ _ (Ne.symm s1) hz, up _ _ t5 hT', t1, t2, t3, t4, t5⟩
section
variable {prog : Program} {w : World} {A : Around} {E : Value → Shared → Prop} {s : Shared} {R : Result → Shared → Prop} {xs ys : Array Value}
theorem zip_loop {S z TI TO i1 i2 l1 l2 : Addr} (hh : A.handled = none) (D : ZipApart z TI TO i1 i2 l1 l2) (hS : S ≠ z ∧ S ≠ TI ∧ S ≠ TO ∧ S ≠ i1 ∧ S ≠ i2) (hS1 : l1 ≠ S) (hS2 : l2 ≠ S) {lo0 : Addr} (hlt : z < lo0 ∧ TO < lo0 ∧ i1 < lo0 ∧ i2 < lo0)
    (hn : xs.size ≤ sizeLine) (hxy : xs.size = ys.size) (res : Value) {h₁ : Heap}
    (hR : ∀ h' tk acc c as, (∀ b o, b ≠ S → b ≠ z → b ≠ TO → b ≠ i1 → b ≠ i2 → h₁.get? b = some o → h'.get? b = some o) → h'.get? S = some { cls := .type "list", dict := none, data := .seq acc c, slots := #[] } → as.length = xs.size → PG xs ys S h' as →
      acc.toList = as.map Value.ref → R (.ok (.ret res)) { s with heap := h', toks := tk }) :
    ∀ (k i : Nat) (h : Heap) (tk c : Nat) (acc : Array Value) (as : List Addr), xs.size - i = k → i ≤ xs.size → ZS S h z TI TO i1 i2 l1 l2 i → h.IsTuple l1 xs → h.IsTuple l2 ys → (∀ b o, b ≠ S → b ≠ z → b ≠ TO → b ≠ i1 → b ≠ i2 → h₁.get? b = some o → h.get? b = some o) →
      h.get? S = some { cls := .type "list", dict := none, data := .seq acc c, slots := #[] } → acc.toList = as.map Value.ref → as.length = i → PG xs ys S h as → (∀ a ∈ as, lo0 ≤ a) → lo0 ≤ h.objs.size →
      codeAny (model prog w) A (.builtin "list.extend.loop" ⟨[.ref S, .ref z, res], []⟩) R { s with heap := h, toks := tk } := by
  obtain ⟨s1, s2, s3, s4, s5⟩ := hS
  intro k
  induction k with
  | zero =>
    intro i h tk c acc as hk hi hst hl1 hl2 hkeep hSl hacc hal hG hlo hsz
    have hin : i = xs.size := by omega
    refine codeAny_builtin PySem.F.entry_extend_loop ?_
    rw [Around.under_plainId PySem.F.plain_extend_loop _]
    show wpAny _ A.in1 (pyNext (.ref z) >>= _) _ _ _
    refine wpAny_bind (zs_end (s := { s with heap := h, toks := tk }) (A := A.in1) hh D hst hl1 hl2 (Array.getElem?_eq_none (by omega)) fun h' he => ?_)
    have hge : ∀ a ∈ as, a ≠ z ∧ a ≠ TO ∧ a ≠ i1 ∧ a ≠ i2 := fun a ha => by
      have := hlo a ha
      obtain ⟨q1, q2, q3, q4⟩ := hlt
      exact ⟨fun e => absurd (Nat.lt_of_lt_of_le q1 (e ▸ this)) (Nat.lt_irrefl _), fun e => absurd (Nat.lt_of_lt_of_le q2 (e ▸ this)) (Nat.lt_irrefl _), fun e => absurd (Nat.lt_of_lt_of_le q3 (e ▸ this)) (Nat.lt_irrefl _), fun e => absurd (Nat.lt_of_lt_of_le q4 (e ▸ this)) (Nat.lt_irrefl _)⟩
    refine wpAny_pure (hR h' tk acc c as (fun b o b0 b1 b2 b3 b4 e => he b o b1 b2 b3 b4 (hkeep b o b0 b1 b2 b3 b4 e)) (he S _ s1 s3 s4 s5 hSl) (by omega) ⟨hG.rise, hG.above, fun j a hj => ?_⟩ hacc)
    obtain ⟨x, y, e1, e2, e3⟩ := hG.pairs j a hj
    obtain ⟨q1, q2, q3, q4⟩ := hge a (List.mem_of_getElem? hj)
    exact ⟨x, y, e1, e2, he a _ q1 q2 q3 q4 e3⟩
  | succ k ih =>
    intro i h tk c acc as hk hi hst hl1 hl2 hkeep hSl hacc hal hG hlo hsz0
    have hlt2 : i < xs.size := by omega
    have hx : xs[i]? = some xs[i] := Array.getElem?_eq_getElem hlt2
    have hy : ys[i]? = some (ys[i]'(by omega)) := Array.getElem?_eq_getElem (by omega)
    generalize xs[i] = x at hx
    generalize (ys[i]'(by omega)) = y at hy
    have hsz : acc.size = i := by rw [← Array.length_toList, hacc, List.length_map, hal]
    refine codeAny_builtin PySem.F.entry_extend_loop ?_
    rw [Around.under_plainId PySem.F.plain_extend_loop _]
    show wpAny _ A.in1 (pyNext (.ref z) >>= _) _ _ _
    refine wpAny_bind (zs_item (s := { s with heap := h, toks := tk }) D hst (Heap.lt_size hSl) hl1 hl2 hx hy fun h' hst' ht hz hkp => ?_)
    dsimp only at ht hz hkp ⊢
    have hSl' := hkp S _ s1 s3 s4 s5 hSl
    have up : ∀ b o, b ≠ S → h'.get? b = some o → (h'.update S (Obj.mapSeq (·.push (Value.ref h.objs.size)))).get? b = some o := fun b o hb e => (Heap.get?_update_other _ _ (Ne.symm hb)).trans e
    have hSlt : S < h.objs.size := Heap.lt_size hSl
    show wpAny _ A.in1 (updateSeq S (·.push (Value.ref h.objs.size)) >>= _) _ _ _
    refine wpAny_bind ?_
    have hge : ∀ a, lo0 ≤ a → a ≠ z ∧ a ≠ TO ∧ a ≠ i1 ∧ a ≠ i2 := fun a this => by
      obtain ⟨q1, q2, q3, q4⟩ := hlt
      exact ⟨fun e => absurd (Nat.lt_of_lt_of_le q1 (e ▸ this)) (Nat.lt_irrefl _), fun e => absurd (Nat.lt_of_lt_of_le q2 (e ▸ this)) (Nat.lt_irrefl _), fun e => absurd (Nat.lt_of_lt_of_le q3 (e ▸ this)) (Nat.lt_irrefl _), fun e => absurd (Nat.lt_of_lt_of_le q4 (e ▸ this)) (Nat.lt_irrefl _)⟩
    have tup : ∀ {l : Addr} {vs : Array Value}, l ≠ S → l ≠ z → l ≠ TO → l ≠ i1 → l ≠ i2 → h.IsTuple l vs → (h'.update S (Obj.mapSeq (·.push (Value.ref h.objs.size)))).IsTuple l vs := fun n0 n1 n2 n3 n4 ⟨o, ho, q⟩ => ⟨o, up _ _ n0 (hkp _ _ n1 n2 n3 n4 ho), q⟩
    refine wpAny_updateSeq hSl' rfl (wpAny_pure ⟨plainId_quiet PySem.F.plain_extend_loop _, ih (i + 1) _ tk _ (acc.push (Value.ref h.objs.size)) (as ++ [h.objs.size]) (by omega) hlt2 (hst'.keep up ⟨s1, s2, s3, s4, s5⟩) (tup hS1 D.l1z D.l1TO D.l1i1 D.l1i2 hl1) (tup hS2 D.l2z D.l2TO D.l2i1 D.l2i2 hl2)
      (fun b o b0 b1 b2 b3 b4 e => up b o b0 (hkp b o b1 b2 b3 b4 (hkeep b o b0 b1 b2 b3 b4 e))) (Heap.get?_update_self _ hSl' rfl) (by rw [Array.toList_push, hacc, List.map_append]; rfl) (by rw [List.length_append, hal]; rfl) ⟨?_, ?_, ?_⟩ (fun a ha => ?_) ?_⟩) (by rw [hsz]; omega) (by show (acc.push (Value.ref h.objs.size)).size ≤ sizeLine + 1; rw [Array.size_push]; omega)
    · refine List.pairwise_append.mpr ⟨hG.rise, List.pairwise_singleton _ _, fun a ha b hb => ?_⟩
      rw [List.mem_singleton.mp hb]
      exact hG.there ha
    · intro a ha
      rcases List.mem_append.mp ha with ha | ha
      · exact hG.above a ha
      · rw [List.mem_singleton.mp ha]; exact hSlt
    · intro j b hj
      rcases Nat.lt_trichotomy j as.length with h1 | h1 | h1
      · rw [List.getElem?_append_left h1] at hj
        obtain ⟨x', y', e1, e2, e3⟩ := hG.pairs j b hj
        have hb := hG.above b (List.mem_of_getElem? hj)
        obtain ⟨q1, q2, q3, q4⟩ := hge b (hlo b (List.mem_of_getElem? hj))
        exact ⟨x', y', e1, e2, up b _ (Nat.ne_of_gt hb) (hkp b _ q1 q2 q3 q4 e3)⟩
      · subst h1
        have hb : h.objs.size = b := by simpa using hj
        subst hb
        exact ⟨x, y, by rw [hal]; exact hx, by rw [hal]; exact hy, up _ _ (Nat.ne_of_gt hSlt) ht⟩
      · have hnone : (as ++ [h.objs.size])[j]? = none := List.getElem?_eq_none (by rw [List.length_append, List.length_singleton]; omega)
        rw [hnone] at hj; cases hj
    · rcases List.mem_append.mp ha with ha | ha
      · exact hlo a ha
      · rw [List.mem_singleton.mp ha]; exact hsz0
    · have e : (h'.update S (Obj.mapSeq (·.push (Value.ref h.objs.size)))).get? h.objs.size = _ := up _ _ (Nat.ne_of_gt hSlt) ht
      exact Nat.le_trans hsz0 (Nat.le_of_lt (Heap.lt_size e))

theorem zip_hint {z : Addr} {Q : Bool → Shared → Prop} (hT : s.TypeIs (.ref z) "zip") (h : Q true s) : wpAny (model prog w) A (Builtin.List.listLengthHint (.ref z)) Q E s := by
  unfold Builtin.List.listLengthHint
  refine wpAny_bind (wpAny_specialOf hT lookup_zip_len ?_)
  dsimp only
  refine wpAny_ite_split (fun hab => absurd hab (by decide)) (fun _ => ?_)
  refine wpAny_ite_split (fun hab => absurd hab (by decide)) (fun _ => ?_)
  refine wpAny_bind (wpAny_specialOf hT lookup_zip_hint ?_)
  exact wpAny_pure h
theorem zip_extend {S z TI TO i1 i2 l1 l2 : Addr} (hh : A.handled = none) (D : ZipApart z TI TO i1 i2 l1 l2) (hS : S ≠ z ∧ S ≠ TI ∧ S ≠ TO ∧ S ≠ i1 ∧ S ≠ i2) (hS1 : l1 ≠ S) (hS2 : l2 ≠ S)
    (hlt : z < s.heap.objs.size ∧ TO < s.heap.objs.size ∧ i1 < s.heap.objs.size ∧ i2 < s.heap.objs.size) (st : ZS S s.heap z TI TO i1 i2 l1 l2 0) (hz : IsZip s.heap z TI TO .none) (hl1 : s.heap.IsTuple l1 xs) (hl2 : s.heap.IsTuple l2 ys)
    (hn : xs.size ≤ sizeLine) (hxy : xs.size = ys.size) (res : Value) (c₀ : Nat) (hSl : s.heap.get? S = some { cls := .type "list", data := .seq #[] c₀ })
    (hR : ∀ h' tk acc c as, (∀ b o, b ≠ S → b ≠ z → b ≠ TO → b ≠ i1 → b ≠ i2 → s.heap.get? b = some o → h'.get? b = some o) → h'.get? S = some { cls := .type "list", dict := none, data := .seq acc c, slots := #[] } → as.length = xs.size → PG xs ys S h' as →
      acc.toList = as.map Value.ref → R (.ok (.ret res)) { s with heap := h', toks := tk }) :
    wpAny (model prog w) A.in1 (Builtin.List.listExtendWith (.ref S) (.ref z) res)
      (fun fin s' => match fin with | .done f => R (.ok f) s' | .again c' => c'.quiet = true ∧ codeAny (model prog w) A c' R s') (fun e s' => R (.error e) s') s := by
  have key : ∀ (h : Heap) (c₁ tk : Nat), (∀ b o, b ≠ S → s.heap.get? b = some o → h.get? b = some o) → s.heap.objs.size ≤ h.objs.size →
      h.get? S = some { cls := .type "list", data := .seq #[] c₁ } → codeAny (model prog w) A (.builtin "list.extend.loop" ⟨[.ref S, .ref z, res], []⟩) R { s with heap := h, toks := tk } := by
    intro h c₁ tk hk hsz hS₁
    refine zip_loop (s := s) (h₁ := s.heap) (lo0 := s.heap.objs.size) hh D hS hS1 hS2 hlt hn hxy res (fun h' tk' acc c as hk' hS' hl hG hacc => hR h' tk' acc c as hk' hS' hl hG hacc)
      xs.size 0 h tk c₁ #[] [] (Nat.sub_zero _) (Nat.zero_le _) (st.keep hk hS) ?_ ?_ (fun b o hb _ _ _ _ e => hk b o hb e) hS₁ rfl rfl
      ⟨List.Pairwise.nil, (fun _ ha => nomatch ha), (fun j a hj => by simp at hj)⟩ (fun a ha => nomatch ha) hsz
    · obtain ⟨o, ho, q⟩ := hl1
      exact ⟨o, hk _ _ hS1 ho, q⟩
    · obtain ⟨o, ho, q⟩ := hl2
      exact ⟨o, hk _ _ hS2 ho, q⟩
  unfold Builtin.List.listExtendWith
  have hT : s.TypeIs (.ref z) "zip" := ⟨_, hz, rfl⟩
  refine wpAny_bind (wpAny_typeOf (T := "zip") hT ?_)
  have h1 : Builtin.List.listSameRef (.ref S) (.ref z) = false := by simp [Builtin.List.listSameRef, hS.1]
  have h2 : (Value.type "zip" == Value.type "list") = false := by decide
  have h3 : (Value.type "zip" == Value.type "tuple") = false := by decide
  simp only [h1, h2, h3, Bool.or_false, Bool.false_eq_true, if_false]
  refine wpAny_bind (wpAny_pyIter_zip hz ?_)
  refine wpAny_bind (wpAny_holding (zip_hint hT ?_))
  refine wpAny_ite_split (fun _ => ?_) (fun _ => wpAny_pure ⟨plainId_quiet PySem.F.plain_extend_loop _, key _ c₀ _ (fun b o _ e => e) (Nat.le_refl _) hSl⟩)
  refine wpAny_bind (wpAny_rule ?_)
  refine wpAny_bind ?_
  show wpAny _ _ (updateSeq S (·.push .none) >>= fun _ => updateSeq S (·.pop)) _ _ _
  refine wpAny_bind (wpAny_updateSeq hSl rfl ?_)
  have hS₂ := Heap.get?_update_self (Obj.mapSeq (·.push Value.none)) hSl rfl
  refine wpAny_updateSeq (hz := by seq_fits) hS₂ rfl ?_
  have hS₃ := Heap.get?_update_self (Obj.mapSeq (·.pop)) hS₂ rfl
  refine wpAny_pure ⟨plainId_quiet PySem.F.plain_extend_loop _, key _ _ _ (fun b o hb e => ?_) ?_ hS₃⟩
  · exact (Heap.get?_update_other _ _ (Ne.symm hb)).trans ((Heap.get?_update_other _ _ (Ne.symm hb)).trans e)
  · exact Nat.le_of_eq (by rw [(Heap.SameBut.update _ _ _).1, (Heap.SameBut.update _ _ _).1])
/-- list(zip(t, u)) : the list's making -/
theorem call_list_zip {Q : Value → Shared → Prop} (hh : A.handled = none) {z TI TO i1 i2 l1 l2 : Addr} (D : ZipApart z TI TO i1 i2 l1 l2) (hz : IsZip s.heap z TI TO .none) (hTI : IsPair s.heap TI (.ref i1) (.ref i2)) (hTO : ∃ a b, IsPair s.heap TO a b)
    (h1 : s.heap.IsTupleIter i1 l1 0) (h2 : s.heap.IsTupleIter i2 l2 0) (hl1 : s.heap.IsTuple l1 xs) (hl2 : s.heap.IsTuple l2 ys) (hn : xs.size ≤ sizeLine) (hxy : xs.size = ys.size)
    (hQ : ∀ h' tk acc c as, (∀ b o, b ≠ z → b ≠ TO → b ≠ i1 → b ≠ i2 → s.heap.get? b = some o → h'.get? b = some o) → h'.get? s.heap.objs.size = some { cls := .type "list", dict := none, data := .seq acc c, slots := #[] } → as.length = xs.size → PG xs ys s.heap.objs.size h' as →
      acc.toList = as.map Value.ref → Q (.ref s.heap.objs.size) { s with heap := h', toks := tk }) :
    wpAny (model prog w) A (call (.type "list") [.ref z]) Q E s := by
  refine callType_codes (Q₁ := fun obj s₁ => obj = .ref s.heap.objs.size ∧ s₁ = { s with heap := s.heap.push { cls := .type "list", data := .seq #[] } }) PySem.F.called_list (PySem.F.typeCall_list_1 _) PySem.F.entry_list_init
    (code_list_new _ ⟨rfl, rfl⟩) fun obj s₁ h₁ => ?_
  obtain ⟨rfl, rfl⟩ := h₁
  have hS : (s.heap.push { cls := .type "list", data := .seq #[] }).get? s.heap.objs.size = some { cls := .type "list", data := .seq #[] } := Heap.get?_push_size _ rfl
  have lt : ∀ {b : Addr} {o : Obj}, s.heap.get? b = some o → b < s.heap.objs.size := fun e => Heap.lt_size e
  obtain ⟨a0, b0, hTO⟩ := hTO
  obtain ⟨o1, e1, q1⟩ := id h1
  obtain ⟨o2, e2, q2⟩ := id h2
  obtain ⟨ol1, el1, ql1⟩ := id hl1
  obtain ⟨ol2, el2, ql2⟩ := id hl2
  refine ⟨⟨_, hS, rfl⟩, PySem.F.args_list_init_2 _ _, ?_⟩
  show wpAny _ _ (do let old ← Builtin.List.listItems (.ref s.heap.objs.size); Builtin.List.listUpdate (.ref s.heap.objs.size) (fun _ => #[]); letGo old.toList.reverse; Builtin.List.listExtendWith (.ref s.heap.objs.size) (.ref z) .none) _ _ _
  refine wpAny_bind ?_
  unfold Builtin.List.listItems
  refine wpAny_bind (wpAny_seqItems hS rfl (wpAny_pure ?_))
  show wpAny _ _ (updateSeq s.heap.objs.size (fun _ => #[]) >>= fun _ => letGo (#[] : Array Value).toList.reverse >>= fun _ => Builtin.List.listExtendWith (.ref s.heap.objs.size) (.ref z) .none) _ _ _
  refine wpAny_bind (wpAny_updateSeq hS rfl ?_)
  have hS₂ := Heap.get?_update_self (Obj.mapSeq (fun _ => (#[] : Array Value))) hS rfl
  have oth : ∀ b o, s.heap.get? b = some o → ((s.heap.push { cls := .type "list", data := .seq #[] }).update s.heap.objs.size (Obj.mapSeq (fun _ => (#[] : Array Value)))).get? b = some o :=
    fun b o e => (Heap.get?_update_other _ _ (Nat.ne_of_gt (lt e))).trans (Heap.get?_push_of_some _ e)
  have hsz : s.heap.objs.size < ((s.heap.push { cls := .type "list", data := .seq #[] }).update s.heap.objs.size (Obj.mapSeq (fun _ => (#[] : Array Value)))).objs.size := Heap.lt_size hS₂
  refine wpAny_bind (wpAny_letGo ?_)
  refine zip_extend (A := A.in1) (R := wants (fun r s₂ => r = Value.none ∧ Q (Value.ref s.heap.objs.size) s₂) E) (s := { s with heap := (s.heap.push { cls := .type "list", data := .seq #[] }).update s.heap.objs.size (Obj.mapSeq (fun _ => (#[] : Array Value))) }) (TI := TI) (TO := TO) (i1 := i1) (i2 := i2) (l1 := l1) (l2 := l2) (xs := xs) (ys := ys) hh D ⟨Nat.ne_of_gt (lt hz), Nat.ne_of_gt (lt hTI), Nat.ne_of_gt (lt hTO), Nat.ne_of_gt (lt e1), Nat.ne_of_gt (lt e2)⟩ (Nat.ne_of_lt (lt el1)) (Nat.ne_of_lt (lt el2))
    ⟨Nat.lt_trans (lt hz) hsz, Nat.lt_trans (lt hTO) hsz, Nat.lt_trans (lt e1) hsz, Nat.lt_trans (lt e2) hsz⟩ ⟨oth _ _ hTI, ⟨o1, oth _ _ e1, q1⟩, ⟨o2, oth _ _ e2, q2⟩, .inl ⟨rfl, oth _ _ hz, a0, b0, oth _ _ hTO⟩⟩ (oth _ _ hz) ⟨ol1, oth _ _ el1, ql1⟩ ⟨ol2, oth _ _ el2, ql2⟩ hn hxy .none _ hS₂ (fun h' tk acc c as hk hS' hl hG hacc => ?_)
  exact ⟨rfl, hQ h' tk acc c as (fun b o b1 b2 b3 b4 e => hk b o (Nat.ne_of_lt (lt e)) b1 b2 b3 b4 (oth b o e)) hS' hl hG hacc⟩
end
end ZiL


set_option Elab.async false
set_option linter.all false
set_option maxRecDepth 100000
set_option maxHeartbeats 4000000
/-! list(zip(t, u)) over the layer. -/
namespace L2
open PySem PySem.Spec PyProof.Rows
/-- tuples at as, tracked -/
def putP : Hp → List Addr → List (V × V) → Hp
  | H, a :: as, p :: ps => putP (upd H a (.tup [p.1, p.2])) as ps
  | H, _, _ => H
theorem putP_off {b : Addr} : ∀ (as : List Addr) (ps : List (V × V)) (H : Hp), b ∉ as → putP H as ps b = H b
  | [], _, _, _ => rfl
  | _ :: _, [], _, _ => rfl
  | a :: as, p :: ps, H, h => by
    show putP (upd H a (.tup [p.1, p.2])) as ps b = H b
    rw [putP_off as ps _ (fun z => h (List.mem_cons_of_mem _ z)), upd_ne (fun z => h (by rw [z]; exact List.mem_cons_self))]
theorem putP_at : ∀ (as : List Addr) (ps : List (V × V)) (H : Hp), as.length = ps.length → as.Nodup → ∀ (i : Nat) (a : Addr) (p : V × V), as[i]? = some a → ps[i]? = some p → putP H as ps a = some (.tup [p.1, p.2])
  | [], _, _, _, _, i, a, p, h, _ => by simp at h
  | _ :: _, [], _, h, _, _, _, _, _, _ => by simp at h
  | a :: as, p :: ps, H, hl, hn, 0, b, q, h1, h2 => by
    cases h1
    cases h2
    have hn' := List.nodup_cons.mp hn
    show putP (upd H a (.tup [p.1, p.2])) as ps a = some (.tup [p.1, p.2])
    rw [putP_off as ps _ hn'.1, upd_same]
  | a :: as, p :: ps, H, hl, hn, i + 1, b, q, h1, h2 => putP_at as ps _ (Nat.succ.inj hl) (List.nodup_cons.mp hn).2 i b q h1 h2
theorem vals_refs2 : ∀ as : List Addr, Vals (as.map V.ref) (as.map Value.ref)
  | [] => .nil
  | _ :: as => .cons rfl (vals_refs2 as)
/-- list(zip(e, e2)), both tuples of one length -/
def tLstZip (K : PySem.W.Frag) (ta : TA) : TE := fun σ H Q => ta σ H fun vs H1 => ∃ (a b : Addr) (xs ys : List V), vs = [.ref a, .ref b] ∧ SqT K H1 a xs ∧ SqT K H1 b ys ∧ xs.length = ys.length ∧
  ∀ (H' : Hp) (p : Addr) (ts : List Addr), (∀ b o, H1 b = some o → H' b = some o) → H1 p = none → ts.length = xs.length → H' p = some (.lst (ts.map V.ref)) →
    (∀ (i : Nat) (t : Addr) (x y : V), ts[i]? = some t → xs[i]? = some x → ys[i]? = some y → H' t = some (.tup [x, y])) → Q (.ref p) H'
section
variable {X : Cx} {e e2 : Expr} {ta : TA} {p p2 pos pos2 : Pos}
theorem zip_laid {pins : List (Addr × Obj)} {σ : L2.St} {H : Hp} {s : Shared} {h' : Heap} {tk S : Nat} {xs ys : List V} {us us2 : List Value} {acc : Array Value} {c : Nat} {as : List Addr} (I : Inv X pins σ H s) (hz : xs.length ≤ sizeLine) (hxy : xs.length = ys.length) (rx : Vals xs us) (ry : Vals ys us2)
    (hk : ∀ b o, s.heap.get? b = some o → h'.get? b = some o) (hSs : s.heap.objs.size ≤ S) (hS : h'.get? S = some { cls := .type "list", dict := none, data := .seq acc c, slots := #[] }) (hl : as.length = xs.length) (hG : ZiL.PG us.toArray us2.toArray S h' as) (hacc : acc.toList = as.map Value.ref) :
    ∃ H' : Hp, (∀ b o, H b = some o → H' b = some o) ∧ H S = none ∧ H' S = some (.lst (as.map V.ref)) ∧ (∀ (i : Nat) (t : Addr) (x y : V), as[i]? = some t → xs[i]? = some x → ys[i]? = some y → H' t = some (.tup [x, y])) ∧ Inv X pins σ H' { s with heap := h', toks := tk } := by
  have hSn : S ∉ as := fun z => Nat.lt_irrefl _ (hG.above _ z)
  have nd : as.Nodup := List.Pairwise.imp (fun {a b} (h : a < b) => Nat.ne_of_lt h) hG.rise
  have new : ∀ t ∈ as, H t = none := fun t ht => I.hok.fresh (Nat.le_of_lt (Nat.lt_of_le_of_lt hSs (hG.above t ht)))
  have newS : H S = none := I.hok.fresh hSs
  have lz : as.length = (xs.zip ys).length := by rw [List.length_zip]; omega
  have atP := putP_at as (xs.zip ys) (upd H S (.lst (as.map V.ref))) lz nd
  have off : ∀ b, b ∉ as → b ≠ S → putP (upd H S (.lst (as.map V.ref))) as (xs.zip ys) b = H b := fun b h1 h2 => by rw [putP_off as _ _ h1, upd_ne h2]
  have low : ∀ b o, s.heap.get? b = some o → b ∉ as ∧ b ≠ S := fun b o e => ⟨fun z => absurd (Heap.lt_size e) (Nat.not_lt.mpr (Nat.le_of_lt (Nat.lt_of_le_of_lt hSs (hG.above b z)))), Nat.ne_of_lt (Nat.lt_of_lt_of_le (Heap.lt_size e) hSs)⟩
  have kp : ∀ b u, H b = some u → (putP (upd H S (.lst (as.map V.ref))) as (xs.zip ys)) b = some u := fun b u e => by
    rw [off b (fun z => by rw [new b z] at e; cases e) (fun z => by rw [z, newS] at e; cases e)]
    exact e
  have eS : putP (upd H S (.lst (as.map V.ref))) as (xs.zip ys) S = some (.lst (as.map V.ref)) := by rw [putP_off as _ _ hSn, upd_same]
  have pz : ∀ (i : Nat) (x y : V), xs[i]? = some x → ys[i]? = some y → (xs.zip ys)[i]? = some (x, y) := fun i x y h1 h2 => by rw [List.getElem?_zip_eq_some]; exact ⟨h1, h2⟩
  refine ⟨putP (upd H S (.lst (as.map V.ref))) as (xs.zip ys), kp, newS, eS, fun i t x y h1 h2 h3 => atP i t (x, y) h1 (pz i x y h2 h3), ?_⟩
  refine I.call' (ch := []) rfl ⟨fun b o q _ _ _ => hk b o q, fun b o q _ _ _ => ⟨o.slots, hk b o q⟩, fun b o q n _ => ?_, fun b o q _ => ⟨o, hk b o q⟩, fun b xs q => kp b _ q, fun b o u q => kp b _ q, fun b ps q => ⟨#[], by rw [kp b _ q]; simp⟩⟩ (fun b u q => ?_) I.bare fun b z => by simp at z
  · obtain ⟨z1, z2⟩ := low b o q
    rw [off b z1 z2]
    exact n
  · by_cases hb : b ∈ as
    · obtain ⟨j, e1⟩ := List.mem_iff_getElem?.mp hb
      obtain ⟨x', y', f1, f2, f3⟩ := hG.pairs j b e1
      have hj : j < xs.length := by rw [← hl]; exact (List.getElem?_eq_some_iff.mp e1).1
      have hx : xs[j]? = some xs[j] := List.getElem?_eq_getElem hj
      have hy : ys[j]? = some (ys[j]'(by omega)) := List.getElem?_eq_getElem (by omega)
      have e3 := atP j b _ e1 (pz j _ _ hx hy)
      rw [e3] at q
      cases q
      obtain ⟨u1, g1, r1⟩ := rx.get hx
      obtain ⟨u2, g2, r2⟩ := ry.get hy
      have ex : u1 = x' := by
        have : us.toArray[j]? = some u1 := by simpa using g1
        rw [f1] at this
        exact (Option.some.inj this).symm
      have ey : u2 = y' := by
        have : us2.toArray[j]? = some u2 := by simpa using g2
        rw [f2] at this
        exact (Option.some.inj this).symm
      subst ex ey
      exact ⟨by show 2 ≤ sizeLine; decide, [u1, u2], .cons r1 (.cons r2 .nil), ⟨_, f3, rfl, _, rfl⟩⟩
    · by_cases hb2 : b = S
      · rw [hb2] at q ⊢
        rw [eS] at q
        cases q
        refine ⟨by rw [List.length_map]; omega, acc.toList, c, by rw [hacc]; exact vals_refs2 as, ?_⟩
        rw [Array.toArray_toList]
        exact hS
      · rw [off b hb hb2] at q
        exact (I.hok b u q).stay (fun d v _ y => hk d v y) (fun d y => kp d _ y) fun d xs y => kp d _ y
theorem pe_lstZip (hc : X.calm = true) (hgl : Gl X "list") (hml : X.mg "list" = none) (hvl : bootBuiltins "list" = some (.type "list")) (hg : Gl X "zip") (hm : X.mg "zip" = none) (ha : PA X [e, e2] ta)
    (hs : starEach [e, e2] X.env = (false, eval e X.env) :: starEach [e2] X.env := by rfl) (hpl : (backTo pos (starEach [e2] X.env)).any (·.1) = false := by rfl)
    (hs2 : starEach [.Call (.Name "zip" p) [e, e2] [] pos] X.env = (false, eval (.Call (.Name "zip" p) [e, e2] [] pos) X.env) :: starEach [] X.env := by rfl) :
    PE X (.Call (.Name "list" p2) [.Call (.Name "zip" p) [e, e2] [] pos] [] pos2) (tLstZip X.K ta) := by
  refine ⟨fun pins s σ H Q I h => ?_⟩
  refine wpAny_Call_Name_kw (ld_blt I hgl hml hvl ?_)
  refine PyProof.Rows.callWith_type1 ?_ hs2 rfl
  rw [hs2]
  show wpAny _ _ (spliced ((false, eval (.Call (.Name "zip" p) [e, e2] [] pos) X.env) :: backTo pos2 (starEach [] X.env))) _ _ s
  refine PySem.Calls.spliced_cons ?_
  refine wpAny_Call_Name_kw (ld_blt I hg hm PyProof.Rows.boot_zip (PyProof.Rows.callWith_type1 (thn (ha.run pos pins s σ H _ I h) fun us s1 ⟨vs, H1, I1, r1, q1⟩ => ?_) hs hpl))
  obtain ⟨a, b, xs, ys, ex, hqx, hqy, hxy, q⟩ := q1
  subst ex
  cases r1 with
  | cons r rr =>
    cases rr with
    | cons r' rr =>
      cases rr
      cases r
      cases r'
      obtain ⟨its, rv, p1, hz1⟩ := I1.tuple hqx
      obtain ⟨its2, rv2, p2, hz2⟩ := I1.tuple hqy
      obtain ⟨o1, ho1, _⟩ := id p1
      obtain ⟨o2, ho2, _⟩ := id p2
      have l1 := rv.length
      have l2 := rv2.length
      refine RZ.call_zipT (show s1.heap.IsTuple a its.toArray from p1) (show s1.heap.IsTuple b its2.toArray from p2) fun h' hz hTI hTO h1 h2 hsz hk => ?_
      refine PySem.Calls.spliced_nil ?_
      have I2 : Inv X pins σ H1 { s1 with heap := h' } := I1.kept (t' := s1.toks) hk
      have D := PySem.W.ktu_apart s1.heap.objs.size a b (Heap.lt_size ho1) (Heap.lt_size ho2)
      refine ZiL.call_list_zip (s := { s1 with heap := h' }) (xs := its.toArray) (ys := its2.toArray) (I1.ok.hd hc) D hz hTI ⟨_, _, hTO⟩ h1 h2 ⟨o1, hk _ _ ho1, by assumption⟩ ⟨o2, hk _ _ ho2, by assumption⟩ (by rw [List.size_toArray]; omega) (by rw [List.size_toArray, List.size_toArray]; omega) fun h'' tk acc c as hk2 hS hl hG hacc => ?_
      have hsz2 : h'.objs.size = s1.heap.objs.size + 5 := hsz
      have hkk : ∀ b' o, s1.heap.get? b' = some o → h''.get? b' = some o := fun b' o e => by
        have hb : b' < s1.heap.objs.size := Heap.lt_size e
        exact hk2 b' o (Nat.ne_of_lt (Nat.lt_of_lt_of_le hb (Nat.le_add_right _ _))) (Nat.ne_of_lt (Nat.lt_of_lt_of_le hb (Nat.le_add_right _ _))) (Nat.ne_of_lt hb) (Nat.ne_of_lt (Nat.lt_of_lt_of_le hb (Nat.le_add_right _ _))) (hk b' o e)
      obtain ⟨H', k1, k2, k3, k4, J⟩ := zip_laid (tk := tk) (S := h'.objs.size) I1 (by omega) hxy rv rv2 hkk (by omega) hS (by rw [hl, List.size_toArray]; omega) hG hacc
      exact ⟨.ref _, H', J, rfl, q H' _ as k1 k2 (by rw [hl, List.size_toArray]; omega) k3 k4⟩
end
end L2


set_option Elab.async false
set_option linter.all false
set_option maxRecDepth 100000
set_option maxHeartbeats 4000000
namespace K05
open PySem PySem.Spec PyProof.Rows L2
open Evl (Ex)
/-- one reading or the other -/
def tOr (t u : TS) : TS := fun D σ H => t D σ H ∨ u D σ H
theorem ps_or {X : Cx} {st : Stmt} {t u : TS} (a : PS X st t) (b : PS X st u) : PS X st (tOr t u) := ⟨fun pins s σ H D I h => h.elim (a.run pins s σ H D I) (b.run pins s σ H D I)⟩
section
variable {w : World} {K : PySem.W.Frag} {mg : Str → Option Value} {base : Heap}
/-- a whole number, None, a list or a tuple -/
inductive Kd (H : Hp) : V → Prop where
  | int (n : Int) : Kd H (.int n)
  | non : Kd H .non
  | bl (b : Bool) : Kd H (.bl b)
  | str (z : Str) : Kd H (.str z)
  | lst {a : Addr} {xs : List V} (h : H a = some (.lst xs)) : Kd H (.ref a)
  | tup {a : Addr} {xs : List V} (h : H a = some (.tup xs)) : Kd H (.ref a)
def isI : V → Bool
  | .int _ => true
  | _ => false
def isR : V → Bool
  | .ref _ => true
  | _ => false
theorem Kd.ty {K : PySem.W.Frag} {H : Hp} {v : V} (k : Kd H v) : ∃ (t : String) (b : Bool), TyX K H v (.type t) ∧ kitB t "int" = some b ∧ (b = true → kitB t "bool" = some (!isI v)) ∧ (b = false → isI v = false) ∧ ∃ r : Bool × Bool, kitB t "tuple" = some r.1 ∧ kitB t "list" = some r.2 ∧ (r.1 || r.2) = isR v := by
  cases k with
  | int n => exact ⟨"int", true, .base (.int n), by decide +kernel, (fun _ => by show _ = some false; decide +kernel), (fun z => nomatch z), (false, false), by decide +kernel, by decide +kernel, rfl⟩
  | non => exact ⟨"NoneType", false, .base .non, by decide +kernel, (fun z => nomatch z), (fun _ => rfl), (false, false), by decide +kernel, by decide +kernel, rfl⟩
  | bl b => exact ⟨"bool", true, .base (.bl b), by decide +kernel, (fun _ => by show _ = some true; decide +kernel), (fun z => nomatch z), (false, false), by decide +kernel, by decide +kernel, rfl⟩
  | str z => exact ⟨"str", false, .base (.str z), by decide +kernel, (fun z => nomatch z), (fun _ => rfl), (false, false), by decide +kernel, by decide +kernel, rfl⟩
  | lst h => exact ⟨"list", false, .base (.lst h), by decide +kernel, (fun z => nomatch z), (fun _ => rfl), (false, true), by decide +kernel, by decide +kernel, rfl⟩
  | tup h => exact ⟨"tuple", false, .base (.tup h), by decide +kernel, (fun z => nomatch z), (fun _ => rfl), (true, false), by decide +kernel, by decide +kernel, rfl⟩
theorem Kd.ex {H H' : Hp} {v : V} (k : Kd H v) (e : Ex H H') : Kd H' v := by
  cases k with
  | int n => exact .int n
  | non => exact .non
  | bl b => exact .bl b
  | str z => exact .str z
  | lst h => exact .lst (e _ _ h)
  | tup h => exact .tup (e _ _ h)
def spWholeG : Sp := fun vs H Q _ => ∃ v : V, vs = [v] ∧ Kd H v ∧ Q (.bl (isI v)) H
theorem has_is_wholeG (T : Ctx K mg) : Has w K mg base CX0 "is_whole" 1 ["value"] spWholeG := by
  refine has_of (st := s_is_whole) (f := He.ga K "is_whole") T.d_is_whole T.g_is_whole (fun _ _ _ _ _ _ us hl => match us, hl with | [_], _ => rfl) fun fd F => ?_
  refine ok0 F sc_is_whole (fun vs H Q E h => ?_) (fun cdv A outer s H vs Q E hr h => ?_)
  · obtain ⟨v, rfl, _⟩ := h
    rfl
  · obtain ⟨v, rfl, hk, k⟩ := h
    obtain ⟨t, b, ht, h1, h2, h3, _⟩ := hk.ty (K := K)
    refine ⟨_, pss_one (ps_ret (pe_and (pe_callB call_isi (by rfl) T.b_isinstance (by decide +kernel) (pa_cons (pv 0) (pa_cons (pe_bltn (by rfl) T.b_int (by decide +kernel) (v := .ty "int") rfl) pa_nil)))
      (pe_one (pe_not (pe_callB call_isi (by rfl) T.b_isinstance (by decide +kernel) (pa_cons (pv 0) (pa_cons (pe_bltn (by rfl) T.b_bool (by decide +kernel) (v := .ty "bool") rfl) pa_nil))))))), ?_⟩
    refine ⟨_, rfl, _, _, _, _, b, rfl, .ty "int", ht, kit_ty h1, b, rfl, ?_⟩
    cases b with
    | true =>
      refine iteT ⟨_, rfl, _, _, _, _, !isI v, rfl, .ty "bool", ht, kit_ty (h2 rfl), !isI v, rfl, ?_⟩
      rw [Bool.not_not]
      exact k
    | false =>
      rw [h3 rfl] at k
      exact iteF k
def inB (v : V) (lo hi : Int) : Bool := match v with
  | .int n => decide (lo ≤ n ∧ n ≤ hi)
  | _ => false
def spWithinG : Sp := fun vs H Q _ => ∃ (v : V) (lo hi : Int), vs = [v, .int lo, .int hi] ∧ Kd H v ∧ Q (.bl (inB v lo hi)) H
theorem has_is_withinG (T : Ctx K mg) : Has w K mg base CX0 "is_within" 2 ["value", "low", "high"] spWithinG := by
  obtain ⟨f1, fd1, m1, kp1, F1, b1⟩ := has_is_wholeG (w := w) (base := base) T
  refine has_of (st := s_is_within) (f := He.ga K "is_within") T.d_is_within T.g_is_within (fun _ _ _ _ _ _ us hl => match us, hl with | [_, _, _], _ => rfl) fun fd F => ?_
  refine ok0 F sc_is_within (fun vs H Q E h => ?_) (fun cdv A outer s H vs Q E hr h => ?_)
  · obtain ⟨n, lo, hi, rfl, _⟩ := h
    rfl
  · obtain ⟨v, lo, hi, rfl, hk, k⟩ := h
    refine ⟨_, pss_one (ps_ret (pe_and (pe_call F1 hr (by rfl) m1 kp1 b1 .nil pass0 (pa_cons (pv 0) pa_nil)) (pe_one (pe_chain op_le op_le (pv 1) (pv 0) (pv 2))))), ?_⟩
    refine ⟨_, rfl, v, rfl, hk, isI v, rfl, ?_⟩
    cases v with
    | int n =>
      refine iteT ?_
      have k' : Q (.bl (decide (lo ≤ n ∧ n ≤ hi))) H := k
      refine ⟨_, rfl, _, rfl, _, _, rfl, rfl, _, rfl, ?_⟩
      by_cases c : lo ≤ n
      · rw [decide_eq_true c]
        refine iteT ⟨_, rfl, _, _, rfl, rfl, ?_⟩
        have e : decide (lo ≤ n ∧ n ≤ hi) = decide (n ≤ hi) := by simp [c]
        rw [e] at k'
        exact k'
      · rw [decide_eq_false c]
        refine iteF ?_
        have e : decide (lo ≤ n ∧ n ≤ hi) = false := by simp [c]
        rw [e] at k'
        exact k'
    | _ => exact iteF k
def spRowG : Sp := fun vs H Q _ => ∃ v, vs = [v] ∧ Kd H v ∧ ∀ H', Ex H H' → Q (.bl (isR v)) H'
theorem has_is_rowG (T : Ctx K mg) : Has w K mg base CX0 "is_row" 1 ["value"] spRowG := by
  refine has_of (st := s_is_row) (f := He.ga K "is_row") T.d_is_row T.g_is_row (fun _ _ _ _ _ _ us hl => match us, hl with | [_], _ => rfl) fun fd F => ?_
  refine ok0 F sc_is_row (fun vs H Q E h => ?_) (fun cdv A outer s H vs Q E hr h => ?_)
  · obtain ⟨a, rfl, _⟩ := h
    rfl
  · obtain ⟨v, rfl, hk, k⟩ := h
    refine ⟨_, pss_one (ps_ret (pe_callB call_isiT (by rfl) T.b_isinstance (by decide +kernel) (pa_cons (pv 0) (pa_cons (pe_tup (pa_cons (pe_bltn (by rfl) T.b_tuple (by decide +kernel) (v := .ty "tuple") rfl) (pa_cons (pe_bltn (by rfl) T.b_list (by decide +kernel) (v := .ty "list") rfl) pa_nil))) pa_nil)))), ?_⟩
    refine ⟨_, rfl, (by show 2 ≤ sizeLine; decide), fun p hp => ?_⟩
    have e1 := Ex.new (o := .tup [V.ty "tuple", .ty "list"]) hp
    obtain ⟨t, _, ht, _, _, _, r, h1, h2, h3⟩ := (hk.ex e1).ty (K := K)
    refine ⟨_, p, _, _, _, isR v, rfl, upd_same, .cons (.ty "tuple") (.cons (.ty "list") .nil), ht, ?_, k _ e1⟩
    have hv : (r.1 || r.2) = isR v := h3
    rw [← hv]
    refine kitAny_cons (kit_ty h1) (fun z => ?_) (fun z => by rw [z]; rfl)
    refine kitAny_cons (kit_ty h2) (fun z2 => ?_) (fun z2 => by rw [z2]; simp)
    rw [z, z2]
    rfl
end
end K05


set_option Elab.async false
set_option linter.all false
set_option maxRecDepth 100000
set_option maxHeartbeats 4000000
namespace K05
open PySem PySem.Spec PyProof.Rows L2
open Evl (Ex)
section
variable {w : World} {K : PySem.W.Frag} {mg : Str → Option Value} {base : Heap}
theorem Ctx.bs (T : Ctx K mg) : PySem.BadSetX.BadSetTxt K mg (He.ga K "BadSet") (He.ma K (He.ga K "BadSet") "__init__") := by
  obtain ⟨fd, F⟩ := T.d_BadSet___init__
  obtain ⟨oc, od, dV, kV, doc, pm, an, cdv, ct, osl, rfl, lk, hcd, hD, hK⟩ := F.ex
  rcases hD with ⟨_, rfl⟩ | ⟨e, _⟩
  · exact ⟨T.g_BadSet, T.xc_BadSet, T.xsa_BadSet, T.xga_BadSet, T.xgg_BadSet, T.xnn_BadSet, T.xii_BadSet, T.xt_BadSet, T.xk_BadSet, T.xs_BadSet, T.xy_BadSet, T.xd_BadSet, T.te_BadSet, ⟨oc, od, kV, doc, pm, an, cdv, ct, osl, _, _, _, _, _, _, lk, hcd⟩⟩
  · exact absurd rfl e
/-- BadSet with its place leaves the def -/
def Bad (K : PySem.W.Frag) (H : Hp) (E : XK) (n : Int) : Prop := ∀ H' d, Ex H H' → H d = none → H' d = some (.xd [(("place" : Str), .int n)]) → E (.ref (He.ga K "BadSet")) (some d) H'
theorem Bad.go {H H1 : Hp} {E : XK} {n : Int} {d : Addr} (h : Bad K H E n) (e : Ex H H1) (hd : H1 d = none) : E (.ref (He.ga K "BadSet")) (some d) (upd H1 d (.xd [(("place" : Str), .int n)])) := h _ _ (e.trans (Ex.new hd)) (Evl.fresh_back e hd) upd_same
theorem Bad.ex {H H1 : Hp} {E : XK} {n : Int} (h : Bad K H E n) (e : Ex H H1) : Bad K H1 E n := fun H' d e' hd hx => h H' d (e.trans e') (Evl.fresh_back e hd) hx
theorem okX {x : Str} {st : Stmt} {f : Addr} {fd : FuncData} {N ps : List Str} {k : Nat} {sp : Sp} {dvs : List V} {kws : List (Str × V)} {qual : Str} (F : FunD K x qual (defArgs st) (defBody st) (defScope st) dvs kws f fd) (S : FnScope N ps (defScope st)) (len : ∀ vs H Q E, sp vs H Q E → vs.length = ps.length)
    (hbody : ∀ (cdv : Value) (A : Around) (outer : List Env) (s : Shared) (H : Hp) (vs : List V) (Q : VK) (E : XK), Room k (A.deeper (envOfC qual (defScope st) s.heap.objs.size f cdv)) → sp vs H Q E →
      ∃ t, PSs (cxOf (L2.CX PP w) PP w K mg base N qual (defScope st) f cdv A outer s H E) (defBody st) t ∧ t { nx := fun _ H' => Q .non H', rt := Q } (start N vs) H) : FnOk PP w K mg base (L2.CX PP w) (k + 1) f fd ps sp := F.ok S len hbody
theorem pass_none {X : Cx} (hX : X.prog = PP) (hw : X.w = w) : Passes (L2.CX PP w) X E0 := by
  rw [← hX, ← hw]
  exact passes_call (W := fun _ _ _ _ => False) takes0 (fun _ _ _ _ h => h)
/-- a row of whole numbers, list or tuple -/
def RowI (H : Hp) (v : V) (ns : List Int) : Prop := ∃ a, v = .ref a ∧ (H a = some (.lst (ns.map V.int)) ∨ H a = some (.tup (ns.map V.int)))
theorem RowI.ex {H H' : Hp} {v : V} {ns : List Int} (h : RowI H v ns) (e : Ex H H') : RowI H' v ns := by
  obtain ⟨a, rfl, q⟩ := h
  exact ⟨a, rfl, q.imp (e _ _) (e _ _)⟩
/-- parts of m, each once -/
structure Parts (m : Int) (ns : List Int) : Prop where
  nd : ns.Nodup
  inn : ∀ n ∈ ns, 0 ≤ n ∧ n < m
  few : ns.length < 60
/-- ms is ns in order -/
structure Ord (ns ms : List Int) : Prop where
  asc : ms.Pairwise (· < ·)
  mem : ∀ k, k ∈ ms ↔ k ∈ ns
def spSet (K : PySem.W.Frag) : Sp := fun vs H Q E => ∃ (m : Int) (v : V), vs = [.int m, v] ∧ 0 ≤ m ∧
  ((∃ ns, RowI H v ns ∧ Parts m ns ∧ ∀ ms H' p, Ord ns ms → Ex H H' → H p = none → H' p = some (.tup (ms.map V.int)) → Q (.ref p) H') ∨
   (∃ a ns y ys, v = .ref a ∧ H a = some (.lst (ns.map V.int ++ y :: ys)) ∧ Parts m ns ∧ (∀ z ∈ ys, Kd H z) ∧ Kd H y ∧ (inB y 0 (m - 1) = false ∨ ∃ n ∈ ns, y = .int n) ∧ Bad K H E ns.length) ∨
   (Kd H v ∧ isR v = false ∧ Bad K H E (-1)))
theorem nodup_new {ns : List Int} {i : Nat} {z : Int} (hp : ns.Nodup) (h : ns[i]? = some z) : z ∉ ns.take i := by
  intro q
  obtain ⟨j, hj, e⟩ := List.mem_iff_getElem.mp q
  obtain ⟨hil, hie⟩ := List.getElem?_eq_some_iff.mp h
  rw [List.length_take] at hj
  have hji : j < i := by omega
  rw [List.getElem_take] at e
  exact (List.pairwise_iff_getElem.mp hp j i (by omega) hil hji) (e.trans hie.symm)
theorem has_set (T : Ctx K mg) : Has w K mg base (L2.CX PP w) "set_of" 3 ["many", "parts"] (spSet K) := by
  obtain ⟨f1, fd1, m1, kp1, F1, b1⟩ := has_is_count (w := w) (base := base) T
  obtain ⟨f2, fd2, m2, kp2, F2, b2⟩ := has_is_rowG (w := w) (base := base) T
  obtain ⟨f3, fd3, m3, kp3, F3, b3⟩ := has_is_withinG (w := w) (base := base) T
  refine has_of (st := s_set_of) (f := He.ga K "set_of") T.d_set_of T.g_set_of (fun _ _ _ _ _ _ us hl => match us, hl with | [_, _], _ => rfl) fun fd F => ?_
  refine okX F sc_set_of (fun vs H Q E h => ?_) (fun cdv A outer s H vs Q E hr h => ?_)
  · obtain ⟨m, a, rfl, _⟩ := h
    rfl
  · obtain ⟨m, v, rfl, hm, hcase⟩ := h
    have nd := sc_set_of.nd
    have hr1 := hr.mono (show 1 ≤ 2 by decide)
    refine ⟨_, pss_cons (ps_if (pt_not (pt_val (pe_call F1 hr (by rfl) m1 kp1 b1 .nil pass0 (pa_cons (pv 0) pa_nil)))) (pss_one ps_never) pss_nil)
      (pss_cons (ps_if (pt_not (pt_val (pe_call F2 hr1 (by rfl) m2 kp2 b2 .nil pass0 (pa_cons (pv 1) pa_nil)))) (pss_one (ps_raiseBadSet (W := fun cls d _ H => E cls d H) rfl T.bs hr (takes_of rfl rfl rfl rfl) (pa_cons (pe_un un_neg pe_int) pa_nil))) pss_nil)
      (pss_cons (ps_set (i := 2) nd rfl (.inl rfl) (pe_callTy0 cr_set0 (by rfl) T.b_set (by decide +kernel)))
      (pss_cons (ps_or (ps_for (passes_of rfl) rfl (pi_enum (by rfl) T.b_enumerate (pa_cons (pv 1) pa_nil)) (pg_tup (by rfl) (pgs_cons (pg_name (i := 3) nd rfl (.inl rfl)) (pgs_cons (pg_name (i := 4) nd rfl (.inl rfl)) pgs_nil)))
        (pss_cons (ps_if (PW.pt (pw_or (pt_not (pt_val (pe_call F3 hr (by rfl) m3 kp3 b3 .nil pass0 (pa_cons (pv 4) (pa_cons pe_int (pa_cons (pe_op op_sub (pv 0) pe_int) pa_nil)))))) (pw_or1 (pt_cmpR or_sin (pv 4) (pv 2) (by rfl))))) (pss_one (ps_raiseBadSet (W := fun cls d _ H => E cls d H) rfl T.bs hr (takes_of rfl rfl rfl rfl) (pa_cons (pv 3) pa_nil))) pss_nil)
        (pss_one (ps_expr (pe_sadd (pv 2) (pa_cons (pv 4) pa_nil))))))
        (ps_for (passes_of rfl) rfl (pi_enumT (by rfl) T.b_enumerate (pa_cons (pv 1) pa_nil)) (pg_tup (by rfl) (pgs_cons (pg_name (i := 3) nd rfl (.inl rfl)) (pgs_cons (pg_name (i := 4) nd rfl (.inl rfl)) pgs_nil)))
        (pss_cons (ps_if (PW.pt (pw_or (pt_not (pt_val (pe_call F3 hr (by rfl) m3 kp3 b3 .nil pass0 (pa_cons (pv 4) (pa_cons pe_int (pa_cons (pe_op op_sub (pv 0) pe_int) pa_nil)))))) (pw_or1 (pt_cmpR or_sin (pv 4) (pv 2) (by rfl))))) (pss_one (ps_raiseBadSet (W := fun cls d _ H => E cls d H) rfl T.bs hr (takes_of rfl rfl rfl rfl) (pa_cons (pv 3) pa_nil))) pss_nil)
        (pss_one (ps_expr (pe_sadd (pv 2) (pa_cons (pv 4) pa_nil)))))))
      (pss_one (ps_ret (pe_callTy call_tuple_of (by rfl) T.b_tuple (by decide +kernel) (pa_cons (pe_callB (cr_sortedSet rfl) (by rfl) T.b_sorted (by decide +kernel) (pa_cons (pv 2) pa_nil)) pa_nil))))))), ?_⟩
    refine ⟨_, rfl, m, rfl, decide (0 ≤ m), rfl, ?_⟩
    rw [decide_eq_true hm]
    refine iteF ?_
    rcases hcase with ⟨ns, hR, hP, k⟩ | ⟨a, ns, y0, ys, rfl, ha, hP, hys, hy0, hbad, hB⟩ | ⟨hKv, hRv, hB⟩
    · obtain ⟨a, rfl, ha⟩ := hR
      have hKd : Kd H (.ref a) := ha.elim Kd.lst Kd.tup
      refine ⟨_, rfl, _, rfl, hKd, fun H1 e1 => ⟨true, rfl, iteF ?_⟩⟩
      refine ⟨rfl, fun q hq => ?_⟩
      have e2 : Ex H (upd H1 q (SetO w q (fun _ => false) 0)) := e1.trans (Ex.new hq)
      have hq0 : H q = none := Evl.fresh_back e1 hq
      rcases ha with ha | ha
      · refine .inl ⟨_, rfl, a, _, rfl, Ex.lst e2 ha, for_it walk_enum (fun i σ H' => ∃ (p f : Option V) (S : Int → Bool), σ = [some (.int m), some (.ref a), some (.ref q), p, f] ∧ Ex H H' ∧ H' q = some (SetO w q S i) ∧ ∀ j, S j = true ↔ j ∈ ns.take i)
          ⟨none, none, _, rfl, e2, upd_same, fun j => by simp⟩ (fun i σ H' _ ⟨_, _, _, _, e, _⟩ => Ex.lst e ha) ?_ ?_⟩
        · rintro i v σ H2 H3 hi ⟨p, f, S, rfl, e3, hS, hSm⟩ ⟨t, x, y, rfl, ht, rfl, hx1, hy⟩
          cases hx1
          obtain ⟨z, hz, rfl⟩ := map_int_get hy
          have hzb := hP.inn z (List.mem_of_getElem? hz)
          have hqt : q ≠ t := ne_of_none hS ht
          have hSf : S z = false := by
            cases c : S z with
            | false => rfl
            | true => exact absurd ((hSm z).mp c) (nodup_new hP.nd hz)
          have hil : i < ns.length := (List.getElem?_eq_some_iff.mp hz).1
          have few := hP.few
          refine ⟨t, _, rfl, SqT.of upd_same, rfl, _, _, rfl, _, _, rfl, rfl, ?_⟩
          refine ⟨_, rfl, _, rfl, _, _, rfl, rfl, .int z, 0, m - 1, rfl, .int z, inB (.int z) 0 (m - 1), rfl, ?_⟩
          show (if (!decide (0 ≤ z ∧ z ≤ m - 1)) = true then _ else _)
          rw [decide_eq_true (show 0 ≤ z ∧ z ≤ m - 1 by omega)]
          refine iteF ?_
          refine ⟨_, rfl, _, rfl, z, q, S, i, rfl, rfl, by rw [upd_ne hqt]; exact hS, S z, rfl, ?_⟩
          rw [hSf]
          refine iteF ?_
          refine ⟨_, rfl, ⟨q, S, i, rfl, by rw [upd_ne hqt]; exact hS⟩, _, rfl, q, z, S, i, rfl, rfl, by rw [upd_ne hqt]; exact hS, ?_, ?_⟩
          · show i + 1 < 4096
            omega
          · rw [hSf, if_neg Bool.false_ne_true]
            refine ⟨_, _, _, rfl, Evl.Ex.mut (e3.trans (Ex.new ht)) hq0, upd_same, fun j => ?_⟩
            rw [take_succ_mem hz, Bool.or_eq_true, decide_eq_true_iff, hSm]
        · rintro σ H2 ⟨p, f, S, rfl, e3, hS, hSm⟩
          rw [List.length_map] at hS hSm
          rw [List.take_length] at hSm
          have few := hP.few
          refine ⟨_, rfl, q, S, _, rfl, hS, by omega, fun ns' p' hp' hmem hlen hnew => ?_⟩
          refine ⟨p', _, rfl, .inl ⟨SqL.of upd_same, fun l hl2 => ?_⟩⟩
          exact k ns' _ _ ⟨hp', fun j => (hmem j).trans (hSm j)⟩ ((e3.trans (Ex.new hnew)).trans (Ex.new hl2)) (Evl.fresh_back (e3.trans (Ex.new hnew)) hl2) upd_same
      · refine .inr ⟨_, rfl, a, _, rfl, Ex.tup e2 ha, for_it walk_enumT (fun i σ H' => ∃ (p f : Option V) (S : Int → Bool), σ = [some (.int m), some (.ref a), some (.ref q), p, f] ∧ Ex H H' ∧ H' q = some (SetO w q S i) ∧ ∀ j, S j = true ↔ j ∈ ns.take i)
          ⟨none, none, _, rfl, e2, upd_same, fun j => by simp⟩ (fun i σ H' _ ⟨_, _, _, _, e, _⟩ => Ex.tup e ha) ?_ ?_⟩
        · rintro i v σ H2 H3 hi ⟨p, f, S, rfl, e3, hS, hSm⟩ ⟨t, x, y, rfl, ht, rfl, hx1, hy⟩
          cases hx1
          obtain ⟨z, hz, rfl⟩ := map_int_get hy
          have hzb := hP.inn z (List.mem_of_getElem? hz)
          have hqt : q ≠ t := ne_of_none hS ht
          have hSf : S z = false := by
            cases c : S z with
            | false => rfl
            | true => exact absurd ((hSm z).mp c) (nodup_new hP.nd hz)
          have hil : i < ns.length := (List.getElem?_eq_some_iff.mp hz).1
          have few := hP.few
          refine ⟨t, _, rfl, SqT.of upd_same, rfl, _, _, rfl, _, _, rfl, rfl, ?_⟩
          refine ⟨_, rfl, _, rfl, _, _, rfl, rfl, .int z, 0, m - 1, rfl, .int z, inB (.int z) 0 (m - 1), rfl, ?_⟩
          show (if (!decide (0 ≤ z ∧ z ≤ m - 1)) = true then _ else _)
          rw [decide_eq_true (show 0 ≤ z ∧ z ≤ m - 1 by omega)]
          refine iteF ?_
          refine ⟨_, rfl, _, rfl, z, q, S, i, rfl, rfl, by rw [upd_ne hqt]; exact hS, S z, rfl, ?_⟩
          rw [hSf]
          refine iteF ?_
          refine ⟨_, rfl, ⟨q, S, i, rfl, by rw [upd_ne hqt]; exact hS⟩, _, rfl, q, z, S, i, rfl, rfl, by rw [upd_ne hqt]; exact hS, ?_, ?_⟩
          · show i + 1 < 4096
            omega
          · rw [hSf, if_neg Bool.false_ne_true]
            refine ⟨_, _, _, rfl, Evl.Ex.mut (e3.trans (Ex.new ht)) hq0, upd_same, fun j => ?_⟩
            rw [take_succ_mem hz, Bool.or_eq_true, decide_eq_true_iff, hSm]
        · rintro σ H2 ⟨p, f, S, rfl, e3, hS, hSm⟩
          rw [List.length_map] at hS hSm
          rw [List.take_length] at hSm
          have few := hP.few
          refine ⟨_, rfl, q, S, _, rfl, hS, by omega, fun ns' p' hp' hmem hlen hnew => ?_⟩
          refine ⟨p', _, rfl, .inl ⟨SqL.of upd_same, fun l hl2 => ?_⟩⟩
          exact k ns' _ _ ⟨hp', fun j => (hmem j).trans (hSm j)⟩ ((e3.trans (Ex.new hnew)).trans (Ex.new hl2)) (Evl.fresh_back (e3.trans (Ex.new hnew)) hl2) upd_same
    · refine ⟨_, rfl, _, rfl, .lst ha, fun H1 e1 => ⟨true, rfl, iteF ?_⟩⟩
      refine ⟨rfl, fun q hq => ?_⟩
      have e2 : Ex H (upd H1 q (SetO w q (fun _ => false) 0)) := e1.trans (Ex.new hq)
      have hq0 : H q = none := Evl.fresh_back e1 hq
      have few := hP.few
      refine .inl ⟨_, rfl, a, _, rfl, Ex.lst e2 ha, for_it walk_enum (fun i σ H' => i ≤ ns.length ∧ ∃ (p f : Option V) (S : Int → Bool), σ = [some (.int m), some (.ref a), some (.ref q), p, f] ∧ Ex H H' ∧ H' q = some (SetO w q S i) ∧ ∀ j, S j = true ↔ j ∈ ns.take i)
          ⟨Nat.zero_le _, none, none, _, rfl, e2, upd_same, fun j => by simp⟩ (fun i σ H' _ ⟨_, _, _, _, _, e, _⟩ => Ex.lst e ha) ?_ ?_⟩
      · rintro i v σ H2 H3 hi ⟨hin, p, f, S, rfl, e3, hS, hSm⟩ ⟨t, x, y, rfl, ht, rfl, hx1, hy⟩
        cases hx1
        have hqt : q ≠ t := ne_of_none hS ht
        by_cases ci : i < ns.length
        · have hy' : (ns.map V.int)[i]? = some y := by
            have hy2 : (ns.map V.int ++ y0 :: ys)[i]? = some y := hy
            rw [List.getElem?_append_left (by rw [List.length_map]; exact ci)] at hy2
            exact hy2
          obtain ⟨z, hz, rfl⟩ := map_int_get hy'
          have hzb := hP.inn z (List.mem_of_getElem? hz)
          have hSf : S z = false := by
            cases c : S z with
            | false => rfl
            | true => exact absurd ((hSm z).mp c) (nodup_new hP.nd hz)
          refine ⟨t, _, rfl, SqT.of upd_same, rfl, _, _, rfl, _, _, rfl, rfl, ?_⟩
          refine ⟨_, rfl, _, rfl, _, _, rfl, rfl, .int z, 0, m - 1, rfl, .int z, inB (.int z) 0 (m - 1), rfl, ?_⟩
          show (if (!decide (0 ≤ z ∧ z ≤ m - 1)) = true then _ else _)
          rw [decide_eq_true (show 0 ≤ z ∧ z ≤ m - 1 by omega)]
          refine iteF ?_
          refine ⟨_, rfl, _, rfl, z, q, S, i, rfl, rfl, by rw [upd_ne hqt]; exact hS, S z, rfl, ?_⟩
          rw [hSf]
          refine iteF ?_
          refine ⟨_, rfl, ⟨q, S, i, rfl, by rw [upd_ne hqt]; exact hS⟩, _, rfl, q, z, S, i, rfl, rfl, by rw [upd_ne hqt]; exact hS, ?_, ?_⟩
          · show i + 1 < 4096
            omega
          · rw [hSf, if_neg Bool.false_ne_true]
            refine ⟨ci, _, _, _, rfl, Evl.Ex.mut (e3.trans (Ex.new ht)) hq0, upd_same, fun j => ?_⟩
            rw [take_succ_mem hz, Bool.or_eq_true, decide_eq_true_iff, hSm]
        · have hie : i = ns.length := by omega
          subst hie
          have hyy : y = y0 := by
            have hy2 : (ns.map V.int ++ y0 :: ys)[ns.length]? = some y := hy
            rw [List.getElem?_append_right (by rw [List.length_map]; exact Nat.le_refl _), List.length_map, Nat.sub_self] at hy2
            exact (Option.some.inj hy2).symm
          subst hyy
          rw [List.take_length] at hSm
          have e4 := e3.trans (Ex.new (o := .tup [.int (ns.length : Nat), y]) ht)
          refine ⟨t, _, rfl, SqT.of upd_same, rfl, _, _, rfl, _, _, rfl, rfl, ?_⟩
          refine ⟨_, rfl, _, rfl, _, _, rfl, rfl, y, 0, m - 1, rfl, hy0.ex e4, inB y 0 (m - 1), rfl, ?_⟩
          cases cb : inB y 0 (m - 1) with
          | false => exact iteT ⟨_, rfl, _, rfl, fun d hd => hB.go e4 hd⟩
          | true =>
            refine iteF ?_
            rcases hbad with z | ⟨n, hn, rfl⟩
            · rw [cb] at z; cases z
            · refine ⟨_, rfl, _, rfl, n, q, S, _, rfl, rfl, by rw [upd_ne hqt]; exact hS, S n, rfl, ?_⟩
              rw [(hSm n).mpr hn]
              exact iteT ⟨_, rfl, _, rfl, fun d hd => hB.go e4 hd⟩
      · rintro σ H2 ⟨hin, _⟩
        rw [List.length_append, List.length_map, List.length_cons] at hin
        omega
    · refine ⟨_, rfl, _, rfl, hKv, fun H1 e1 => ⟨isR v, rfl, ?_⟩⟩
      rw [hRv]
      exact iteT ⟨_, rfl, _, rfl, fun d hd => hB.go e1 hd⟩
end
end K05


set_option Elab.async false
set_option linter.all false
set_option maxRecDepth 100000
set_option maxHeartbeats 4000000
namespace K05
open PySem PySem.Spec PyProof.Rows L2
open Evl (Ex)
section
variable {w : World} {K : PySem.W.Frag} {mg : Str → Option Value} {base : Heap}
/-! ### both, common, minus -/
structure Low (ns : List Int) : Prop where
  inn : ∀ n ∈ ns, 0 ≤ n ∧ n < 64
def Filt (f : Bool → Bool → Bool) (ns ms rs : List Int) : Prop := rs.Pairwise (· < ·) ∧ ∀ k, k ∈ rs ↔ f (decide (k ∈ ns)) (decide (k ∈ ms)) = true
def spSet2 (f : Bool → Bool → Bool) : Sp := fun vs H Q _ => ∃ (a b : Addr) (ns ms : List Int), vs = [.ref a, .ref b] ∧ H a = some (.tup (ns.map V.int)) ∧ H b = some (.tup (ms.map V.int)) ∧ Low ns ∧ Low ms ∧ ns.length + ms.length < 64 ∧
  ∀ rs H' p, Filt f ns ms rs → Ex H H' → H p = none → H' p = some (.tup (rs.map V.int)) → Q (.ref p) H'
theorem lowS {ns : List Int} (l : Low ns) : SetT.LowS (fun j => decide (j ∈ ns)) := fun k h => l.inn k (of_decide_eq_true h)
theorem body2 {op : Operator} {f : Bool → Bool → Bool} {X : Cx} (hX : X.K = K) (hw : X.w = w) (hu : OpR X (binaryOp op) (rSet2 X.w f)) : OpR X (binaryOp op) (rSet2 w f) := by
  subst hw
  exact hu
theorem sc_both : FnScope ["one", "other"] ["one", "other"] (defScope s_both) := ⟨rfl, rfl, rfl, by decide +kernel, rfl, by decide +kernel, by decide +kernel⟩
theorem has_both (T : Ctx K mg) : Has w K mg base CX0 "both" 1 ["one", "other"] (spSet2 fun a b => a || b) := by
  refine has_of (st := s_both) (f := He.ga K "both") T.d_both T.g_both (fun _ _ _ _ _ _ us hl => match us, hl with | [_, _], _ => rfl) fun fd F => ?_
  refine ok0 F sc_both (fun vs H Q E h => ?_) (fun cdv A outer s H vs Q E hr h => ?_)
  · obtain ⟨a, b, ns, ms, rfl, _⟩ := h
    rfl
  · obtain ⟨a, b, ns, ms, rfl, ha, hb, ln, lm, hl, k⟩ := h
    refine ⟨_, pss_one (ps_ret (pe_callTy call_tuple_of (by rfl) T.b_tuple (by decide +kernel) (pa_cons (pe_callB (cr_sortedSet rfl) (by rfl) T.b_sorted (by decide +kernel) (pa_cons
      (pe_op op_setOr (pe_callTy (cr_setT rfl) (by rfl) T.b_set (by decide +kernel) (pa_cons (pv 0) pa_nil)) (pe_callTy (cr_setT rfl) (by rfl) T.b_set (by decide +kernel) (pa_cons (pv 1) pa_nil))) pa_nil)) pa_nil))), ?_⟩
    refine ⟨_, rfl, a, ns, rfl, SqT.of ha, by omega, fun q c hq hc => ?_⟩
    have e1 := Ex.new (o := SetO w q (fun j => decide (j ∈ ns)) c) hq
    refine ⟨_, rfl, b, ms, rfl, SqT.of (e1 _ _ hb), by omega, fun q2 c2 hq2 hc2 => ?_⟩
    have e2 := e1.trans (Ex.new (o := SetO w q2 (fun j => decide (j ∈ ms)) c2) hq2)
    have hqq : q ≠ q2 := ne_of_none (upd_same (H := H) (a := q)) hq2
    refine ⟨q, q2, _, _, c, c2, rfl, rfl, hqq, by rw [upd_ne hqq]; exact upd_same, upd_same, lowS ln, lowS lm, by omega, fun q3 c3 hq3 hc3 => ?_⟩
    have e3 := e2.trans (Ex.new (o := SetO w q3 (fun k => decide (k ∈ ns) || decide (k ∈ ms)) c3) hq3)
    refine ⟨q3, _, c3, rfl, upd_same, hc3, fun rs p' hp' hmem hlen hnew => ?_⟩
    have e4 := e3.trans (Ex.new (o := .lst (rs.map V.int)) hnew)
    refine ⟨p', _, rfl, .inl ⟨SqL.of upd_same, fun l hl2 => ?_⟩⟩
    exact k rs _ l ⟨hp', hmem⟩ (e4.trans (Ex.new hl2)) (Evl.fresh_back e4 hl2) upd_same
theorem sc_minus : FnScope ["one", "other"] ["one", "other"] (defScope s_minus) := ⟨rfl, rfl, rfl, by decide +kernel, rfl, by decide +kernel, by decide +kernel⟩
theorem has_minus (T : Ctx K mg) : Has w K mg base CX0 "minus" 1 ["one", "other"] (spSet2 fun a b => a && !b) := by
  refine has_of (st := s_minus) (f := He.ga K "minus") T.d_minus T.g_minus (fun _ _ _ _ _ _ us hl => match us, hl with | [_, _], _ => rfl) fun fd F => ?_
  refine ok0 F sc_minus (fun vs H Q E h => ?_) (fun cdv A outer s H vs Q E hr h => ?_)
  · obtain ⟨a, b, ns, ms, rfl, _⟩ := h
    rfl
  · obtain ⟨a, b, ns, ms, rfl, ha, hb, ln, lm, hl, k⟩ := h
    refine ⟨_, pss_one (ps_ret (pe_callTy call_tuple_of (by rfl) T.b_tuple (by decide +kernel) (pa_cons (pe_callB (cr_sortedSet rfl) (by rfl) T.b_sorted (by decide +kernel) (pa_cons
      (pe_op op_setSub (pe_callTy (cr_setT rfl) (by rfl) T.b_set (by decide +kernel) (pa_cons (pv 0) pa_nil)) (pe_callTy (cr_setT rfl) (by rfl) T.b_set (by decide +kernel) (pa_cons (pv 1) pa_nil))) pa_nil)) pa_nil))), ?_⟩
    refine ⟨_, rfl, a, ns, rfl, SqT.of ha, by omega, fun q c hq hc => ?_⟩
    have e1 := Ex.new (o := SetO w q (fun j => decide (j ∈ ns)) c) hq
    refine ⟨_, rfl, b, ms, rfl, SqT.of (e1 _ _ hb), by omega, fun q2 c2 hq2 hc2 => ?_⟩
    have e2 := e1.trans (Ex.new (o := SetO w q2 (fun j => decide (j ∈ ms)) c2) hq2)
    have hqq : q ≠ q2 := ne_of_none (upd_same (H := H) (a := q)) hq2
    refine ⟨q, q2, _, _, c, c2, rfl, rfl, hqq, by rw [upd_ne hqq]; exact upd_same, upd_same, lowS ln, lowS lm, by omega, fun q3 c3 hq3 hc3 => ?_⟩
    have e3 := e2.trans (Ex.new (o := SetO w q3 (fun k => decide (k ∈ ns) && !decide (k ∈ ms)) c3) hq3)
    refine ⟨q3, _, c3, rfl, upd_same, hc3, fun rs p' hp' hmem hlen hnew => ?_⟩
    have e4 := e3.trans (Ex.new (o := .lst (rs.map V.int)) hnew)
    refine ⟨p', _, rfl, .inl ⟨SqL.of upd_same, fun l hl2 => ?_⟩⟩
    exact k rs _ l ⟨hp', hmem⟩ (e4.trans (Ex.new hl2)) (Evl.fresh_back e4 hl2) upd_same
end
end K05


set_option Elab.async false
set_option linter.all false
set_option maxRecDepth 100000
set_option maxHeartbeats 4000000
namespace K05
open PySem PySem.Spec PyProof.Rows L2
open Evl (Ex)
section
variable {w : World} {K : PySem.W.Frag} {mg : Str → Option Value} {base : Heap}
theorem IsM.pr {C : Addr} {kind : Str} (h : IsM K C kind) (T : Ctx K mg) : ∃ p, PropOf K C "many" p (HkQ.gAd K ("Market", some "many")) := by
  rcases h with ⟨rfl, _⟩ | ⟨rfl, _⟩
  · exact ⟨_, T.pr_many_Join⟩
  · exact ⟨_, T.pr_many_Lap⟩
def spMany (K : PySem.W.Frag) : Sp := fun vs H Q _ => ∃ (x : Addr) (kd : Str) (s : Int) (us : List V) (rs : List (Int × Int)) (ns : List Int), vs = [.ref x] ∧ Mkt K H x kd s us rs ns ∧ Q (.int (us.length : Nat)) H
theorem sc_many : FnScope ["self"] ["self"] (defScope s_Market_many) := ⟨rfl, rfl, rfl, by decide +kernel, rfl, by decide +kernel, by decide +kernel⟩
theorem ok_many (T : Ctx K mg) : ∃ fd, FnOk PP w K mg base CX0 1 (HkQ.gAd K ("Market", some "many")) fd ["self"] (spMany K) ∧ Binds K fd ["self"] [] := by
  obtain ⟨fd, F⟩ := T.d_Market_many
  refine ⟨fd, ?_, FunD.bindsN F fun _ _ _ _ _ _ us hl => match us, hl with | [_], _ => rfl⟩
  refine ok0 F sc_many (fun vs H Q E h => ?_) (fun cdv A outer s H vs Q E hr h => ?_)
  · obtain ⟨x, kd, s, us, rs, ns, rfl, _⟩ := h
    rfl
  · obtain ⟨x, kd, s, us, rs, ns, rfl, M, k⟩ := h
    obtain ⟨C, dx, pr, pg, hM, h1, h2, h3⟩ := M.ob
    refine ⟨_, pss_one (ps_ret (pe_callB call_len_seq (by rfl) T.b_len PySem.boot_len (pa_cons (pe_fld (pv 0) rfl) pa_nil))), ?_⟩
    exact ⟨_, rfl, x, C, dx, _, _, rfl, h1, hM.cl T, hM.nR T, mf_runs _ _ _, pr, us, rfl, .inr (SqT.of h2), k⟩
/-- e.many, e a market of either kind -/
def tMany (K : PySem.W.Frag) (ta : TE) : TE := fun σ H Q => ta σ H fun x H1 => ∃ (a : Addr) (kd : Str) (s : Int) (us : List V) (rs : List (Int × Int)) (ns : List Int), x = .ref a ∧ Mkt K H1 a kd s us rs ns ∧ Q (.int (us.length : Nat)) H1
theorem pe_many (T : Ctx K mg) {X : Cx} (hP : X.prog = PP) (hw : X.w = w) (hK : X.K = K) (hmg : X.mg = mg) {e : Expr} {pos : Pos} {ta : TE} (he : PE X e ta) {n : Nat} (hr : Room n X.A) (hn : 2 ≤ n) (hab : attributeBase e "many" X.env (eval e X.env) = eval e X.env) : PE X (.Attribute e "many" pos) (tMany K ta) := by
  subst hw hK hmg
  obtain ⟨fd, F, b⟩ := ok_many (w := X.w) (base := X.base) T
  obtain ⟨p1, hp1⟩ := (IsM.pr (kind := "join") (.inl ⟨rfl, rfl⟩) T : _)
  obtain ⟨p2, hp2⟩ := (IsM.pr (kind := "lap") (.inr ⟨rfl, rfl⟩) T : _)
  have F' : FnOk X.prog X.w X.K X.mg X.base CX0 1 (HkQ.gAd X.K ("Market", some "many")) fd ["self"] (spMany X.K) := by rw [hP]; exact F
  have r1 := pe_prop (pos := pos) he T.cl_Join hp1 F' (hr.mono hn) b .nil (E := E0) pass0 hab
  have r2 := pe_prop (pos := pos) he T.cl_Lap hp2 F' (hr.mono hn) b .nil (E := E0) pass0 hab
  refine ⟨fun pins s σ H Q I h => ?_⟩
  refine attr_of hab (thn (he.run pins s σ H _ I h) fun u s1 ⟨x, H1, I1, rx, a, kd, sz, us, rs, ns, ex, M, q⟩ => ?_)
  subst ex
  obtain rfl : u = Value.ref a := rx
  obtain ⟨C, dx, pr, pg, hM, h1, h2, h3⟩ := M.ob
  rcases hM with ⟨rfl, hk⟩ | ⟨rfl, hk⟩
  · exact getprop_ok I1 h1 T.cl_Join hp1 F' (hr.mono hn) b .nil (E := E0) pass0 ⟨a, kd, sz, us, rs, ns, rfl, M, q⟩
  · exact getprop_ok I1 h1 T.cl_Lap hp2 F' (hr.mono hn) b .nil (E := E0) pass0 ⟨a, kd, sz, us, rs, ns, rfl, M, q⟩
/-! ### first_wrong, in general -/
def fw (bs : List Bool) : V := match bs.findIdx? (fun b => !b) with
  | none => .non
  | some i => .int (i : Nat)
def spFirstG : Sp := fun vs H Q _ => ∃ (a : Addr) (bs : List Bool), vs = [.ref a] ∧ H a = some (.lst (bs.map V.bl)) ∧ ∀ H', Ex H H' → Q (fw bs) H'
theorem has_first_wrongG (T : Ctx K mg) : Has w K mg base CX0 "first_wrong" 1 ["flags"] spFirstG := by
  refine has_of (st := s_first_wrong) (f := He.ga K "first_wrong") T.d_first_wrong T.g_first_wrong (fun _ _ _ _ _ _ us hl => match us, hl with | [_], _ => rfl) fun fd F => ?_
  refine ok0 F sc_first_wrong (fun vs H Q E h => ?_) (fun cdv A outer s H vs Q E hr h => ?_)
  · obtain ⟨a, xs, rfl, _⟩ := h
    rfl
  · obtain ⟨a, bs, rfl, ha, k⟩ := h
    have nd := sc_first_wrong.nd
    refine ⟨_, pss_cons (ps_for PassesOwn.never rfl (pi_enum (by rfl) T.b_enumerate (pa_cons (pv 0) pa_nil)) (pg_tup (by rfl) (pgs_cons (pg_name (i := 1) nd rfl (.inl rfl)) (pgs_cons (pg_name (i := 2) nd rfl (.inl rfl)) pgs_nil)))
        (pss_one (ps_if (pt_not (pt_val (pv 2))) (pss_one (ps_ret (pv 1))) pss_nil)))
      (pss_one (ps_ret pe_non)), ?_⟩
    refine ⟨_, rfl, a, bs.map V.bl, rfl, SqL.of ha, for_it walk_enum (fun i σ H' => ∃ p f : Option V, σ = [some (.ref a), p, f] ∧ Ex H H' ∧ ∀ j, j < i → bs[j]? = some true) ⟨none, none, rfl, Ex.refl H, fun j z => absurd z (Nat.not_lt_zero j)⟩ (fun i σ H' _ ⟨_, _, _, e, _⟩ => Ex.lst e ha) ?_ ?_⟩
    · rintro i v σ H1 H2 hi ⟨p, f, rfl, e, hb⟩ ⟨t, x, y, rfl, ht, rfl, hx1, hy⟩
      cases hx1
      have hi' : i < bs.length := by rw [List.length_map] at hi; exact hi
      have hbi : bs[i]? = some bs[i] := List.getElem?_eq_getElem hi'
      have hy2 : (bs.map V.bl)[i]? = some y := hy
      rw [List.getElem?_map, hbi] at hy2
      obtain rfl : V.bl bs[i] = y := Option.some.inj hy2
      generalize hbb : bs[i] = b at *
      refine ⟨t, _, rfl, SqT.of upd_same, rfl, _, _, rfl, _, _, rfl, rfl, ?_⟩
      refine ⟨_, rfl, b, rfl, ?_⟩
      cases b with
      | true =>
        refine iteF ⟨_, _, rfl, e.trans (Ex.new ht), fun j hj => ?_⟩
        by_cases c : j = i
        · rw [c]; exact hbi
        · exact hb j (by omega)
      | false =>
        refine iteT ⟨_, rfl, ?_⟩
        have hf : bs.findIdx? (fun b => !b) = some i := by
          rw [List.findIdx?_eq_some_iff_getElem]
          refine ⟨hi', by rw [hbb]; rfl, fun j hj => ?_⟩
          have := hb j hj
          rw [List.getElem?_eq_getElem (by omega)] at this
          rw [Option.some.inj this]
          simp
        have k' := k _ (e.trans (Ex.new (o := .tup [.int (i : Nat), .bl false]) ht))
        unfold fw at k'
        rw [hf] at k'
        exact k'
    · rintro σ H1 ⟨p, f, rfl, e, hb⟩
      rw [List.length_map] at hb
      have hf : bs.findIdx? (fun b => !b) = none := by
        rw [List.findIdx?_eq_none_iff]
        intro b hbm
        obtain ⟨j, hj⟩ := List.mem_iff_getElem?.mp hbm
        have := hb j (List.getElem?_eq_some_iff.mp hj).1
        rw [this] at hj
        rw [← Option.some.inj hj]
        rfl
      have k' := k H1 e
      unfold fw at k'
      rw [hf] at k'
      exact k'
theorem fw_all {bs : List Bool} (h : ∀ b ∈ bs, b = true) : fw bs = .non := by
  have hf : bs.findIdx? (fun b => !b) = none := by
    rw [List.findIdx?_eq_none_iff]
    intro b hb
    rw [h b hb]
    rfl
  unfold fw
  rw [hf]
theorem fw_iff (bs : List Bool) : decide (fw bs = .non) = bs.all id := by
  unfold fw
  cases h : bs.findIdx? (fun b => !b) with
  | none =>
    rw [List.findIdx?_eq_none_iff] at h
    have : bs.all id = true := List.all_eq_true.mpr fun b hb => by
      have := h b hb
      simpa using this
    rw [this]
    simp
  | some i =>
    obtain ⟨hi, hb, _⟩ := List.findIdx?_eq_some_iff_getElem.mp h
    have : bs.all id = false := by
      rw [← Bool.not_eq_true]
      intro z
      have := List.all_eq_true.mp z _ (List.getElem_mem hi)
      simp at hb
      rw [hb] at this
      cases this
    rw [this]
    simp
/-! ### is_lap -/
def spIsLap (K : PySem.W.Frag) : Sp := fun vs H Q _ => ∃ (x : Addr) (kd : Str) (s : Int) (us : List V) (rs : List (Int × Int)) (ns : List Int), vs = [.ref x] ∧ Mkt K H x kd s us rs ns ∧ Q (.bl (decide (kd = "lap"))) H
theorem sc_is_lap : FnScope ["market"] ["market"] (defScope s_is_lap) := ⟨rfl, rfl, rfl, by decide +kernel, rfl, by decide +kernel, by decide +kernel⟩
theorem k_KIND1 : ¬ (("KIND" : Str) = "size") := by decide +kernel
theorem k_KIND2 : ¬ (("KIND" : Str) = "runs") := by decide +kernel
theorem k_KIND3 : ¬ (("KIND" : Str) = "gone") := by decide +kernel
theorem has_is_lap (T : Ctx K mg) : Has w K mg base CX0 "is_lap" 1 ["market"] (spIsLap K) := by
  refine has_of (st := s_is_lap) (f := He.ga K "is_lap") T.d_is_lap T.g_is_lap (fun _ _ _ _ _ _ us hl => match us, hl with | [_], _ => rfl) fun fd F => ?_
  refine ok0 F sc_is_lap (fun vs H Q E h => ?_) (fun cdv A outer s H vs Q E hr h => ?_)
  · obtain ⟨x, kd, s, us, rs, ns, rfl, _⟩ := h
    rfl
  · obtain ⟨x, kd, s, us, rs, ns, rfl, M, k⟩ := h
    obtain ⟨C, dx, pr, pg, hM, h1, h2, h3⟩ := M.ob
    obtain ⟨u, hC⟩ := hM.con T
    refine ⟨_, pss_one (ps_ret (pe_cmpR op_eq (pe_con (pv 0) rfl) pe_str (nomark _))), ?_⟩
    refine ⟨_, rfl, x, C, dx, _, _, _, rfl, h1, hM.cl T, hC, mf_no _ _ _ k_KIND1 k_KIND2 k_KIND3, ?_⟩
    refine ⟨rfl, ?_⟩
    have e : decide (V.str kd = V.str "lap") = decide (kd = "lap") := decide_eq_decide.mpr ⟨fun z => by injection z, fun z => by rw [z]⟩
    show Q (V.bl (decide (V.str kd = V.str "lap"))) H
    rw [e]
    exact k
end
end K05


set_option Elab.async false
set_option linter.all false
set_option maxRecDepth 100000
set_option maxHeartbeats 4000000
namespace K05
open PySem PySem.Spec PyProof.Rows L2
open Evl (Ex)
/-- one walk or the other -/
theorem pi_or {X : Cx} {tg it : Expr} {a b : TI} (ha : PI X tg it a) (hb : PI X tg it b) : PI X tg it (fun σ H R => a σ H R ∨ b σ H R) := ⟨fun pins s σ H R I h => h.elim (ha.run pins s σ H R I) (hb.run pins s σ H R I)⟩
theorem fw_at {bs : List Bool} {n : Nat} (h : bs[n]? = some false) (h2 : ∀ j, j < n → bs[j]? = some true) : fw bs = .int (n : Nat) := by
  have e : bs.findIdx? (fun b => !b) = some n := by
    rw [List.findIdx?_eq_some_iff_getElem]
    have hl : n < bs.length := (List.getElem?_eq_some_iff.mp h).1
    refine ⟨hl, ?_, fun j hj => ?_⟩
    · rw [List.getElem?_eq_getElem hl] at h
      rw [Option.some.inj h]; rfl
    · have hjl : j < bs.length := by omega
      have := h2 j hj
      rw [List.getElem?_eq_getElem hjl] at this
      rw [Option.some.inj this]; decide
  unfold fw
  rw [e]
section
variable {w : World} {K : PySem.W.Frag} {mg : Str → Option Value} {base : Heap}
theorem gTupK {X : Cx} (hK : X.K = K) {tg : Expr} {t : TGs} {n : Nat} (h : PG X tg (gTup X.K n t)) : PG X tg (gTup K n t) := by
  subst hK
  exact h
/-- an own error with its field leaves the def -/
def Err (K : PySem.W.Frag) (c f : Str) (H : Hp) (E : XK) (v : V) : Prop := ∀ H' d, Ex H H' → H d = none → H' d = some (.xd [(f, v)]) → E (.ref (He.ga K c)) (some d) H'
theorem Err.go {c f : Str} {H H1 : Hp} {E : XK} {v : V} {d : Addr} (h : Err K c f H E v) (e : Ex H H1) (hd : H1 d = none) : E (.ref (He.ga K c)) (some d) (upd H1 d (.xd [(f, v)])) := h _ _ (e.trans (Ex.new hd)) (Evl.fresh_back e hd) upd_same
theorem Err.ex {c f : Str} {H H1 : Hp} {E : XK} {v : V} (h : Err K c f H E v) (e : Ex H H1) : Err K c f H1 E v := fun H' d e' hd hx => h H' d (e.trans e') (Evl.fresh_back e hd) hx
theorem Bad.err {H : Hp} {E : XK} {n : Int} (h : Err K "BadSet" "place" H E (.int n)) : Bad K H E n := h
theorem Ctx.bd (T : Ctx K mg) : PySem.BadDemandX.BadDemandTxt K mg (He.ga K "BadDemand") (He.ma K (He.ga K "BadDemand") "__init__") := by
  obtain ⟨fd, F⟩ := T.d_BadDemand___init__
  obtain ⟨oc, od, dV, kV, doc, pm, an, cdv, ct, osl, rfl, lk, hcd, hD, hK⟩ := F.ex
  rcases hD with ⟨_, rfl⟩ | ⟨e, _⟩
  · exact ⟨T.g_BadDemand, T.xc_BadDemand, T.xsa_BadDemand, T.xga_BadDemand, T.xgg_BadDemand, T.xnn_BadDemand, T.xii_BadDemand, T.xt_BadDemand, T.xk_BadDemand, T.xs_BadDemand, T.xy_BadDemand, T.xd_BadDemand, T.te_BadDemand, ⟨oc, od, kV, doc, pm, an, cdv, ct, osl, _, _, _, _, _, _, lk, hcd⟩⟩
  · exact absurd rfl e
theorem Ctx.bo (T : Ctx K mg) : PySem.BadPointX.BadPointTxt K mg (He.ga K "BadPoint") (He.ma K (He.ga K "BadPoint") "__init__") := by
  obtain ⟨fd, F⟩ := T.d_BadPoint___init__
  obtain ⟨oc, od, dV, kV, doc, pm, an, cdv, ct, osl, rfl, lk, hcd, hD, hK⟩ := F.ex
  rcases hD with ⟨_, rfl⟩ | ⟨e, _⟩
  · exact ⟨T.g_BadPoint, T.xc_BadPoint, T.xsa_BadPoint, T.xga_BadPoint, T.xgg_BadPoint, T.xnn_BadPoint, T.xii_BadPoint, T.xt_BadPoint, T.xk_BadPoint, T.xs_BadPoint, T.xy_BadPoint, T.xd_BadPoint, T.te_BadPoint, ⟨oc, od, kV, doc, pm, an, cdv, ct, osl, _, _, _, _, _, _, lk, hcd⟩⟩
  · exact absurd rfl e
theorem Ctx.br (T : Ctx K mg) : PySem.BadRunX.BadRunTxt K mg (He.ga K "BadRun") (He.ma K (He.ga K "BadRun") "__init__") := by
  obtain ⟨fd, F⟩ := T.d_BadRun___init__
  obtain ⟨oc, od, dV, kV, doc, pm, an, cdv, ct, osl, rfl, lk, hcd, hD, hK⟩ := F.ex
  rcases hD with ⟨_, rfl⟩ | ⟨e, _⟩
  · exact ⟨T.g_BadRun, T.xc_BadRun, T.xsa_BadRun, T.xga_BadRun, T.xgg_BadRun, T.xnn_BadRun, T.xii_BadRun, T.xt_BadRun, T.xk_BadRun, T.xs_BadRun, T.xy_BadRun, T.xd_BadRun, T.te_BadRun, ⟨oc, od, kV, doc, pm, an, cdv, ct, osl, _, _, _, _, _, _, lk, hcd⟩⟩
  · exact absurd rfl e
theorem Ctx.bn (T : Ctx K mg) : PySem.BadNumberX.BadNumberTxt K mg (He.ga K "BadNumber") (He.ma K (He.ga K "BadNumber") "__init__") := by
  obtain ⟨fd, F⟩ := T.d_BadNumber___init__
  obtain ⟨oc, od, dV, kV, doc, pm, an, cdv, ct, osl, rfl, lk, hcd, hD, hK⟩ := F.ex
  rcases hD with ⟨_, rfl⟩ | ⟨e, _⟩
  · exact ⟨T.g_BadNumber, T.xc_BadNumber, T.xsa_BadNumber, T.xga_BadNumber, T.xgg_BadNumber, T.xnn_BadNumber, T.xii_BadNumber, T.xt_BadNumber, T.xk_BadNumber, T.xs_BadNumber, T.xy_BadNumber, T.xd_BadNumber, T.te_BadNumber, ⟨oc, od, kV, doc, pm, an, cdv, ct, osl, _, _, _, _, _, _, lk, hcd⟩⟩
  · exact absurd rfl e
/-! ### demand_of -/
def Dem (H : Hp) (s : Nat) (v : V) (D : List Int) : Prop := (∃ n, v = .int n ∧ D = List.replicate s n) ∨ (RowI H v D ∧ D.length = s)
theorem Dem.len {H : Hp} {s : Nat} {v : V} {D : List Int} (h : Dem H s v D) : D.length = s := by
  rcases h with ⟨n, _, rfl⟩ | ⟨_, h⟩
  · exact List.length_replicate
  · exact h
theorem Dem.ex {H H' : Hp} {s : Nat} {v : V} {D : List Int} (h : Dem H s v D) (e : Ex H H') : Dem H' s v D := h.imp id fun z => ⟨z.1.ex e, z.2⟩
/-- no demand; the first wrong place, -1 for the form -/
def DemBad (H : Hp) (s : Nat) (v : V) (n : Int) : Prop :=
  (Kd H v ∧ isI v = false ∧ isR v = false ∧ n = -1) ∨ (∃ a xs, v = .ref a ∧ H a = some (.lst xs) ∧ xs.length ≠ s ∧ n = -1) ∨
  (∃ (a : Addr) (D : List Int) (y : V) (ys : List V), v = .ref a ∧ H a = some (.lst (D.map V.int ++ y :: ys)) ∧ D.length + 1 + ys.length = s ∧ Kd H y ∧ isI y = false ∧ (∀ z ∈ ys, Kd H z) ∧ n = (D.length : Nat))
theorem DemBad.ex {H H' : Hp} {s : Nat} {v : V} {n : Int} (h : DemBad H s v n) (e : Ex H H') : DemBad H' s v n := by
  rcases h with ⟨a, b⟩ | ⟨a, xs, rfl, h, b⟩ | ⟨a, D, y, ys, rfl, h, b, hy, c, d, f⟩
  · exact .inl ⟨a.ex e, b⟩
  · exact .inr (.inl ⟨a, xs, rfl, e _ _ h, b⟩)
  · exact .inr (.inr ⟨a, D, y, ys, rfl, e _ _ h, b, hy.ex e, c, fun z hz => (d z hz).ex e, f⟩)
abbrev BadD (K : PySem.W.Frag) (H : Hp) (E : XK) (n : Int) : Prop := Err K "BadDemand" "place" H E (.int n)
def spDemand (K : PySem.W.Frag) : Sp := fun vs H Q E => ∃ (x : Addr) (kd : Str) (s : Nat) (us : List V) (rs : List (Int × Int)) (ns : List Int) (v : V), vs = [.ref x, v] ∧ Mkt K H x kd (s : Int) us rs ns ∧ s ≤ 50 ∧
  ((∃ D, Dem H s v D ∧ ∀ H' p, Ex H H' → H' p = some (.tup (D.map V.int)) → Q (.ref p) H') ∨ (∃ n, DemBad H s v n ∧ BadD K H E n))
theorem sc_demand_of : FnScope ["market", "demand", "place", "item"] ["market", "demand"] (defScope s_demand_of) := ⟨rfl, rfl, rfl, by decide +kernel, rfl, by decide +kernel, by decide +kernel⟩
theorem rep_flat (n : Int) : ∀ s : Nat, (List.replicate s [V.int n]).flatten = (List.replicate s n).map V.int
  | 0 => rfl
  | s + 1 => by
    rw [List.replicate_succ, List.replicate_succ, List.map_cons, List.flatten_cons, rep_flat n s]
    rfl
theorem has_demand_of (T : Ctx K mg) : Has w K mg base (L2.CX PP w) "demand_of" 2 ["market", "demand"] (spDemand K) := by
  obtain ⟨f1, fd1, m1, kp1, F1, b1⟩ := has_is_wholeG (w := w) (base := base) T
  obtain ⟨f2, fd2, m2, kp2, F2, b2⟩ := has_is_rowG (w := w) (base := base) T
  obtain ⟨f3, fd3, m3, kp3, F3, b3⟩ := has_first_wrongG (w := w) (base := base) T
  refine has_of (st := s_demand_of) (f := He.ga K "demand_of") T.d_demand_of T.g_demand_of (fun _ _ _ _ _ _ us hl => match us, hl with | [_, _], _ => rfl) fun fd F => ?_
  refine okX F sc_demand_of (fun vs H Q E h => ?_) (fun cdv A outer s0 H vs Q E hr h => ?_)
  · obtain ⟨x, kd, s, us, rs, ns, v, rfl, _⟩ := h
    rfl
  · obtain ⟨x, kd, s, us, rs, ns, v, rfl, M, hs50, hD⟩ := h
    obtain ⟨C, dx, pr, pg, hM, h1, h2, h3⟩ := M.ob
    have nd := sc_demand_of.nd
    refine ⟨_, pss_cons (ps_if (pt_val (pe_call F1 hr (by rfl) m1 kp1 b1 .nil pass0 (pa_cons (pv 1) pa_nil))) (pss_one (ps_ret (pe_callTy call_tuple_of (by rfl) T.b_tuple (by decide +kernel) (pa_cons (pe_op op_rep (pe_lst (pa_cons (pv 1) pa_nil)) (pe_fld (pv 0) rfl)) pa_nil)))) pss_nil)
      (pss_cons (ps_if (PW.pt (pw_or (pt_not (pt_val (pe_call F2 hr (by rfl) m2 kp2 b2 .nil pass0 (pa_cons (pv 1) pa_nil)))) (pw_or1 (pt_cmpR op_ne (pe_callB call_len_seq (by rfl) T.b_len PySem.boot_len (pa_cons (pv 1) pa_nil)) (pe_fld (pv 0) rfl) (nomark _))))) (pss_one (ps_raiseBadDemand (W := fun cls d _ H => E cls d H) rfl T.bd hr (takes_of rfl rfl rfl rfl) (pa_cons (pe_un un_neg pe_int) pa_nil))) pss_nil)
      (pss_cons (ps_set (i := 2) nd rfl (.inl rfl) (pe_call F3 hr (by rfl) m3 kp3 b3 .nil pass0 (pa_cons
        (pe_lc (own := [("item", 3)]) (g := gName 3) (tt := tYes) rfl nd (pi_or (pi_list (pv 1)) (pi_tup (pv 1))) (blkOk_by (own := [("item", 3)]) (N := ["market", "demand", "place", "item"]) (sc := defScope s_demand_of) (by decide +kernel)) (fun _ _ _ _ _ => pg_name (i := 3) nd rfl (Or.inl rfl)) (fun _ _ _ _ _ => pts_nil)
          (fun _ _ _ _ _ => pe_call F1 hr (by rfl) m1 kp1 b1 .nil pass0 (pa_cons (pv 3) pa_nil))) pa_nil)))
      (pss_cons (ps_if (pt_cmpR op_notN (pv 2) pe_non (nomark _)) (pss_one (ps_raiseBadDemand (W := fun cls d _ H => E cls d H) rfl T.bd hr (takes_of rfl rfl rfl rfl) (pa_cons (pv 2) pa_nil))) pss_nil)
      (pss_one (ps_ret (pe_callTy call_tuple_of (by rfl) T.b_tuple (by decide +kernel) (pa_cons (pv 1) pa_nil))))))), ?_⟩
    have hc : (∃ n, v = .int n ∧ ∀ H' p, Ex H H' → H' p = some (.tup ((List.replicate s n).map V.int)) → Q (.ref p) H') ∨ (Kd H v ∧ isI v = false ∧ isR v = false ∧ BadD K H E (-1)) ∨
        (∃ a xs, v = .ref a ∧ (H a = some (.lst xs) ∨ H a = some (.tup xs)) ∧ ((xs.length = s ∧ (∀ z ∈ xs, Kd H z) ∧ ((fw (xs.map isI) = .non ∧ ∀ H' p, Ex H H' → H' p = some (.tup xs) → Q (.ref p) H') ∨ (∃ n : Int, fw (xs.map isI) = .int n ∧ BadD K H E n))) ∨ (xs.length ≠ s ∧ BadD K H E (-1)))) := by
      rcases hD with ⟨D, ⟨n, rfl, rfl⟩ | ⟨⟨a, rfl, ha⟩, hl⟩, k⟩ | ⟨n, ⟨q1, q2, q3, rfl⟩ | ⟨a, xs, rfl, ha, hl, rfl⟩ | ⟨a, D, y, ys, rfl, ha, hl, hy, hyi, hys, rfl⟩, hB⟩
      · exact .inl ⟨n, rfl, k⟩
      · refine .inr (.inr ⟨a, _, rfl, ha, .inl ⟨by rw [List.length_map]; exact hl, fun z hz => ?_, .inl ⟨fw_all fun b hb => ?_, k⟩⟩⟩)
        · obtain ⟨i, _, rfl⟩ := List.mem_map.mp hz
          exact .int i
        · rw [List.map_map] at hb
          obtain ⟨i, _, rfl⟩ := List.mem_map.mp hb
          rfl
      · exact .inr (.inl ⟨q1, q2, q3, hB⟩)
      · exact .inr (.inr ⟨a, xs, rfl, .inl ha, .inr ⟨hl, hB⟩⟩)
      · refine .inr (.inr ⟨a, _, rfl, .inl ha, .inl ⟨by rw [List.length_append, List.length_map, List.length_cons]; omega, fun z hz => ?_, .inr ⟨_, fw_at (n := D.length) ?_ fun j hj => ?_, hB⟩⟩⟩)
        · rcases List.mem_append.mp hz with hz | hz
          · obtain ⟨i, _, rfl⟩ := List.mem_map.mp hz
            exact .int i
          · rcases List.mem_cons.mp hz with rfl | hz
            · exact hy
            · exact hys z hz
        · rw [List.getElem?_map, List.getElem?_append_right (by rw [List.length_map]; exact Nat.le_refl _), List.length_map, Nat.sub_self, List.getElem?_cons_zero]
          exact congrArg some hyi
        · rw [List.getElem?_map, List.getElem?_append_left (by rw [List.length_map]; exact hj), List.getElem?_map, List.getElem?_eq_getElem hj]
          rfl
    clear hD
    rcases hc with ⟨n, rfl, k⟩ | ⟨q1, q2, q3, hB⟩ | ⟨a, xs, rfl, ha, hc⟩
    · refine ⟨_, rfl, _, rfl, .int n, true, rfl, iteT ?_⟩
      refine ⟨_, rfl, (by show 1 ≤ sizeLine; decide), fun p0 hp0 => ?_⟩
      have e0 := Ex.new (o := .lst [V.int n]) hp0
      refine ⟨_, rfl, x, C, dx, _, _, rfl, e0 _ _ h1, hM.cl T, hM.nS T, mf_size _ _ _, p0, _, _, rfl, rfl, upd_same, ?_, ?_, ?_, fun q hq => ?_⟩
      · omega
      · omega
      · refine Nat.le_trans (show 1 * (s : Int).toNat ≤ 1000 by omega) (by decide)
      have e1 := e0.trans (Ex.new (o := .lst (List.replicate ((s : Int).toNat) [V.int n]).flatten) hq)
      refine ⟨q, _, rfl, .inl ⟨SqL.of upd_same, fun l hl => k _ l (e1.trans (Ex.new hl)) ?_⟩⟩
      rw [upd_same, Int.toNat_natCast, rep_flat]
    · refine ⟨_, rfl, _, rfl, q1, isI v, rfl, ?_⟩
      rw [q2]
      refine iteF ⟨_, rfl, _, rfl, q1, fun H1 e1 => ⟨isR v, rfl, ?_⟩⟩
      rw [q3]
      exact iteT ⟨_, rfl, _, rfl, fun d hd => hB.go e1 hd⟩
    · have hKd : Kd H (.ref a) := ha.elim Kd.lst Kd.tup
      refine ⟨_, rfl, _, rfl, hKd, false, rfl, iteF ?_⟩
      refine ⟨_, rfl, _, rfl, hKd, fun H1 e1 => ⟨true, rfl, iteF ?_⟩⟩
      have hsq : SqL K H1 a xs ∨ SqT K H1 a xs := ha.imp (fun z => Ex.lst e1 z) (fun z => Ex.tup e1 z)
      refine ⟨_, rfl, a, _, rfl, hsq, _, rfl, x, C, dx, _, _, rfl, e1 _ _ h1, hM.cl T, hM.nS T, mf_size _ _ _, rfl, _, rfl, ?_⟩
      rcases hc with ⟨hlen, hkx, hc⟩ | ⟨hlen, hB⟩
      · refine iteF' (by rw [hlen]; simp) ?_
        have fin : ∀ (D' : Addr) (H2 : Hp), Ex H H2 → H2 D' = some (.lst ((xs.map isI).map V.bl)) → ∀ (v : Addr), v = D' → True := fun _ _ _ _ _ _ => trivial
        rcases ha with ha | ha
        · refine .inl ⟨_, rfl, a, rfl, ⟨_, Ex.lst e1 ha⟩, fun D' hD' => lc_it walk_list (fun i H' => Ex H H' ∧ H' D' = some (.lst (((xs.take i).map isI).map V.bl))) ⟨e1.trans (Ex.new hD'), upd_same⟩ (fun i H' _ q => Ex.lst q.1 ha) ?_ ?_⟩
          · rintro i y H2 H3 hi ⟨e2, hD2⟩ ⟨rfl, hy⟩
            refine ⟨rfl, tYesI ?_⟩
            refine ⟨_, rfl, _, rfl, (hkx y (List.mem_of_getElem? hy)).ex e2, _, hD2, by rw [List.length_map, List.length_map, List.length_take]; exact small1000 (by omega), Evl.Ex.mut e2 (Evl.fresh_back e1 hD'), ?_⟩
            rw [upd_same, List.take_add_one, (show xs[i]? = some y from hy), List.map_append, List.map_append]
            rfl
          · rintro H2 ⟨e2, hD2⟩
            rw [List.take_length] at hD2
            refine ⟨D', _, rfl, hD2, fun H3 e3 => ?_⟩
            have e4 := e2.trans e3
            rcases hc with ⟨hf, k⟩ | ⟨n, hf, hB⟩
            · rw [hf]
              refine ⟨_, rfl, rfl, _, rfl, iteF ?_⟩
              exact ⟨_, rfl, a, _, rfl, .inl ⟨Ex.lst e4 ha, fun l hl => k _ l (e4.trans (Ex.new hl)) upd_same⟩⟩
            · rw [hf]
              refine ⟨_, rfl, rfl, _, rfl, iteT ?_⟩
              exact ⟨_, rfl, _, rfl, fun d hd => hB.go e4 hd⟩
        · refine .inr ⟨_, rfl, a, rfl, ⟨_, Ex.tup e1 ha⟩, fun D' hD' => lc_it walk_tup (fun i H' => Ex H H' ∧ H' D' = some (.lst (((xs.take i).map isI).map V.bl))) ⟨e1.trans (Ex.new hD'), upd_same⟩ (fun i H' _ q => Ex.tup q.1 ha) ?_ ?_⟩
          · rintro i y H2 H3 hi ⟨e2, hD2⟩ ⟨rfl, hy⟩
            refine ⟨rfl, tYesI ?_⟩
            refine ⟨_, rfl, _, rfl, (hkx y (List.mem_of_getElem? hy)).ex e2, _, hD2, by rw [List.length_map, List.length_map, List.length_take]; exact small1000 (by omega), Evl.Ex.mut e2 (Evl.fresh_back e1 hD'), ?_⟩
            rw [upd_same, List.take_add_one, (show xs[i]? = some y from hy), List.map_append, List.map_append]
            rfl
          · rintro H2 ⟨e2, hD2⟩
            rw [List.take_length] at hD2
            refine ⟨D', _, rfl, hD2, fun H3 e3 => ?_⟩
            have e4 := e2.trans e3
            rcases hc with ⟨hf, k⟩ | ⟨n, hf, hB⟩
            · rw [hf]
              refine ⟨_, rfl, rfl, _, rfl, iteF ?_⟩
              exact ⟨_, rfl, a, _, rfl, .inr ⟨Ex.tup e4 ha, k _ a e4 (e4 _ _ ha)⟩⟩
            · rw [hf]
              refine ⟨_, rfl, rfl, _, rfl, iteT ?_⟩
              exact ⟨_, rfl, _, rfl, fun d hd => hB.go e4 hd⟩
      · refine iteT' (by rw [decide_eq_false (fun z => hlen (by injection z with z; omega))]; rfl) ?_
        exact ⟨_, rfl, _, rfl, fun d hd => hB.go e1 hd⟩
end
end K05


set_option Elab.async false
set_option linter.all false
set_option maxRecDepth 100000
set_option maxHeartbeats 4000000
namespace K05
open PySem PySem.Spec PyProof.Rows L2
open Evl (Ex)
/-- the cover is as the kind wants it -/
def okAt (kd : Str) (c d : Int) : Bool := if kd = "lap" then decide (d ≤ c) else decide (c = d)
def okRow (kd : Str) : List Int → List Int → List Bool
  | c :: C, d :: D => okAt kd c d :: okRow kd C D
  | _, _ => []
theorem okRow_get (kd : Str) : ∀ (C D : List Int) (i : Nat) (c d : Int), C[i]? = some c → D[i]? = some d → (okRow kd C D)[i]? = some (okAt kd c d)
  | [], _, i, c, d, h, _ => by simp at h
  | _ :: _, [], i, c, d, _, h => by simp at h
  | c :: C, d :: D, 0, _, _, h1, h2 => by cases h1; cases h2; rfl
  | c :: C, d :: D, i + 1, x, y, h1, h2 => okRow_get kd C D i x y h1 h2
theorem okRow_len (kd : Str) : ∀ (C D : List Int), C.length = D.length → (okRow kd C D).length = C.length
  | [], [], _ => rfl
  | [], _ :: _, h => by cases h
  | _ :: _, [], h => by cases h
  | c :: C, d :: D, h => by
    show (okRow kd C D).length + 1 = C.length + 1
    rw [okRow_len kd C D (Nat.succ.inj h)]
section
variable {w : World} {K : PySem.W.Frag} {mg : Str → Option Value} {base : Heap}
def spFits (K : PySem.W.Frag) : Sp := fun vs H Q _ => ∃ (x : Addr) (kd : Str) (s : Int) (us : List V) (rs : List (Int × Int)) (ns : List Int) (c d : Int), vs = [.ref x, .int c, .int d] ∧ Mkt K H x kd s us rs ns ∧ Q (.bl (okAt kd c d)) H
theorem sc_fits_place : FnScope ["market", "count", "wanted"] ["market", "count", "wanted"] (defScope s_fits_place) := ⟨rfl, rfl, rfl, by decide +kernel, rfl, by decide +kernel, by decide +kernel⟩
theorem has_fits_place (T : Ctx K mg) : Has w K mg base CX0 "fits_place" 2 ["market", "count", "wanted"] (spFits K) := by
  obtain ⟨f1, fd1, m1, kp1, F1, b1⟩ := has_is_lap (w := w) (base := base) T
  refine has_of (st := s_fits_place) (f := He.ga K "fits_place") T.d_fits_place T.g_fits_place (fun _ _ _ _ _ _ us hl => match us, hl with | [_, _, _], _ => rfl) fun fd F => ?_
  refine ok0 F sc_fits_place (fun vs H Q E h => ?_) (fun cdv A outer s0 H vs Q E hr h => ?_)
  · obtain ⟨x, kd, s, us, rs, ns, c, d, rfl, _⟩ := h
    rfl
  · obtain ⟨x, kd, s, us, rs, ns, c, d, rfl, M, k⟩ := h
    refine ⟨_, pss_cons (ps_if (pt_val (pe_call F1 hr (by rfl) m1 kp1 b1 .nil pass0 (pa_cons (pv 0) pa_nil))) (pss_one (ps_ret (pe_cmpR op_ge (pv 1) (pv 2) (nomark _)))) pss_nil)
      (pss_one (ps_ret (pe_cmpR op_eq (pv 1) (pv 2) (nomark _)))), ?_⟩
    refine ⟨_, rfl, x, kd, s, us, rs, ns, rfl, M, _, rfl, ?_⟩
    unfold okAt at k
    by_cases hk : kd = "lap"
    · rw [if_pos hk] at k
      exact iteT' (decide_eq_true hk) ⟨_, rfl, _, rfl, _, _, rfl, rfl, k⟩
    · rw [if_neg hk] at k
      refine iteF' (decide_eq_false hk) ⟨_, rfl, _, rfl, rfl, ?_⟩
      have e : decide (V.int c = V.int d) = decide (c = d) := decide_eq_decide.mpr ⟨fun z => by injection z, fun z => by rw [z]⟩
      show Q (V.bl (decide (V.int c = V.int d))) H
      rw [e]
      exact k
def spWrong (K : PySem.W.Frag) : Sp := fun vs H Q _ => ∃ (x a c : Addr) (kd : Str) (s : Nat) (us : List V) (rs : List (Int × Int)) (ns D ps : List Int), vs = [.ref x, .ref a, .ref c] ∧ Mkt K H x kd (s : Int) us rs ns ∧ s ≤ 50 ∧ (∀ r ∈ rs, Fits s r) ∧ H a = some (.tup (D.map V.int)) ∧ D.length = s ∧ H c = some (.tup (ps.map V.int)) ∧ (∀ n ∈ ps, 0 ≤ n ∧ n < rs.length) ∧
  ∀ H', Ex H H' → Q (fw (okRow kd (covL s rs ps) D)) H'
theorem sc_wrong_place : FnScope ["market", "wanted", "chosen", "pairs", "count", "number"] ["market", "wanted", "chosen"] (defScope s_wrong_place) := ⟨rfl, rfl, rfl, by decide +kernel, rfl, by decide +kernel, by decide +kernel⟩
theorem has_wrong_place (T : Ctx K mg) : Has w K mg base CX0 "wrong_place" 3 ["market", "wanted", "chosen"] (spWrong K) := by
  obtain ⟨f1, fd1, m1, kp1, F1, b1⟩ := has_covered (w := w) (base := base) T
  obtain ⟨f2, fd2, m2, kp2, F2, b2⟩ := has_first_wrongG (w := w) (base := base) T
  obtain ⟨f3, fd3, m3, kp3, F3, b3⟩ := has_fits_place (w := w) (base := base) T
  refine has_of (st := s_wrong_place) (f := He.ga K "wrong_place") T.d_wrong_place T.g_wrong_place (fun _ _ _ _ _ _ us hl => match us, hl with | [_, _, _], _ => rfl) fun fd F => ?_
  refine ok0 F sc_wrong_place (fun vs H Q E h => ?_) (fun cdv A outer s0 H vs Q E hr h => ?_)
  · obtain ⟨x, a, c, kd, s, us, rs, ns, D, ps, rfl, _⟩ := h
    rfl
  · obtain ⟨x, a, c, kd, s, us, rs, ns, D, ps, rfl, M, hs50, hF, ha, hDl, hc, inn, k⟩ := h
    have nd := sc_wrong_place.nd
    have hr1 := hr.mono (show 1 ≤ 2 by decide)
    refine ⟨_, pss_cons (ps_set (i := 3) nd rfl (.inl rfl) (pe_lstZip rfl (by rfl) T.b_list (by decide +kernel) (by rfl) T.b_zip (pa_cons (pe_call F1 hr1 (by rfl) m1 kp1 b1 .nil pass0 (pa_cons (pv 0) (pa_cons (pv 2) pa_nil))) (pa_cons (pv 1) pa_nil))))
      (pss_one (ps_ret (pe_call F2 hr1 (by rfl) m2 kp2 b2 .nil pass0 (pa_cons
        (pe_lc (own := [("count", 4), ("number", 5)]) (g := gTup K 2 (gCons (gName 4) (gCons (gName 5) gNil))) (tt := tYes) rfl nd (pi_list (pv 3)) (blkOk_by (own := [("count", 4), ("number", 5)]) (N := ["market", "wanted", "chosen", "pairs", "count", "number"]) (sc := defScope s_wrong_place) (by decide +kernel))
          (fun _ _ _ _ _ => gTupK rfl (pg_tup (by rfl) (pgs_cons (pg_name (i := 4) nd rfl (.inl rfl)) (pgs_cons (pg_name (i := 5) nd rfl (.inl rfl)) pgs_nil)))) (fun _ _ _ _ _ => pts_nil)
          (fun _ _ _ _ _ => pe_call F3 hr (by rfl) m3 kp3 b3 .nil pass0 (pa_cons (pv 0) (pa_cons (pv 4) (pa_cons (pv 5) pa_nil))))) pa_nil)))), ?_⟩
    refine ⟨_, rfl, _, rfl, x, c, kd, s, us, rs, ns, ps, rfl, M, hs50, hF, hc, inn, fun H1 q e1 hq hq1 => ?_⟩
    have hcl : (covL s rs ps).length = s := by unfold covL; exact row_len _ _
    refine ⟨_, rfl, q, a, _, _, rfl, SqT.of hq1, SqT.of (e1 _ _ ha), by rw [List.length_map, List.length_map, hcl, hDl], fun H2 p ts e2 hp hl hp2 hts => ?_⟩
    have e12 : Ex H H2 := e1.trans e2
    rw [List.length_map, hcl] at hl
    refine ⟨_, rfl, p, rfl, ⟨_, SqL.of hp2⟩, fun D' hD' => lc_it walk_list (fun i H' => Ex H2 H' ∧ H' D' = some (.lst (((okRow kd (covL s rs ps) D).take i).map V.bl))) ⟨Ex.new hD', upd_same⟩ (fun i H' _ z => Ex.lst z.1 hp2) ?_ ?_⟩
    · rintro i y H3 H4 hi ⟨e3, hD3⟩ ⟨rfl, hy⟩
      rw [List.length_map, hl] at hi
      obtain ⟨t, ht, rfl⟩ : ∃ t, ts[i]? = some t ∧ y = .ref t := by
        have hy2 : (ts.map V.ref)[i]? = some y := hy
        rw [List.getElem?_map] at hy2
        cases cc : ts[i]? with
        | none => rw [cc] at hy2; cases hy2
        | some t => rw [cc] at hy2; cases hy2; exact ⟨t, rfl, rfl⟩
      have hC : (covL s rs ps)[i]? = some ((covL s rs ps)[i]'(by omega)) := List.getElem?_eq_getElem (by omega)
      have hDi : D[i]? = some (D[i]'(by omega)) := List.getElem?_eq_getElem (by omega)
      generalize ((covL s rs ps)[i]'(by omega)) = cv at hC
      generalize (D[i]'(by omega)) = dv at hDi
      have htt := e3 _ _ (hts i t (.int cv) (.int dv) ht (by rw [List.getElem?_map, hC]; rfl) (by rw [List.getElem?_map, hDi]; rfl))
      refine ⟨t, _, rfl, SqT.of htt, rfl, _, _, rfl, _, _, rfl, rfl, ?_⟩
      refine ⟨rfl, tYesI ?_⟩
      refine ⟨_, rfl, _, rfl, _, rfl, x, kd, s, us, rs, ns, cv, dv, rfl, (M.ex e12).ex e3, ?_⟩
      refine ⟨_, hD3, ?_, Evl.Ex.mut e3 hD', ?_⟩
      · rw [List.length_map, List.length_take]
        exact small1000 (by omega)
      · rw [upd_same, List.take_add_one, okRow_get kd _ _ i cv dv hC hDi, List.map_append]
        rfl
    · rintro H3 ⟨e3, hD3⟩
      rw [List.length_map, hl, List.take_of_length_le (by rw [okRow_len kd _ _ (by rw [hcl, hDl]), hcl]; exact Nat.le_refl _)] at hD3
      exact ⟨D', _, rfl, hD3, fun H4 e4 => k H4 ((e12.trans e3).trans e4)⟩
/-! ### is_stock -/
def stockB (kd : Str) (s : Nat) (rs : List (Int × Int)) (ns D ps : List Int) : Bool := !(ps.any fun p => decide (p ∈ ns)) && (okRow kd (covL s rs ps) D).all id
theorem inV_ints (p : Int) : ∀ ns : List Int, inV (.int p) (ns.map V.int) = decide (p ∈ ns)
  | [] => by simp [inV]
  | n :: ns => by
    have ih := inV_ints p ns
    unfold inV at ih ⊢
    rw [List.map_cons, List.any_cons, ih]
    show ((n == p) || decide (p ∈ ns)) = _
    rw [Bool.eq_iff_iff]
    simp only [Bool.or_eq_true, beq_iff_eq, decide_eq_true_eq, List.mem_cons]
    exact ⟨fun z => z.imp Eq.symm id, fun z => z.imp Eq.symm id⟩
theorem flat_ints (ns : List Int) : (ns.map V.int).all flatV = true := List.all_eq_true.mpr fun v hv => by
  obtain ⟨n, _, rfl⟩ := List.mem_map.mp hv
  rfl
theorem op_inK {X : Cx} (h : X.K = K) : OpR X (compareOp .In) (rIn K false) := by
  subst h
  exact op_in_seq
theorem pe_fldK {X : Cx} (h : X.K = K) {e : Expr} {f : Str} {ta : TE} {pos : Pos} (he : PE X e ta) (hab : attributeBase e f X.env (eval e X.env) = eval e X.env) : PE X (.Attribute e f pos) (tFld K ta f) := by
  subst h
  exact pe_fld he hab
def spStockOf (K : PySem.W.Frag) : Sp := fun vs H Q _ => ∃ (x a c : Addr) (kd : Str) (s : Nat) (us : List V) (rs : List (Int × Int)) (ns D ps : List Int), vs = [.ref x, .ref a, .ref c] ∧ Mkt K H x kd (s : Int) us rs ns ∧ s ≤ 50 ∧ (∀ r ∈ rs, Fits s r) ∧ H a = some (.tup (D.map V.int)) ∧ D.length = s ∧ H c = some (.tup (ps.map V.int)) ∧ (∀ n ∈ ps, 0 ≤ n ∧ n < rs.length) ∧ ps.length ≤ 100 ∧
  ∀ H', Ex H H' → Q (.bl (stockB kd s rs ns D ps)) H'
theorem sc_is_stock_of : FnScope ["market", "wanted", "chosen", "part"] ["market", "wanted", "chosen"] (defScope s_is_stock_of) := ⟨rfl, rfl, rfl, by decide +kernel, rfl, by decide +kernel, by decide +kernel⟩
theorem has_is_stock_of (T : Ctx K mg) : Has w K mg base CX0 "is_stock_of" 4 ["market", "wanted", "chosen"] (spStockOf K) := by
  obtain ⟨f1, fd1, m1, kp1, F1, b1⟩ := has_wrong_place (w := w) (base := base) T
  refine has_of (st := s_is_stock_of) (f := He.ga K "is_stock_of") T.d_is_stock_of T.g_is_stock_of (fun _ _ _ _ _ _ us hl => match us, hl with | [_, _, _], _ => rfl) fun fd F => ?_
  refine ok0 F sc_is_stock_of (fun vs H Q E h => ?_) (fun cdv A outer s0 H vs Q E hr h => ?_)
  · obtain ⟨x, a, c, kd, s, us, rs, ns, D, ps, rfl, _⟩ := h
    rfl
  · obtain ⟨x, a, c, kd, s, us, rs, ns, D, ps, rfl, M, hs50, hF, ha, hDl, hc, inn, hpl, k⟩ := h
    obtain ⟨C, dx, pr, pg, hM, h1, h2, h3⟩ := M.ob
    have nd := sc_is_stock_of.nd
    refine ⟨_, pss_cons (ps_if (pt_val (pe_callB (cr_any rfl) (by rfl) T.b_any (by decide +kernel) (pa_cons
        (pe_lc (own := [("part", 3)]) (g := gName 3) (tt := tYes) rfl nd (pi_tup (pv 2)) (blkOk_by (own := [("part", 3)]) (N := ["market", "wanted", "chosen", "part"]) (sc := defScope s_is_stock_of) (by decide +kernel)) (fun _ _ _ _ _ => pg_name (i := 3) nd rfl (Or.inl rfl)) (fun _ _ _ _ _ => pts_nil)
          (fun _ _ _ _ _ => pe_cmpR (op_inK (K := K) rfl) (pv 3) (pe_fldK (K := K) rfl (pv 0) rfl) (by rfl))) pa_nil))) (pss_one (ps_ret pe_bl)) pss_nil)
      (pss_one (ps_ret (pe_cmpR op_isN (pe_call F1 hr (by rfl) m1 kp1 b1 .nil pass0 (pa_cons (pv 0) (pa_cons (pv 1) (pa_cons (pv 2) pa_nil)))) pe_non (nomark _)))), ?_⟩
    refine ⟨_, rfl, c, rfl, ⟨_, SqT.of hc⟩, fun D' hD' => lc_it walk_tup (fun i H' => Ex H H' ∧ H' D' = some (.lst (((ps.take i).map fun p => decide (p ∈ ns)).map V.bl))) ⟨Ex.new hD', upd_same⟩ (fun i H' _ z => Ex.tup z.1 hc) ?_ ?_⟩
    · rintro i y H3 H4 hi ⟨e3, hD3⟩ ⟨rfl, hy⟩
      obtain ⟨p, hp, rfl⟩ := map_int_get hy
      have hil : i < ps.length := (List.getElem?_eq_some_iff.mp hp).1
      refine ⟨rfl, tYesI ?_⟩
      refine ⟨_, rfl, _, rfl, x, C, dx, _, _, rfl, e3 _ _ h1, hM.cl T, hM.nG T, mf_gone _ _ _, ?_⟩
      refine ⟨pg, _, rfl, .inr (SqT.of (e3 _ _ h3)), rfl, flat_ints ns, ?_⟩
      rw [inV_ints]
      refine ⟨_, hD3, ?_, Evl.Ex.mut e3 hD', ?_⟩
      · rw [List.length_map, List.length_map, List.length_take]
        exact small1000 (by omega)
      · rw [upd_same, List.take_add_one, hp, List.map_append, List.map_append]
        rfl
    · rintro H3 ⟨e3, hD3⟩
      rw [List.length_map, List.take_length] at hD3
      refine ⟨D', _, rfl, SqL.of hD3, _, rfl, ?_⟩
      have ea : ((ps.map fun p => decide (p ∈ ns)).any id) = ps.any fun p => decide (p ∈ ns) := by
        rw [List.any_map]
        rfl
      rw [ea]
      unfold stockB at k
      cases hg : ps.any fun p => decide (p ∈ ns) with
      | true =>
        rw [hg] at k
        exact iteT (k _ e3)
      | false =>
        rw [hg] at k
        refine iteF ?_
        refine ⟨_, rfl, _, rfl, _, rfl, x, a, c, kd, s, us, rs, ns, D, ps, rfl, M.ex e3, hs50, hF, e3 _ _ ha, hDl, e3 _ _ hc, inn, fun H4 e4 => ?_⟩
        refine ⟨rfl, ?_⟩
        rw [fw_iff]
        exact k _ (e3.trans e4)
theorem Ord.inn {ns ms : List Int} {m : Int} (o : Ord ns ms) (P : Parts m ns) : ∀ n ∈ ms, 0 ≤ n ∧ n < m := fun n hn => P.inn n ((o.mem n).mp hn)
theorem asc_nodup {ms : List Int} (h : ms.Pairwise (· < ·)) : ms.Nodup := h.imp fun z => Int.ne_of_lt z
theorem Ord.perm {ns ms : List Int} {m : Int} (o : Ord ns ms) (P : Parts m ns) : ms.Perm ns := (List.perm_ext_iff_of_nodup (asc_nodup o.asc) P.nd).mpr o.mem
theorem pE {X : Cx} {E : XK} (hX : X.prog = PP) (hw : X.w = w) (tk : Takes X (fun cls d _ H => E cls d H)) : Passes (L2.CX PP w) X E := by
  rw [← hX, ← hw]
  exact passes_call tk (fun _ _ _ _ h => h)
/-- no set of m parts; the first wrong place, -1 for the form -/
def SetBad (H : Hp) (m : Int) (v : V) (n : Int) : Prop :=
  (∃ (a : Addr) (ns : List Int) (y : V) (ys : List V), v = .ref a ∧ H a = some (.lst (ns.map V.int ++ y :: ys)) ∧ Parts m ns ∧ (∀ z ∈ ys, Kd H z) ∧ Kd H y ∧ (inB y 0 (m - 1) = false ∨ ∃ n ∈ ns, y = .int n) ∧ n = (ns.length : Nat)) ∨ (Kd H v ∧ isR v = false ∧ n = -1)
theorem SetBad.ex {H H1 : Hp} {m : Int} {v : V} {n : Int} (h : SetBad H m v n) (e : Ex H H1) : SetBad H1 m v n := by
  rcases h with ⟨a, ns, y, ys, rfl, ha, P, hys, hy, hw, rfl⟩ | ⟨a, b, rfl⟩
  · exact .inl ⟨a, ns, y, ys, rfl, e _ _ ha, P, fun z hz => (hys z hz).ex e, hy.ex e, hw, rfl⟩
  · exact .inr ⟨a.ex e, b, rfl⟩
theorem SetBad.alt {H H1 : Hp} {m : Int} {v : V} {n : Int} {E : XK} (h : SetBad H m v n) (e : Ex H H1) (hb : Bad K H1 E n) :
    (∃ a ns y ys, v = .ref a ∧ H1 a = some (.lst (ns.map V.int ++ y :: ys)) ∧ Parts m ns ∧ (∀ z ∈ ys, Kd H1 z) ∧ Kd H1 y ∧ (inB y 0 (m - 1) = false ∨ ∃ n ∈ ns, y = .int n) ∧ Bad K H1 E ns.length) ∨ (Kd H1 v ∧ isR v = false ∧ Bad K H1 E (-1)) := by
  rcases h with ⟨a, ns, y, ys, rfl, ha, P, hys, hy, hw, rfl⟩ | ⟨a, b, rfl⟩
  · exact .inl ⟨a, ns, y, ys, rfl, e _ _ ha, P, fun z hz => (hys z hz).ex e, hy.ex e, hw, hb⟩
  · exact .inr ⟨a.ex e, b, hb⟩
/-- a def that takes a market, a demand and a set -/
def spDP (K : PySem.W.Frag) (ok : Str → Nat → List (Int × Int) → List Int → List Int → List Int → Hp → VK → XK → Prop) : Sp := fun vs H Q E => ∃ (x : Addr) (kd : Str) (s : Nat) (us : List V) (rs : List (Int × Int)) (gs : List Int) (v p : V), vs = [.ref x, v, p] ∧ Mkt K H x kd (s : Int) us rs gs ∧ s ≤ 50 ∧ (∀ r ∈ rs, Fits s r) ∧ us.length < 60 ∧
  ((∃ D ps, Dem H s v D ∧ RowI H p ps ∧ Parts us.length ps ∧ ∀ ms, Ord ps ms → ok kd s rs gs D ms H Q E) ∨ (∃ n, DemBad H s v n ∧ BadD K H E n) ∨ (∃ D n, Dem H s v D ∧ SetBad H us.length p n ∧ Bad K H E n))
/-! ### is_stock -/
def okStock : Str → Nat → List (Int × Int) → List Int → List Int → List Int → Hp → VK → XK → Prop := fun kd s rs gs D ms H Q E => ∀ H', Ex H H' → Q (.bl (stockB kd s rs gs D ms)) H'
theorem sc_is_stock : FnScope ["market", "demand", "parts", "wanted"] ["market", "demand", "parts"] (defScope s_is_stock) := ⟨rfl, rfl, rfl, by decide +kernel, rfl, by decide +kernel, by decide +kernel⟩
theorem has_is_stock (T : Ctx K mg) : Has w K mg base (L2.CX PP w) "is_stock" 5 ["market", "demand", "parts"] (spDP K okStock) := by
  obtain ⟨f1, fd1, m1, kp1, F1, b1⟩ := has_demand_of (w := w) (base := base) T
  obtain ⟨f2, fd2, m2, kp2, F2, b2⟩ := has_is_stock_of (w := w) (base := base) T
  obtain ⟨f3, fd3, m3, kp3, F3, b3⟩ := has_set (w := w) (base := base) T
  refine has_of (st := s_is_stock) (f := He.ga K "is_stock") T.d_is_stock T.g_is_stock (fun _ _ _ _ _ _ us hl => match us, hl with | [_, _, _], _ => rfl) fun fd F => ?_
  refine okX F sc_is_stock (fun vs H Q E h => ?_) (fun cdv A outer s0 H vs Q E hr h => ?_)
  · obtain ⟨x, kd, s, us, rs, gs, v, p, rfl, _⟩ := h
    rfl
  · obtain ⟨x, kd, s, us, rs, gs, v, p, rfl, M, hs50, hF, hu60, hcase⟩ := h
    have nd := sc_is_stock.nd
    refine ⟨_, pss_cons (ps_set (i := 3) nd rfl (.inl rfl) (pe_call F1 (hr.mono (show 2 ≤ 4 by decide)) (by rfl) m1 kp1 b1 .nil (E := E) (pE rfl rfl (takes_of rfl rfl rfl rfl)) (pa_cons (pv 0) (pa_cons (pv 1) pa_nil))))
      (pss_one (ps_ret (pe_call F2 hr (by rfl) m2 kp2 b2 .nil pass0 (pa_cons (pv 0) (pa_cons (pv 3) (pa_cons (pe_call F3 (hr.mono (show 3 ≤ 4 by decide)) (by rfl) m3 kp3 b3 .nil (E := E) (pE rfl rfl (takes_of rfl rfl rfl rfl)) (pa_cons (pe_many T rfl rfl rfl rfl (pv 0) hr (by decide) rfl) (pa_cons (pv 2) pa_nil))) pa_nil)))))), ?_⟩
    refine ⟨_, rfl, _, rfl, x, kd, s, us, rs, gs, v, rfl, M, hs50, ?_⟩
    rcases hcase with ⟨D, ps, hD, hp, hP, k⟩ | ⟨n, hn, hB⟩ | ⟨D, n, hD, hn, hB⟩
    · refine .inl ⟨D, hD, fun H1 q e1 hq1 => ?_⟩
      have hul := M.runs.len
      refine ⟨_, rfl, _, rfl, _, rfl, x, kd, s, us, rs, gs, rfl, M.ex e1, _, rfl, us.length, p, rfl, by omega, .inl ⟨ps, hp.ex e1, hP, fun ms H2 q2 ho e2 hq2 hq3 => ?_⟩⟩
      have hlm := (ho.perm hP).length_eq
      have few := hP.few
      have inn : ∀ n ∈ ms, 0 ≤ n ∧ n < (rs.length : Int) := fun n hn => by have := ho.inn hP n hn; omega
      have e12 := e1.trans e2
      exact ⟨x, q, q2, kd, s, us, rs, gs, D, ms, rfl, (M.ex e1).ex e2, hs50, hF, e2 _ _ hq1, hD.len, hq3, inn, by omega, fun H3 e3 => k ms ho H3 (e12.trans e3)⟩
    · exact .inr ⟨n, hn, hB⟩
    · refine .inl ⟨D, hD, fun H1 q e1 hq1 => ?_⟩
      refine ⟨_, rfl, _, rfl, _, rfl, x, kd, s, us, rs, gs, rfl, M.ex e1, _, rfl, us.length, p, rfl, by omega, .inr (hn.alt e1 (hB.ex e1))⟩
/-! ### misfit_place -/
end
end K05


set_option Elab.async false
set_option linter.all false
set_option maxRecDepth 100000
set_option maxHeartbeats 4000000
namespace L2
open PySem PySem.Spec PyProof.Rows RZ
theorem walk_zipT {K : PySem.W.Frag} {a b : Addr} {t u : List V} (hl : t.length = u.length) : Walk (ItzT K a b) t.length (fun H => SqT K H a t ∧ SqT K H b u) (YPair (fun i => t[i]?) (fun i => u[i]?)) := by
  constructor
  · intro i H hi q
    exact ⟨t, u, t[i], u[i]'(by omega), q.1, q.2, List.getElem?_eq_getElem hi, List.getElem?_eq_getElem (by omega)⟩
  · intro H q
    exact ⟨t, u, q.1, q.2, .inl (Nat.le_refl _)⟩
  · rintro i H v H' hi q ⟨T, x, y, e1, e2, e3, f1, f2⟩
    exact ⟨T, x, y, e1, e2, e3, f1 t q.1, f2 u q.2⟩
end L2
namespace K05
open PySem PySem.Spec PyProof.Rows L2 RZ StX
open Evl (Ex)
theorem sz1000 {n : Nat} (h : n ≤ 1000) : n ≤ sizeLine := Nat.le_trans h (by decide)
theorem fw_cases (bs : List Bool) : fw bs = .non ∨ ∃ n : Nat, fw bs = .int n := by
  unfold fw
  cases bs.findIdx? (fun b => !b) with
  | none => exact .inl rfl
  | some n => exact .inr ⟨n, rfl⟩
section
variable {w : World} {K : PySem.W.Frag} {mg : Str → Option Value} {base : Heap}
theorem ix_tupK {X : Cx} (h : X.K = K) : IxR X (rIxT K) := by
  subst h
  exact ix_tup
/-! ### begins -/
def begL (D : List Int) : List Int := (List.range (D.length + 1)).map fun j => (D ++ [0]).getD j 0 - (0 :: D).getD j 0
def spBeginsOf : Sp := fun vs H Q _ => ∃ (a : Addr) (D : List Int), vs = [.ref a] ∧ H a = some (.tup (D.map V.int)) ∧ D.length ≤ 100 ∧ ∀ H' q, Ex H H' → H' q = some (.tup ((begL D).map V.int)) → Q (.ref q) H'
theorem sc_begins_of : FnScope ["wanted", "before", "after", "number", "earlier"] ["wanted"] (defScope s_begins_of) := ⟨rfl, rfl, rfl, by decide +kernel, rfl, by decide +kernel, by decide +kernel⟩
theorem has_begins_of (T : Ctx K mg) : Has w K mg base CX0 "begins_of" 1 ["wanted"] spBeginsOf := by
  refine has_of (st := s_begins_of) (f := He.ga K "begins_of") T.d_begins_of T.g_begins_of (fun _ _ _ _ _ _ us hl => match us, hl with | [_], _ => rfl) fun fd F => ?_
  refine ok0 F sc_begins_of (fun vs H Q E h => ?_) (fun cdv A outer s0 H vs Q E hr h => ?_)
  · obtain ⟨a, D, rfl, _⟩ := h
    rfl
  · obtain ⟨a, D, rfl, ha, hl, k⟩ := h
    have nd := sc_begins_of.nd
    refine ⟨_, pss_cons (ps_set (i := 1) nd rfl (.inl rfl) (pe_tup (pa_cons pe_int (pa_star (pv 0) pa_nil))))
      (pss_cons (ps_set (i := 2) nd rfl (.inl rfl) (pe_tup (pa_star (pv 0) (pa_cons pe_int pa_nil))))
      (pss_one (ps_ret (pe_callTy call_tuple_of (by rfl) T.b_tuple (by decide +kernel) (pa_cons (pe_lc (own := [("number", 3), ("earlier", 4)]) (g := gTup K 2 (gCons (gName 3) (gCons (gName 4) gNil))) (tt := tYes) rfl nd (pi_zipA (by rfl) T.b_zip (pa_cons (pv 2) (pa_cons (pv 1) pa_nil)))
        (blkOk_by (own := [("number", 3), ("earlier", 4)]) (N := ["wanted", "before", "after", "number", "earlier"]) (sc := defScope s_begins_of) (by decide +kernel))
          (fun _ _ _ _ _ => gTupK rfl (pg_tup (by rfl) (pgs_cons (pg_name (i := 3) nd rfl (.inl rfl)) (pgs_cons (pg_name (i := 4) nd rfl (.inl rfl)) pgs_nil)))) (fun _ _ _ _ _ => pts_nil)
          (fun _ _ _ _ _ => pe_op op_sub (pv 3) (pv 4))) pa_nil))))), ?_⟩
    refine ⟨_, rfl, a, _, rfl, .inl (SqT.of ha), sz1000 (by simp; omega), fun b hb => ?_⟩
    have e1 : Ex H (upd H b (.tup (V.int 0 :: (D.map V.int ++ [])))) := Ex.new hb
    have hb1 : upd H b (.tup (V.int 0 :: (D.map V.int ++ []))) b = some (.tup ((0 :: D).map V.int)) := by rw [upd_same, List.append_nil]; rfl
    refine ⟨_, rfl, a, _, rfl, .inl (SqT.of (e1 _ _ ha)), sz1000 (by simp; omega), fun c hc => ?_⟩
    have e2 := Ex.new (o := .tup (D.map V.int ++ [V.int 0])) hc
    have hc2 : upd (upd H b (.tup (V.int 0 :: (D.map V.int ++ [])))) c (.tup (D.map V.int ++ [V.int 0])) c = some (.tup ((D ++ [0]).map V.int)) := by rw [upd_same, List.map_append]; rfl
    have hb2 := e2 _ _ hb1
    have e12 := e1.trans e2
    generalize upd (upd H b (.tup (V.int 0 :: (D.map V.int ++ [])))) c (.tup (D.map V.int ++ [V.int 0])) = H2 at *
    refine ⟨_, rfl, _, rfl, c, b, _, _, rfl, .inr ⟨SqT.of hc2, SqT.of hb2, fun A hA => lc_it (walk_zipT (by simp)) (fun i H' => Ex H2 H' ∧ H' A = some (.lst (((begL D).take i).map V.int))) ⟨Ex.new hA, upd_same⟩ (fun i H' _ q => ⟨Ex.tup q.1 hc2, Ex.tup q.1 hb2⟩) ?_ ?_⟩⟩
    · rintro i v H3 H4 hi ⟨e3, hA3⟩ ⟨t, x, y, rfl, ht, rfl, hx, hy⟩
      obtain ⟨p, hp, rfl⟩ := map_int_get hx
      obtain ⟨q, hq, rfl⟩ := map_int_get hy
      have hil : i < D.length + 1 := by simpa using hi
      have e4 : Ex H2 (upd H3 t (.tup [.int p, .int q])) := e3.trans (Ex.new ht)
      have hA4 := (Ex.new (o := .tup [.int p, .int q]) ht) _ _ hA3
      refine ⟨t, _, rfl, SqT.of upd_same, rfl, _, _, rfl, _, _, rfl, rfl, rfl, tYesI ?_⟩
      refine ⟨_, rfl, _, rfl, _, _, rfl, rfl, _, hA4, by rw [List.length_map, List.length_take]; exact small1000 (by omega), Evl.Ex.mut e4 hA, ?_⟩
      have hg : (begL D)[i]? = some (p - q) := by
        unfold begL
        rw [List.getElem?_map, List.getElem?_range hil]
        show some ((D ++ [0]).getD i 0 - (0 :: D).getD i 0) = _
        rw [List.getD_eq_getElem?_getD, List.getD_eq_getElem?_getD, hp, hq]
        rfl
      rw [upd_same, List.take_add_one, hg, List.map_append]
      rfl
    · rintro H3 ⟨e3, hA3⟩
      have hlen : (begL D).length = D.length + 1 := by unfold begL; simp
      have hz : ((D ++ [0]).map V.int).length = (begL D).length := by rw [hlen]; simp
      rw [hz, List.take_length] at hA3
      exact ⟨A, _, rfl, .inl ⟨SqL.of hA3, fun l hl => k _ l ((e12.trans e3).trans (Ex.new hl)) upd_same⟩⟩
end
end K05


set_option Elab.async false
set_option linter.all false
set_option maxRecDepth 100000
set_option maxHeartbeats 4000000
namespace K05
open PySem PySem.Spec PyProof.Rows L2 RZ StX
open Evl (Ex)
def upto (n : Nat) : List Int := (List.range n).map fun i => ((i : Nat) : Int)
theorem upto_succ (n : Nat) : upto (n + 1) = upto n ++ [(n : Int)] := by
  unfold upto
  rw [List.range_succ, List.map_append]
  rfl
theorem upto_mem {n : Nat} {k : Int} : k ∈ upto n ↔ 0 ≤ k ∧ k < n := by
  unfold upto
  constructor
  · intro h
    obtain ⟨i, hi, rfl⟩ := List.mem_map.mp h
    have := List.mem_range.mp hi
    omega
  · rintro ⟨h0, h1⟩
    exact List.mem_map.mpr ⟨k.toNat, List.mem_range.mpr (by omega), by omega⟩
theorem upto_asc : ∀ n : Nat, (upto n).Pairwise (· < ·)
  | 0 => List.Pairwise.nil
  | n + 1 => by
    rw [upto_succ]
    refine List.pairwise_append.mpr ⟨upto_asc n, List.pairwise_singleton _ _, fun a ha b hb => ?_⟩
    have := (upto_mem.mp ha).2
    rw [List.mem_singleton.mp hb]
    exact this
theorem upto_len (n : Nat) : (upto n).length = n := by unfold upto; simp
/-- the parts below n that are not gone -/
def thL (n : Nat) (gs : List Int) : List Int := (upto n).filter fun p => !decide (p ∈ gs)
theorem thL_mem {n : Nat} {gs : List Int} {k : Int} : k ∈ thL n gs ↔ (0 ≤ k ∧ k < n) ∧ k ∉ gs := by
  unfold thL
  rw [List.mem_filter, upto_mem]
  simp
theorem thL_asc (n : Nat) (gs : List Int) : (thL n gs).Pairwise (· < ·) := (upto_asc n).filter _
theorem thL_len (n : Nat) (gs : List Int) : (thL n gs).length ≤ n := Nat.le_trans (List.length_filter_le _ _) (by rw [upto_len]; exact Nat.le_refl _)
theorem thL_succ (n : Nat) (gs : List Int) : thL (n + 1) gs = thL n gs ++ if decide ((n : Int) ∈ gs) = true then [] else [(n : Int)] := by
  unfold thL
  rw [upto_succ, List.filter_append]
  congr 1
  rw [List.filter_cons, List.filter_nil]
  cases decide ((n : Int) ∈ gs) <;> rfl
theorem op_notInK {K : PySem.W.Frag} {X : Cx} (h : X.K = K) : OpR X (compareOp .NotIn) (rIn K true) := by
  subst h
  exact op_notIn_seq
/-- a method of the class, as its def keeps it -/
def HasM (w : World) (K : PySem.W.Frag) (mg : Str → Option Value) (base : Heap) (CX : CXT) (f : Addr) (k : Nat) (ps : List Str) (sp : Sp) : Prop := ∃ fd, FnOk PP w K mg base CX k f fd ps sp ∧ Binds K fd ps []
section
variable {w : World} {K : PySem.W.Frag} {mg : Str → Option Value} {base : Heap}
theorem hasM_of {x q : Str} {st : Stmt} {f : Addr} {CX : CXT} {k : Nat} {ps : List Str} {sp : Sp} (d : ∃ fd, FunD K x q (defArgs st) (defBody st) (defScope st) [] [] f fd)
    (h : ∀ (kV doc pm : Value) (an : Option Addr) (cdv ct : Value) (us : List Value), us.length = ps.length → bindArgs (PySem.W.fnOf x q (defArgs st) (defBody st) (defScope st) .none kV doc pm an cdv ct) ⟨us, []⟩ = pure (ps.zip us))
    (ok : ∀ fd, FunD K x q (defArgs st) (defBody st) (defScope st) [] [] f fd → FnOk PP w K mg base CX k f fd ps sp) : HasM w K mg base CX f k ps sp := by
  obtain ⟨fd, F⟩ := d
  exact ⟨fd, ok fd F, F.bindsN h⟩
abbrev mM (K : PySem.W.Frag) (m : Str) : Addr := He.ma K (He.ga K "Market") m
/-! ### there -/
def spThere (K : PySem.W.Frag) : Sp := fun vs H Q _ => ∃ (x : Addr) (kd : Str) (s : Int) (us : List V) (rs : List (Int × Int)) (gs : List Int), vs = [.ref x] ∧ Mkt K H x kd s us rs gs ∧ us.length < 900 ∧ ∀ H' q, Ex H H' → H q = none → H' q = some (.tup ((thL us.length gs).map V.int)) → Q (.ref q) H'
theorem sc_there : FnScope ["self", "part"] ["self"] (defScope s_Market_there) := ⟨rfl, rfl, rfl, by decide +kernel, rfl, by decide +kernel, by decide +kernel⟩
theorem own_there (T : Ctx K mg) : HasM w K mg base CX0 (mM K "there") 1 ["self"] (spThere K) := by
  refine hasM_of (st := s_Market_there) T.d_Market_there (fun _ _ _ _ _ _ us hl => match us, hl with | [_], _ => rfl) fun fd F => ?_
  refine ok0 F sc_there (fun vs H Q E h => ?_) (fun cdv A0 outer s0 H vs Q E hr h => ?_)
  · obtain ⟨x, kd, s, us, rs, gs, rfl, _⟩ := h
    rfl
  · obtain ⟨x, kd, s, us, rs, gs, rfl, M, hl, k⟩ := h
    obtain ⟨C, dx, pr, pg, hM, h1, h2, h3⟩ := M.ob
    have nd := sc_there.nd
    refine ⟨_, pss_one (ps_ret (pe_callTy call_tuple_of (by rfl) T.b_tuple (by decide +kernel) (pa_cons (pe_lc (own := [("part", 1)]) (g := gName 1) rfl nd (pi_range1 (by rfl) T.b_range (pa_cons (pe_callB call_len_seq (by rfl) T.b_len PySem.boot_len (pa_cons (pe_fld (pv 0) rfl) pa_nil)) pa_nil)) (blkOk_by (own := [("part", 1)]) (N := ["self", "part"]) (sc := defScope s_Market_there) (by decide +kernel)) (fun _ _ _ _ _ => pg_name (i := 1) nd rfl (Or.inl rfl))
      (fun _ _ _ _ _ => pts_one (pt_cmpR (op_notInK (K := K) rfl) (pv 1) (pe_fldK (K := K) rfl (pv 0) rfl) (by rfl))) (fun _ _ _ _ _ => pv 1)) pa_nil))), ?_⟩
    refine ⟨_, rfl, x, C, dx, _, _, rfl, h1, hM.cl T, hM.nR T, mf_runs _ _ _, pr, us, rfl, .inr (SqT.of h2), _, rfl, by omega, by omega, fun P hP => lc_it walk_range (fun i H' => Ex H H' ∧ H' P = some (.lst ((thL i gs).map V.int))) ⟨Ex.new hP, upd_same⟩ (fun _ _ _ _ => trivial) ?_ ?_⟩
    · rintro i y H8 H9 hi ⟨e8, hP8⟩ ⟨rfl, rfl⟩
      have hil : i < us.length := by omega
      have hlen := thL_len i gs
      refine ⟨rfl, ?_⟩
      refine ⟨_, rfl, _, rfl, x, C, dx, _, _, rfl, e8 _ _ h1, hM.cl T, hM.nG T, mf_gone _ _ _, pg, _, rfl, .inr (SqT.of (e8 _ _ h3)), rfl, flat_ints _, ?_⟩
      rw [inV_ints, show (0 + (i : Int)) = (i : Int) by omega]
      refine ⟨_, rfl, ?_⟩
      rw [thL_succ]
      by_cases c : (i : Int) ∈ gs
      · refine iteF' (by rw [decide_eq_true c]; rfl) ⟨e8, ?_⟩
        rw [decide_eq_true c, if_pos rfl, List.append_nil]
        exact hP8
      · refine iteT' (by rw [decide_eq_false c]; rfl) ⟨_, rfl, _, hP8, by rw [List.length_map]; exact small1000 (by omega), Evl.Ex.mut e8 hP, ?_⟩
        rw [upd_same, decide_eq_false c, if_neg Bool.false_ne_true, List.map_append]
        show some (HO.lst (_ ++ [V.int (0 + (i : Int))])) = _
        rw [Int.zero_add]
        rfl
    rintro H6 ⟨e6, hP6⟩
    rw [Int.toNat_natCast] at hP6
    exact ⟨P, _, rfl, .inl ⟨SqL.of hP6, fun l hl2 => k _ l (e6.trans (Ex.new hl2)) (Evl.fresh_back e6 hl2) upd_same⟩⟩
end
theorem op_eqDK {K : PySem.W.Frag} {X : Cx} (h : X.K = K) (hu : X.A.units + 64 < cLine) : OpR X (compareOp .Eq) (rEqD K) := by
  subst h
  exact op_eqD hu
theorem op_neDK {K : PySem.W.Frag} {X : Cx} (h : X.K = K) (hu : X.A.units + 64 < cLine) : OpR X (compareOp .NotEq) (rNeD K) := by
  subst h
  exact op_neD hu
/-- e.m(..), e a market of either kind -/
def tMethM (K : PySem.W.Frag) (sp : Sp) (E : XK) (ta : TE) (t : TA) : TE := fun σ H Q => ta σ H fun x H1 => ∃ (a : Addr) (kd : Str) (s : Int) (us : List V) (rs : List (Int × Int)) (gs : List Int), x = .ref a ∧ Mkt K H1 a kd s us rs gs ∧ t σ H1 fun vs H2 => sp (x :: vs) H2 Q E
section
variable {X : Cx} {CX : CXT} {k : Nat} {fj fl : Addr} {fdj fdl : FuncData} {psj psl : List Str} {sp : Sp} {E : XK} {m : Str} {pos apos : Pos} {o e : Expr} {es : List Expr} {ta : TE} {t : TA}
theorem pe_methM {pl : Sem Bool} (T : Ctx X.K X.mg) (he : PE X o ta) (mj : Meth X.K (He.ga X.K "Join") m fj) (ml : Meth X.K (He.ga X.K "Lap") m fl) (Fj : FnOk X.prog X.w X.K X.mg X.base CX k fj fdj psj sp) (Fl : FnOk X.prog X.w X.K X.mg X.base CX k fl fdl psl sp)
    (hr : Room k X.A) (bj : Binds X.K fdj psj []) (bl : Binds X.K fdl psl []) (hx : Passes CX X E) (ha : PA X (e :: es) t) (nm : ¬ m = "size" ∧ ¬ m = "runs" ∧ ¬ m = "gone")
    (hst : starEach (e :: es) X.env = (false, eval e X.env) :: starEach es X.env := by rfl) (hpl : (backTo pos (starEach es X.env)).any (·.1) = false := by rfl)
    (ht : eval (.Call (.Attribute o m apos) (e :: es) [] pos) X.env = (do
      let ov ← eval o X.env
      standAt apos.atName
      let (f, first) ← holding [ov] (getMethod ov m pl)
      callWith pos f first (backTo pos (starEach (e :: es) X.env)) (backToKw pos (keywordEach [] X.env))) := by rfl) :
    PE X (.Call (.Attribute o m apos) (e :: es) [] pos) (tMethM X.K sp E ta t) := by
  refine ⟨fun pins s σ H Q I h => ?_⟩
  refine PySem.W.methodCall_KW (pl := pl) (thn (he.run pins s σ H _ I h) fun u s1 ⟨x, H1, I1, rx, a, kd, sz, us, rs, gs, ex, M, q⟩ => ?_) ht
  subst ex
  obtain rfl : u = Value.ref a := rx
  obtain ⟨C, dx, pr, pg, hM, h1, h2, h3⟩ := M.ob
  have l := mf_no sz pr pg nm.1 nm.2.1 nm.2.2
  rcases hM with ⟨rfl, _⟩ | ⟨rfl, _⟩
  · refine getmeth_ok I1 h1 T.cl_Join mj l ?_
    refine PySem.W.callWith_K (first := [.ref a]) (h₀ := X.base) I.ok.mod.kin mj.kp (thn (ha.run pos pins s1 σ H1 _ I1 q) fun us s2 ⟨vs, H2, I2, r, q2⟩ => ⟨I2.kIn, ?_⟩) hst hpl
    exact run_fn (us := .ref a :: us) (vs := .ref a :: vs) (dvs := []) Fj hr bj .nil hx I2 (.cons rfl r) (by rw [List.append_nil]; exact q2)
  · refine getmeth_ok I1 h1 T.cl_Lap ml l ?_
    refine PySem.W.callWith_K (first := [.ref a]) (h₀ := X.base) I.ok.mod.kin ml.kp (thn (ha.run pos pins s1 σ H1 _ I1 q) fun us s2 ⟨vs, H2, I2, r, q2⟩ => ⟨I2.kIn, ?_⟩) hst hpl
    exact run_fn (us := .ref a :: us) (vs := .ref a :: vs) (dvs := []) Fl hr bl .nil hx I2 (.cons rfl r) (by rw [List.append_nil]; exact q2)
theorem pe_methM0 {pl : Sem Bool} (T : Ctx X.K X.mg) (he : PE X o ta) (mj : Meth X.K (He.ga X.K "Join") m fj) (ml : Meth X.K (He.ga X.K "Lap") m fl) (Fj : FnOk X.prog X.w X.K X.mg X.base CX k fj fdj psj sp) (Fl : FnOk X.prog X.w X.K X.mg X.base CX k fl fdl psl sp)
    (hr : Room k X.A) (bj : Binds X.K fdj psj []) (bl : Binds X.K fdl psl []) (hx : Passes CX X E) (nm : ¬ m = "size" ∧ ¬ m = "runs" ∧ ¬ m = "gone")
    (ht : eval (.Call (.Attribute o m apos) [] [] pos) X.env = (do
      let ov ← eval o X.env
      standAt apos.atName
      let (f, first) ← holding [ov] (getMethod ov m pl)
      callWith pos f first (backTo pos (starEach [] X.env)) (backToKw pos (keywordEach [] X.env))) := by rfl) :
    PE X (.Call (.Attribute o m apos) [] [] pos) (tMethM X.K sp E ta tNil) := by
  refine ⟨fun pins s σ H Q I h => ?_⟩
  refine PySem.W.methodCall_KW (pl := pl) (thn (he.run pins s σ H _ I h) fun u s1 ⟨x, H1, I1, rx, a, kd, sz, us, rs, gs, ex, M, q⟩ => ?_) ht
  subst ex
  obtain rfl : u = Value.ref a := rx
  obtain ⟨C, dx, pr, pg, hM, h1, h2, h3⟩ := M.ob
  have l := mf_no sz pr pg nm.1 nm.2.1 nm.2.2
  rcases hM with ⟨rfl, _⟩ | ⟨rfl, _⟩
  · refine getmeth_ok I1 h1 T.cl_Join mj l ?_
    exact PySem.W.callWith_K0 (first := [.ref a]) I1.kIn mj.kp (run_fn (us := [.ref a]) (vs := [.ref a]) (dvs := []) Fj hr bj .nil hx I1 (.cons rfl .nil) q)
  · refine getmeth_ok I1 h1 T.cl_Lap ml l ?_
    exact PySem.W.callWith_K0 (first := [.ref a]) I1.kIn ml.kp (run_fn (us := [.ref a]) (vs := [.ref a]) (dvs := []) Fl hr bl .nil hx I1 (.cons rfl .nil) q)
end
section
variable {w : World} {K : PySem.W.Frag} {mg : Str → Option Value} {base : Heap}
theorem Ctx.mtJ (T : Ctx K mg) : Meth K (He.ga K "Join") "there" (mM K "there") := ⟨T.fthere_Join, T.fn_there, T.kp_there⟩
theorem Ctx.mtL (T : Ctx K mg) : Meth K (He.ga K "Lap") "there" (mM K "there") := ⟨T.fthere_Lap, T.fn_there, T.kp_there⟩
theorem nm_there : ¬ (("there" : Str) = "size") ∧ ¬ (("there" : Str) = "runs") ∧ ¬ (("there" : Str) = "gone") := ⟨by decide +kernel, by decide +kernel, by decide +kernel⟩
/-- e.there() -/
theorem pe_there (T : Ctx K mg) {X : Cx} (hP : X.prog = PP) (hw : X.w = w) (hK : X.K = K) (hmg : X.mg = mg) {o : Expr} {apos pos : Pos} {ta : TE} (he : PE X o ta) (hr : Room 1 X.A) {pl : Sem Bool}
    (ht : eval (.Call (.Attribute o "there" apos) [] [] pos) X.env = (do
      let ov ← eval o X.env
      standAt apos.atName
      let (f, first) ← holding [ov] (getMethod ov "there" pl)
      callWith pos f first (backTo pos (starEach [] X.env)) (backToKw pos (keywordEach [] X.env))) := by rfl) : PE X (.Call (.Attribute o "there" apos) [] [] pos) (tMethM K (spThere K) E0 ta tNil) := by
  subst hw hK hmg
  obtain ⟨fd, F, b⟩ := own_there (w := X.w) (base := X.base) T
  have F' : FnOk X.prog X.w X.K X.mg X.base CX0 1 (mM X.K "there") fd ["self"] (spThere X.K) := by rw [hP]; exact F
  exact pe_methM0 T he T.mtJ T.mtL F' F' hr b b pass0 nm_there ht
end
structure GoneOk (n : Nat) (gs : List Int) : Prop where
  asc : gs.Pairwise (· < ·)
  inn : ∀ g ∈ gs, 0 ≤ g ∧ g < n
theorem GoneOk.few {n : Nat} {gs : List Int} (h : GoneOk n gs) : gs.length ≤ n := by
  have := asc_few (lo := 0) (m := (n : Int)) h.asc h.inn (by omega)
  omega
theorem GoneOk.low {n : Nat} {gs : List Int} (h : GoneOk n gs) (hn : n ≤ 64) : Low gs := ⟨fun g hg => by have := h.inn g hg; omega⟩
theorem Ord.gone {n : Nat} {ps ms : List Int} (o : Ord ps ms) (P : Parts n ps) : GoneOk n ms := ⟨o.asc, o.inn P⟩
structure GM (K : PySem.W.Frag) (H : Hp) (x : Addr) (kd : Str) (s : Int) (rs : List (Int × Int)) (gs : List Int) : Prop where
  ob : ∃ us, Mkt K H x kd s us rs gs
  size : 1 ≤ s ∧ s ≤ 30
  fits : ∀ r ∈ rs, Fits s r
  few : rs.length ≤ 28
  gone : GoneOk rs.length gs
theorem GM.ex {K : PySem.W.Frag} {H H' : Hp} {x : Addr} {kd : Str} {s : Int} {rs : List (Int × Int)} {gs : List Int} (h : GM K H x kd s rs gs) (e : Ex H H') : GM K H' x kd s rs gs :=
  ⟨let ⟨us, M⟩ := h.ob; ⟨us, M.ex e⟩, h.size, h.fits, h.few, h.gone⟩
theorem GoneOk.nd {n : Nat} {gs : List Int} (h : GoneOk n gs) : gs.Nodup := asc_nodup h.asc
theorem GoneOk.parts {n : Nat} {gs : List Int} (h : GoneOk n gs) (hn : n < 60) : Parts n gs := ⟨h.nd, h.inn, by have := h.few; omega⟩
theorem GoneOk.ord {n : Nat} {gs ms : List Int} (h : GoneOk n gs) (o : Ord gs ms) : ms = gs := asc_eq o.asc h.asc o.mem
def rLenA (K : PySem.W.Frag) : List V → Hp → VK → Prop := fun xs H Q => ∃ a ys, xs = [.ref a] ∧ (SqL K H a ys ∨ SqT K H a ys) ∧ Q (.int ys.length) H
theorem cr_lenK {K : PySem.W.Frag} {X : Cx} (h : X.K = K) : CallR X (.builtin "len") (rLenA K) := by
  subst h
  exact call_len_seq
end K05


set_option Elab.async false
set_option linter.all false
set_option maxRecDepth 100000
set_option maxHeartbeats 4000000
namespace K05
open PySem PySem.Spec PyProof.Rows L2 RZ StX
open Evl (Ex)
section
variable {K : PySem.W.Frag} {σ : L2.St} {i : Nat} {vs : List Nat} {te : TE} {tt : TT} {H : Hp} {D : Addr} {Qd : Hp → Prop}
/-- [f z for z in a], a a list of whole numbers -/
theorem lcm {a : Addr} {ns : List Int} (f : Int → Int) (ha : H a = some (.lst (ns.map V.int))) (hl : ns.length ≤ 900) (hw : ∀ x, wipe ((wipe σ vs).set i (some x)) vs = wipe σ vs)
    (hte : ∀ (z : Int) (H' : Hp) (R : VK), z ∈ ns → Ex H H' → R (.int (f z)) H' → te ((wipe σ vs).set i (some (.int z))) H' R)
    (hD : H D = none) (k : ∀ H', Ex H H' → H' D = some (.lst ((ns.map f).map V.int)) → Qd H') : ∃ W : Nat → Nat → Hp → Prop, (∃ m, W 0 m (upd H D (.lst []))) ∧ ∀ j m H1, W j m H1 →
      ((Itl K a).stop j H1 ∧ Qd H1) ∨ ((Itl K a).go j H1 ∧ ∃ Nx : Hp → Prop, (∀ H', Nx H' → ∃ m', m' < m ∧ W (j + 1) m' H') ∧ ∀ x H', (Itl K a).yld j H1 x H' → gName i x (wipe σ vs) H' fun σ2 H2 => wipe σ2 vs = wipe σ vs ∧ tYes σ2 H2 fun b H3 =>
        if b = true then te σ2 H3 fun y H4 => ∃ acc, H4 D = some (.lst acc) ∧ acc.length < sizeLine ∧ Nx (upd H4 D (.lst (acc ++ [y]))) else Nx H3) := by
  refine lc_it walk_list (fun j H' => Ex H H' ∧ H' D = some (.lst (((ns.take j).map f).map V.int))) ⟨Ex.new hD, upd_same⟩ (fun j H' _ q => Ex.lst q.1 ha) ?_ ?_
  · rintro j y H8 H9 hj ⟨e8, hP8⟩ ⟨rfl, hy⟩
    obtain ⟨z, hz, rfl⟩ := map_int_get hy
    rw [List.length_map] at hj
    refine ⟨hw _, tYesI (hte z H9 _ (List.mem_of_getElem? hz) e8 ⟨_, hP8, ?_, Evl.Ex.mut e8 hD, ?_⟩)⟩
    · rw [List.length_map, List.length_map, List.length_take]
      exact small1000 (by omega)
    · rw [upd_same, List.take_add_one, hz, List.map_append, List.map_append]
      rfl
  · rintro H6 ⟨e6, hP6⟩
    rw [List.length_map, List.take_length] at hP6
    exact k H6 e6 hP6
/-- [f z for z in range(n)] -/
theorem lcr {n : Nat} (f : Int → Int) (hl : n ≤ 900) (hw : ∀ x, wipe ((wipe σ vs).set i (some x)) vs = wipe σ vs)
    (hte : ∀ (z : Nat) (H' : Hp) (R : VK), z < n → Ex H H' → R (.int (f z)) H' → te ((wipe σ vs).set i (some (.int z))) H' R)
    (hD : H D = none) (k : ∀ H', Ex H H' → H' D = some (.lst (((upto n).map f).map V.int)) → Qd H') : ∃ W : Nat → Nat → Hp → Prop, (∃ m, W 0 m (upd H D (.lst []))) ∧ ∀ j m H1, W j m H1 →
      ((Itr 0 n).stop j H1 ∧ Qd H1) ∨ ((Itr 0 n).go j H1 ∧ ∃ Nx : Hp → Prop, (∀ H', Nx H' → ∃ m', m' < m ∧ W (j + 1) m' H') ∧ ∀ x H', (Itr 0 n).yld j H1 x H' → gName i x (wipe σ vs) H' fun σ2 H2 => wipe σ2 vs = wipe σ vs ∧ tYes σ2 H2 fun b H3 =>
        if b = true then te σ2 H3 fun y H4 => ∃ acc, H4 D = some (.lst acc) ∧ acc.length < sizeLine ∧ Nx (upd H4 D (.lst (acc ++ [y]))) else Nx H3) := by
  refine lc_it walk_range (fun j H' => Ex H H' ∧ H' D = some (.lst (((upto j).map f).map V.int))) ⟨Ex.new hD, upd_same⟩ (fun _ _ _ _ => trivial) ?_ ?_
  · rintro j y H8 H9 hj ⟨e8, hP8⟩ ⟨rfl, rfl⟩
    show gName i (V.int (0 + (j : Int))) _ _ _
    rw [Int.zero_add]
    refine ⟨hw _, tYesI (hte j H9 _ hj e8 ⟨_, hP8, ?_, Evl.Ex.mut e8 hD, ?_⟩)⟩
    · rw [List.length_map, List.length_map, upto_len]
      exact small1000 (by omega)
    · rw [upd_same, upto_succ, List.map_append, List.map_append]
      rfl
  · rintro H6 ⟨e6, hP6⟩
    exact k H6 e6 hP6
/-- [z for z in range(n) if P z] -/
theorem lcf {n : Nat} (P : Int → Bool) (hl : n ≤ 900) (hw : ∀ x, wipe ((wipe σ vs).set i (some x)) vs = wipe σ vs)
    (htt : ∀ (z : Nat) (H' : Hp) (R : Bool → Hp → Prop), z < n → Ex H H' → R (P z) H' → tt ((wipe σ vs).set i (some (.int z))) H' R)
    (hte : ∀ (z : Nat) (H' : Hp) (R : VK), z < n → Ex H H' → R (.int z) H' → te ((wipe σ vs).set i (some (.int z))) H' R)
    (hD : H D = none) (k : ∀ H', Ex H H' → H' D = some (.lst (((upto n).filter P).map V.int)) → Qd H') : ∃ W : Nat → Nat → Hp → Prop, (∃ m, W 0 m (upd H D (.lst []))) ∧ ∀ j m H1, W j m H1 →
      ((Itr 0 n).stop j H1 ∧ Qd H1) ∨ ((Itr 0 n).go j H1 ∧ ∃ Nx : Hp → Prop, (∀ H', Nx H' → ∃ m', m' < m ∧ W (j + 1) m' H') ∧ ∀ x H', (Itr 0 n).yld j H1 x H' → gName i x (wipe σ vs) H' fun σ2 H2 => wipe σ2 vs = wipe σ vs ∧ tt σ2 H2 fun b H3 =>
        if b = true then te σ2 H3 fun y H4 => ∃ acc, H4 D = some (.lst acc) ∧ acc.length < sizeLine ∧ Nx (upd H4 D (.lst (acc ++ [y]))) else Nx H3) := by
  refine lc_it walk_range (fun j H' => Ex H H' ∧ H' D = some (.lst (((upto j).filter P).map V.int))) ⟨Ex.new hD, upd_same⟩ (fun _ _ _ _ => trivial) ?_ ?_
  · rintro j y H8 H9 hj ⟨e8, hP8⟩ ⟨rfl, rfl⟩
    show gName i (V.int (0 + (j : Int))) _ _ _
    rw [Int.zero_add]
    refine ⟨hw _, htt j H9 _ hj e8 ?_⟩
    have tk : (upto (j + 1)).filter P = (upto j).filter P ++ (if P (j : Int) = true then [(j : Int)] else []) := by
      rw [upto_succ, List.filter_append, List.filter_cons, List.filter_nil]
    rw [tk]
    by_cases c : P (j : Int) = true
    · refine iteT' c (hte j H9 _ hj e8 ⟨_, hP8, ?_, Evl.Ex.mut e8 hD, ?_⟩)
      · rw [List.length_map]
        exact small1000 (Nat.le_trans (List.length_filter_le _ _) (by rw [upto_len]; omega))
      · rw [upd_same, if_pos c, List.map_append]
        rfl
    · refine iteF' (by simpa using c) ⟨e8, ?_⟩
      rw [if_neg c, List.append_nil]
      exact hP8
  · rintro H6 ⟨e6, hP6⟩
    exact k H6 e6 hP6
/-- [(..) for r in R], R a list of runs -/
theorem lcp {R : Addr} {us : List V} {rs : List (Int × Int)} (f : Int × Int → Int × Int) (hR : H R = some (.lst us)) (hRs : Runs H us rs) (hl : rs.length ≤ 900) (hw : ∀ x, wipe ((wipe σ vs).set i (some x)) vs = wipe σ vs)
    (hte : ∀ (t : Addr) (r : Int × Int) (H' : Hp) (S : VK), r ∈ rs → Ex H H' → H' t = some (.tup [.int r.1, .int r.2]) → (∀ q H'', Ex H' H'' → H'' q = some (.tup [.int (f r).1, .int (f r).2]) → S (.ref q) H'') → te ((wipe σ vs).set i (some (.ref t))) H' S)
    (hD : H D = none) (k : ∀ H' zs, Ex H H' → H' D = some (.lst zs) → Runs H' zs (rs.map f) → Qd H') : ∃ W : Nat → Nat → Hp → Prop, (∃ m, W 0 m (upd H D (.lst []))) ∧ ∀ j m H1, W j m H1 →
      ((Itl K R).stop j H1 ∧ Qd H1) ∨ ((Itl K R).go j H1 ∧ ∃ Nx : Hp → Prop, (∀ H', Nx H' → ∃ m', m' < m ∧ W (j + 1) m' H') ∧ ∀ x H', (Itl K R).yld j H1 x H' → gName i x (wipe σ vs) H' fun σ2 H2 => wipe σ2 vs = wipe σ vs ∧ tYes σ2 H2 fun b H3 =>
        if b = true then te σ2 H3 fun y H4 => ∃ acc, H4 D = some (.lst acc) ∧ acc.length < sizeLine ∧ Nx (upd H4 D (.lst (acc ++ [y]))) else Nx H3) := by
  have hul := hRs.len
  refine lc_it walk_list (fun j H' => Ex H H' ∧ ∃ zs, H' D = some (.lst zs) ∧ Runs H' zs ((rs.take j).map f)) ⟨Ex.new hD, [], upd_same, Runs.nil⟩ (fun j H' _ q => Ex.lst q.1 hR) ?_ ?_
  · rintro j y H8 H9 hj ⟨e8, zs, hP8, hR8⟩ ⟨rfl, hy⟩
    obtain ⟨t, r, hr', rfl, ht⟩ := (hRs.ex e8).get hy
    refine ⟨hw _, tYesI (hte t r H9 _ (List.mem_of_getElem? hr') e8 ht fun q H10 e10 hq => ?_)⟩
    refine ⟨_, e10 _ _ hP8, ?_, Evl.Ex.mut (e8.trans e10) hD, _, upd_same, ?_⟩
    · rw [hR8.len, List.length_map, List.length_take]
      exact small1000 (by omega)
    · rw [List.take_add_one, hr', List.map_append]
      exact ((hR8.ex e10).snoc (r := f r) (t := q) hq).mono fun t' xs' h' => by
        rw [upd_ne (ne_of h' (e10 _ _ hP8) (by intro z; cases z))]
        exact h'
  · rintro H6 ⟨e6, zs, hP6, hR6⟩
    rw [hul, List.take_length] at hR6
    exact k H6 zs e6 hP6 hR6
end
/-- a market drawn: its size, runs and parts gone -/
structure DM (H : Hp) (L : Addr) (s : Nat) (M a : Addr) (us : List V) (rs : List (Int × Int)) (gs : List Int) : Prop where
  at_ : H L = some (.lst [.int s, .ref M, .ref a])
  hM : H M = some (.lst us)
  runs : Runs H us rs
  fits : ∀ r ∈ rs, Fits s r
  size : 1 ≤ s ∧ s ≤ 8
  few : rs.length ≤ 9
  ha : H a = some (.lst (gs.map V.int))
  gone : GoneOk rs.length gs
section
variable {K : PySem.W.Frag} {mg : Str → Option Value} {H H' : Hp} {L M a : Addr} {s : Nat} {us : List V} {rs : List (Int × Int)} {gs : List Int} {Q : VK}
theorem DM.ex (h : DM H L s M a us rs gs) (e : Ex H H') : DM H' L s M a us rs gs := ⟨e _ _ h.at_, e _ _ h.hM, h.runs.ex e, h.fits, h.size, h.few, e _ _ h.ha, h.gone⟩
theorem DM.i0 (h : DM H L s M a us rs gs) (q : Q (.int s) H) : rIxL K (.ref L) (.int 0) H Q := ⟨L, _, 0, _, rfl, rfl, SqL.of h.at_, rfl, q⟩
theorem DM.i1 (h : DM H L s M a us rs gs) (q : Q (.ref M) H) : rIxL K (.ref L) (.int 1) H Q := ⟨L, _, 1, _, rfl, rfl, SqL.of h.at_, rfl, q⟩
theorem DM.i2 (h : DM H L s M a us rs gs) (q : Q (.ref a) H) : rIxL K (.ref L) (.int 2) H Q := ⟨L, _, 2, _, rfl, rfl, SqL.of h.at_, rfl, q⟩
theorem DM.ul (h : DM H L s M a us rs gs) : us.length = rs.length := h.runs.len
/-- what the law's market is made of -/
theorem DM.marg (h : DM H L s M a us rs gs) : MArg H s M a us rs gs := by
  have := h.ul
  have := h.few
  have := h.size
  exact ⟨h.hM, h.runs, h.fits, by omega, h.ha, h.gone.asc, fun n hn => by have := h.gone.inn n hn; omega, ⟨by omega, by omega⟩⟩
/-- the market made of it -/
theorem DM.gm (h : DM H L s M a us rs gs) {x : Addr} {kd : Str} (m : Mkt K H' x kd s us rs gs) : GM K H' x kd s rs gs := by
  have := h.few
  have := h.size
  exact ⟨⟨us, m⟩, ⟨by omega, by omega⟩, h.fits, by omega, h.gone⟩
end
end K05


set_option Elab.async false
set_option linter.all false
set_option maxRecDepth 100000
set_option maxHeartbeats 4000000
namespace K05
open PySem PySem.Spec PyProof.Rows L2 RZ StX
open Evl (Ex)
theorem all_id_get {bs : List Bool} (h : ∀ j, j < bs.length → bs[j]? = some true) : bs.all id = true := List.all_eq_true.mpr fun b hb => by
  obtain ⟨j, hj⟩ := List.mem_iff_getElem?.mp hb
  have := h j (List.getElem?_eq_some_iff.mp hj).1
  rw [this] at hj
  exact (Option.some.inj hj).symm
theorem all_id_no {bs : List Bool} {i : Nat} (h : bs[i]? = some false) : bs.all id = false := by
  rw [← Bool.not_eq_true]
  intro z
  have := List.all_eq_true.mp z _ (List.mem_of_getElem? h)
  cases this
section
variable {w : World} {K : PySem.W.Frag} {mg : Str → Option Value} {base : Heap}
/-! ### _law_is_stock, _law_is_there -/
def spLStock : Sp := fun vs H Q _ => ∃ (kd : Str) (s : Nat) (R W A : Addr) (us : List V) (rs : List (Int × Int)) (D ps : List Int), vs = [.str kd, .int s, .ref R, .ref W, .ref A] ∧ (kd = "join" ∨ kd = "lap") ∧ s ≤ 50 ∧ H R = some (.lst us) ∧ Runs H us rs ∧ (∀ r ∈ rs, Fits s r) ∧ H W = some (.lst (D.map V.int)) ∧ D.length = s ∧ H A = some (.lst (ps.map V.int)) ∧ (∀ n ∈ ps, 0 ≤ n ∧ n < rs.length) ∧
  ∀ H', Ex H H' → Q (.bl ((okRow kd (covL s rs ps) D).all id)) H'
theorem sc_lstock : FnScope ["_law_kind_here", "_law_size", "_law_runs", "_law_row", "_law_parts_here", "_law_covers", "_law_place"] ["_law_kind_here", "_law_size", "_law_runs", "_law_row", "_law_parts_here"] (defScope s__law_is_stock) := ⟨rfl, rfl, rfl, by decide +kernel, rfl, by decide +kernel, by decide +kernel⟩
theorem has_lstock (T : Ctx K mg) : Has w K mg base CX0 "_law_is_stock" 2 ["_law_kind_here", "_law_size", "_law_runs", "_law_row", "_law_parts_here"] spLStock := by
  obtain ⟨f1, fd1, m1, kp1, F1, b1⟩ := has_lcover (w := w) (base := base) T
  refine has_of (st := s__law_is_stock) (f := He.ga K "_law_is_stock") T.d__law_is_stock T.g__law_is_stock (fun _ _ _ _ _ _ us hl => match us, hl with | [_, _, _, _, _], _ => rfl) fun fd F => ?_
  refine ok0 F sc_lstock (fun vs H Q E h => ?_) (fun cdv A0 outer s0 H vs Q E hr h => ?_)
  · obtain ⟨kd, s, R, W, A, us, rs, D, ps, rfl, _⟩ := h
    rfl
  · obtain ⟨kd, s, R, W, A, us, rs, D, ps, rfl, hkd, hs50, hR, hRs, hF, hW, hD, hA, inn, k⟩ := h
    have nd := sc_lstock.nd
    refine ⟨_, pss_cons (ps_set (i := 5) nd rfl (.inl rfl) (pe_call F1 hr (by rfl) m1 kp1 b1 .nil pass0 (pa_cons (pv 1) (pa_cons (pv 2) (pa_cons (pv 4) pa_nil)))))
      (pss_cons (ps_for PassesOwn.never rfl (pi_range1 (by rfl) T.b_range (pa_cons (pv 1) pa_nil)) (pg_name (i := 6) nd rfl (.inl rfl))
        (pss_cons (ps_if (pt_cmpR op_lt (pe_ix ix_list (pv 5) (pv 6) (fun _ _ => rfl)) (pe_ix ix_list (pv 3) (pv 6) (fun _ _ => rfl)) (nomark _)) (pss_one (ps_ret pe_bl)) pss_nil)
        (pss_one (ps_if (PW.pt (pw_and (pt_cmpR op_eq (pv 0) pe_str (nomark _)) (pw_and1 (pt_cmpR op_gt (pe_ix ix_list (pv 5) (pv 6) (fun _ _ => rfl)) (pe_ix ix_list (pv 3) (pv 6) (fun _ _ => rfl)) (nomark _))))) (pss_one (ps_ret pe_bl)) pss_nil))))
      (pss_one (ps_ret pe_bl))), ?_⟩
    refine ⟨_, rfl, _, rfl, _, rfl, s, R, A, us, rs, ps, rfl, hs50, hR, hRs, hF, hA, inn, fun H1 q e1 hq0 hq => ?_⟩
    have hcl : (covL s rs ps).length = s := by unfold covL; exact row_len _ _
    generalize covL s rs ps = CV at *
    have hol : (okRow kd CV D).length = s := by rw [okRow_len kd _ _ (by rw [hcl, hD]), hcl]
    refine ⟨_, rfl, (s : Int), rfl, by omega, by omega, for_it walk_range (fun i σ H' => ∃ v6 : Option V, σ = [some (.str kd), some (.int s), some (.ref R), some (.ref W), some (.ref A), some (.ref q), v6] ∧ Ex H1 H' ∧ ∀ j, j < i → (okRow kd CV D)[j]? = some true) ⟨_, rfl, Ex.refl _, fun j hj => absurd hj (Nat.not_lt_zero j)⟩ (fun _ _ _ _ _ => trivial) ?_ ?_⟩
    · rintro i v σ H3 H4 hi ⟨v6, rfl, e3, hb⟩ ⟨rfl, rfl⟩
      have his : i < s := by omega
      have hC : CV[i]? = some (CV[i]'(by omega)) := List.getElem?_eq_getElem (by omega)
      have hDi : D[i]? = some (D[i]'(by omega)) := List.getElem?_eq_getElem (by omega)
      generalize CV[i]'(by omega) = c at hC
      generalize D[i]'(by omega) = d at hDi
      have hok := okRow_get kd _ _ i c d hC hDi
      have hq3 := SqL.of (K := K) (e3 _ _ hq)
      have hW3 := SqL.of (K := K) (e3 _ _ (e1 _ _ hW))
      have aC : atI (CV.map V.int) (0 + (i : Int)) = some (.int c) := by rw [Int.zero_add]; exact atI_nat (by rw [List.getElem?_map, hC]; rfl)
      have aD : atI (D.map V.int) (0 + (i : Int)) = some (.int d) := by rw [Int.zero_add]; exact atI_nat (by rw [List.getElem?_map, hDi]; rfl)
      refine ⟨_, rfl, _, rfl, q, _, _, _, rfl, rfl, hq3, aC, _, rfl, _, rfl, W, _, _, _, rfl, rfl, hW3, aD, _, _, rfl, rfl, _, rfl, ?_⟩
      have stop : okAt kd c d = false → Q (.bl false) H4 := fun z => by
        have := k H4 (e1.trans e3)
        rw [all_id_no (i := i) (by rw [hok, z])] at this
        exact this
      have goon : okAt kd c d = true → ∀ j, j < i + 1 → (okRow kd CV D)[j]? = some true := fun z j hj => by
        by_cases e : j = i
        · rw [e, hok, z]
        · exact hb j (by omega)
      by_cases c1 : c < d
      · refine iteT' (decide_eq_true c1) (stop ?_)
        unfold okAt
        split
        · exact decide_eq_false (by omega)
        · exact decide_eq_false (by omega)
      refine iteF' (decide_eq_false c1) ?_
      refine ⟨_, rfl, rfl, _, rfl, ?_⟩
      rcases hkd with rfl | rfl
      · refine iteT' (decide_eq_true rfl) ?_
        refine ⟨_, rfl, _, rfl, q, _, _, _, rfl, rfl, hq3, aC, _, rfl, _, rfl, W, _, _, _, rfl, rfl, hW3, aD, _, _, rfl, rfl, _, rfl, ?_⟩
        by_cases c2 : d < c
        · refine iteT' (decide_eq_true c2) (stop ?_)
          unfold okAt
          rw [if_neg (by decide)]
          exact decide_eq_false (by omega)
        · refine iteF' (decide_eq_false c2) ⟨_, rfl, e3, goon ?_⟩
          unfold okAt
          rw [if_neg (by decide)]
          exact decide_eq_true (by omega)
      · refine iteF' (decide_eq_false (by decide)) ⟨_, rfl, e3, goon ?_⟩
        unfold okAt
        rw [if_pos rfl]
        exact decide_eq_true (by omega)
    · rintro σ H3 ⟨v6, rfl, e3, hb⟩
      have := k H3 (e1.trans e3)
      rw [all_id_get (fun j hj => hb j (by rw [Int.toNat_natCast, ← hol]; exact hj))] at this
      exact this
end
theorem _root_.L2.PS.nrm {X : Cx} {st : Stmt} {t : TS} (h : PS X st t) : PS X st (fun D σ H => ∃ σ', σ = σ' ∧ t D σ' H) := h.imp fun D σ H ⟨σ', e, q⟩ => by
  subst e
  exact q
theorem begL_at (D : List Int) {i : Nat} (h : i < D.length + 1) : (begL D)[i]? = some ((D ++ [0]).getD i 0 - (0 :: D).getD i 0) := by
  unfold begL
  rw [List.getElem?_map, List.getElem?_range h]
  rfl
theorem begL_len (D : List Int) : (begL D).length = D.length + 1 := by unfold begL; simp
section
variable {w : World} {K : PySem.W.Frag} {mg : Str → Option Value} {base : Heap}
theorem ix_listK {X : Cx} (h : X.K = K) : IxR X (rIxL K) := by
  subst h
  exact ix_list
/-! ### the law's demand -/
def spWantedD : Sp := fun vs H Q _ => ∃ (D : Addr), vs = [.ref D] ∧ Dr D H ∧ ∀ (n : Int) H', Kp D H H' → Dr D H' → Q (.int n) H'
theorem sc_wantedD : FnScope ["_law_draws_here"] ["_law_draws_here"] (defScope s__law_size_wanted) := ⟨rfl, rfl, rfl, by decide +kernel, rfl, by decide +kernel, by decide +kernel⟩
theorem has_wantedD (T : Ctx K mg) : Has w K mg base CX0 "_law_size_wanted" 2 ["_law_draws_here"] spWantedD := by
  obtain ⟨f1, fd1, m1, kp1, F1, b1⟩ := has_take (w := w) (base := base) T
  refine has_of (st := s__law_size_wanted) (f := He.ga K "_law_size_wanted") T.d__law_size_wanted T.g__law_size_wanted (fun _ _ _ _ _ _ us hl => match us, hl with | [_], _ => rfl) fun fd F => ?_
  refine ok0 F sc_wantedD (fun vs H Q E h => ?_) (fun cdv A outer s0 H vs Q E hr h => ?_)
  · obtain ⟨D, rfl, _⟩ := h
    rfl
  · obtain ⟨D, rfl, hD, k⟩ := h
    refine ⟨_, pss_one (ps_ret (pe_ix ix_list (pe_lst (pa_cons pe_int (pa_cons pe_int (pa_cons pe_int (pa_cons pe_int (pa_cons pe_int (pa_cons pe_int pa_nil))))))) (pe_call F1 hr (by rfl) m1 kp1 b1 .nil pass0 (pa_cons (pv 0) (pa_cons pe_int pa_nil))) (fun _ _ => rfl))), ?_⟩
    refine ⟨(by show 6 ≤ sizeLine; decide), fun l hl => ⟨_, rfl, D, 6, rfl, hD.ex (Ex.new hl), by decide, fun j H2 j0 j1 k2 d2 => ?_⟩⟩
    have hl2 := k2 l _ (Kp.ne hD hl) upd_same
    obtain ⟨n, hn⟩ : ∃ n : Int, atI [V.int 1, .int 2, .int 1, .int 0, .int 2, .int 3] j = some (.int n) := by
      have hj : j = 0 ∨ j = 1 ∨ j = 2 ∨ j = 3 ∨ j = 4 ∨ j = 5 := by omega
      rcases hj with rfl | rfl | rfl | rfl | rfl | rfl
      · exact ⟨_, atI_nat (j := 0) rfl⟩
      · exact ⟨_, atI_nat (j := 1) rfl⟩
      · exact ⟨_, atI_nat (j := 2) rfl⟩
      · exact ⟨_, atI_nat (j := 3) rfl⟩
      · exact ⟨_, atI_nat (j := 4) rfl⟩
      · exact ⟨_, atI_nat (j := 5) rfl⟩
    exact ⟨l, _, j, _, rfl, rfl, SqL.of hl2, hn, k n H2 ((Kp.of (Ex.new hl)).trans k2) d2⟩
def spDemandD : Sp := fun vs H Q _ => ∃ (D : Addr) (s : Nat), vs = [.ref D, .int s] ∧ Dr D H ∧ 1 ≤ s ∧ s ≤ 50 ∧ ∀ (A : Addr) (ds : List Int) H', Kp D H H' → Dr D H' → H A = none → H' A = some (.lst (ds.map V.int)) → ds.length = s → Q (.ref A) H'
theorem sc_demandD : FnScope ["_law_draws_here", "_law_size", "_law_wanted", "_law_row", "_law_word", "_law_run_here", "_law_place", "_law_k"] ["_law_draws_here", "_law_size"] (defScope s__law_demand) := ⟨rfl, rfl, rfl, by decide +kernel, rfl, by decide +kernel, by decide +kernel⟩
theorem has_demandD (T : Ctx K mg) : Has w K mg base CX0 "_law_demand" 3 ["_law_draws_here", "_law_size"] spDemandD := by
  obtain ⟨f1, fd1, m1, kp1, F1, b1⟩ := has_take (w := w) (base := base) T
  obtain ⟨f2, fd2, m2, kp2, F2, b2⟩ := has_wantedD (w := w) (base := base) T
  obtain ⟨f3, fd3, m3, kp3, F3, b3⟩ := has_runD (w := w) (base := base) T
  refine has_of (st := s__law_demand) (f := He.ga K "_law_demand") T.d__law_demand T.g__law_demand (fun _ _ _ _ _ _ us hl => match us, hl with | [_, _], _ => rfl) fun fd F => ?_
  refine ok0 F sc_demandD (fun vs H Q E h => ?_) (fun cdv A outer s0 H vs Q E hr h => ?_)
  · obtain ⟨D, s, rfl, _⟩ := h
    rfl
  · obtain ⟨D, s, rfl, hD, hs1, hs50, k⟩ := h
    have nd := sc_demandD.nd
    have r1 := hr.mono (show 1 ≤ 2 by decide)
    refine ⟨_, pss_cons (ps_set (i := 2) nd rfl (.inr rfl) (pe_call F2 hr (by rfl) m2 kp2 b2 .nil pass0 (pa_cons (pv 0) pa_nil)))
      (pss_cons (PS.nrm (ps_setLc (own := [("_law_k", 7)]) (i := 3) (g := gName 7) (tt := tYes) rfl nd rfl rfl rfl (pi_range1 (by rfl) T.b_range (pa_cons (pv 1) pa_nil)) (blkOk_by (own := [("_law_k", 7)]) (N := ["_law_draws_here", "_law_size", "_law_wanted", "_law_row", "_law_word", "_law_run_here", "_law_place", "_law_k"]) (sc := defScope s__law_demand) (by decide +kernel)) (fun _ _ _ _ _ => pg_name (i := 7) nd rfl (Or.inl rfl)) (fun _ _ _ _ _ => pts_nil) (fun _ _ _ _ _ => pv 2)))
      (pss_cons (PS.nrm (ps_set (i := 4) nd rfl (.inl rfl) (pe_call F1 r1 (by rfl) m1 kp1 b1 .nil pass0 (pa_cons (pv 0) (pa_cons pe_int pa_nil)))))
      (pss_cons (PS.nrm (ps_if (pt_cmpR op_ge (pv 4) pe_int (nomark _)) (pss_cons (ps_set (i := 5) nd rfl (.inl rfl) (pe_call F3 hr (by rfl) m3 kp3 b3 .nil pass0 (pa_cons (pv 0) (pa_cons (pv 1) pa_nil))))
          (pss_one (PS.nrm (ps_for PassesOwn.never rfl (pi_range2 (by rfl) T.b_range (pa_cons (pe_ix ix_tup (pv 5) pe_int (fun _ _ => rfl)) (pa_cons (pe_ix ix_tup (pv 5) pe_int (fun _ _ => rfl)) pa_nil))) (pg_name (i := 6) nd rfl (.inl rfl))
            (pss_one (ps_augL (pv 3) (pv 6) (pe_ix ix_list (pe_lst (pa_cons pe_int (pa_cons (pe_un un_neg pe_int) pa_nil))) (pe_op op_sub (pv 4) pe_int) (fun _ _ => rfl)))))))) pss_nil))
      (pss_one (ps_ret (pv 3)))))), ?_⟩
    refine ⟨_, rfl, D, rfl, hD, fun n H1 k1 d1 => ?_⟩
    refine ⟨[some (.ref D), some (.int s), some (.int n), none, none, none, none, none], rfl, ?_⟩
    refine ⟨_, rfl, _, rfl, by omega, by omega, fun A hA => lc_it walk_range (fun i H' => Ex H1 H' ∧ H' A = some (.lst ((List.replicate i n).map V.int))) ⟨Ex.new hA, upd_same⟩ (fun _ _ _ _ => trivial) ?_ ?_⟩
    · rintro i x H2 H3 hi ⟨e2, hA2⟩ ⟨rfl, rfl⟩
      refine ⟨rfl, tYesI ⟨_, rfl, _, hA2, by rw [List.length_map, List.length_replicate]; exact small1000 (by omega), Evl.Ex.mut e2 hA, ?_⟩⟩
      rw [upd_same, List.replicate_succ', List.map_append]
      rfl
    rintro H2 ⟨e2, hA2⟩
    rw [Int.toNat_natCast] at hA2
    have hA0 : H A = none := k1.fresh d1 hA
    have hAD : A ≠ D := Kp.ne d1 hA
    have d2 := d1.ex e2
    have k2 := k1.trans (Kp.of e2)
    refine ⟨[some (.ref D), some (.int s), some (.int n), some (.ref A), none, none, none, none], rfl, ?_⟩
    refine ⟨_, rfl, D, 4, rfl, d2, by decide, fun wd H3 w0 w1 k3 d3 => ?_⟩
    have hA3 := k3 _ _ hAD hA2
    have k13 := k2.trans k3
    refine ⟨[some (.ref D), some (.int s), some (.int n), some (.ref A), some (.int wd), none, none, none], rfl, ?_⟩
    refine ⟨_, rfl, _, _, rfl, rfl, _, rfl, ?_⟩
    by_cases c : 2 ≤ wd
    · refine iteT' (decide_eq_true c) ?_
      refine ⟨_, rfl, _, rfl, D, _, rfl, d3, by omega, fun t r H4 hf k4 d4 ht0 ht => ?_⟩
      obtain ⟨f0, f1, f2⟩ := hf
      have hA4 := k4 _ _ hAD hA3
      have k14 := k13.trans k4
      have htA : t ≠ A := ne_of ht hA4 (by intro z; cases z)
      have htD : t ≠ D := Kp.ne d3 ht0
      refine ⟨[some (.ref D), some (.int s), some (.int n), some (.ref A), some (.int wd), some (.ref t), none, none], rfl, ?_⟩
      refine ⟨_, rfl, t, _, 0, _, rfl, rfl, SqT.of ht, atI_nat (j := 0) rfl, _, rfl, t, _, 1, _, rfl, rfl, SqT.of ht, atI_nat (j := 1) rfl, ?_⟩
      refine ⟨_, _, rfl, ⟨by omega, by omega, by omega, by omega⟩, for_it walk_range (fun j σ H' => ∃ (v6 v7 : Option V) (ds : List Int), σ = [some (.ref D), some (.int s), some (.int n), some (.ref A), some (.int wd), some (.ref t), v6, v7] ∧ Kp D H H' ∧ Dr D H' ∧ H' A = some (.lst (ds.map V.int)) ∧ ds.length = s) ⟨_, _, _, rfl, k14, d4, hA4, List.length_replicate⟩ (fun _ _ _ _ _ => trivial) ?_ ?_⟩
      · rintro j x σ H5 H6 hj ⟨v6, v7, ds, rfl, k5, d5, hA5, hl⟩ ⟨rfl, rfl⟩
        obtain ⟨b, hb⟩ : ∃ b : Nat, r.1 + (j : Int) = (b : Int) := ⟨(r.1 + (j : Int)).toNat, by omega⟩
        have hbs : b < s := by omega
        have hbl : b < ds.length := by omega
        obtain ⟨z, hz⟩ : ∃ z, ds[b]? = some z := ⟨_, List.getElem?_eq_getElem hbl⟩
        obtain ⟨y, hy⟩ : ∃ y : Int, atI [V.int 1, .int (-1)] (wd - 2) = some (.int y) := by
          have hw : wd = 2 ∨ wd = 3 := by omega
          rcases hw with rfl | rfl
          · exact ⟨1, atI_nat (j := 0) rfl⟩
          · exact ⟨-1, atI_nat (j := 1) rfl⟩
        refine ⟨_, rfl, _, rfl, A, _, b, .int z, rfl, congrArg V.int hb, SqL.of hA5, by rw [List.getElem?_map, hz]; rfl, ?_⟩
        refine ⟨_, rfl, (by show 2 ≤ sizeLine; decide), fun l hl0 => ?_⟩
        refine ⟨_, rfl, _, _, rfl, rfl, l, _, wd - 2, .int y, rfl, rfl, SqL.of upd_same, hy, _, _, rfl, rfl, ?_⟩
        have e6 := Ex.new (o := .lst [V.int 1, .int (-1)]) hl0
        refine ⟨A, _, r.1 + (j : Int), b, rfl, rfl, e6 _ _ hA5, ?_, ?_⟩
        · unfold ixN
          rw [List.length_map, if_pos (by omega), if_pos (by omega), hb, Int.toNat_natCast]
        · refine ⟨_, _, ds.set b (z + y), rfl, (k5.trans (Kp.of e6)).mut hA0, ?_, ?_, by rw [List.length_set]; exact hl⟩
          · obtain ⟨ms, hms⟩ := d5.ex e6
            exact ⟨ms, by rw [upd_ne (Ne.symm hAD)]; exact hms⟩
          · rw [upd_same, List.map_set]
      · rintro σ H5 ⟨v6, v7, ds, rfl, k5, d5, hA5, hl⟩
        exact ⟨_, rfl, k A ds H5 k5 d5 hA0 hA5 hl⟩
    · exact iteF' (decide_eq_false c) ⟨_, rfl, k A _ H3 k13 d3 hA0 hA3 List.length_replicate⟩
end
end K05


set_option Elab.async false
set_option linter.all false
set_option maxRecDepth 100000
set_option maxHeartbeats 4000000
namespace K05
open PySem PySem.Spec PyProof.Rows L2
open Evl (Ex)
section
variable {w : World} {K : PySem.W.Frag} {mg : Str → Option Value} {base : Heap}
def spLCoverT : Sp := fun vs H Q _ => ∃ (s : Nat) (R A : Addr) (us : List V) (rs : List (Int × Int)) (ps : List Int), vs = [.int s, .ref R, .ref A] ∧ s ≤ 50 ∧ H R = some (.lst us) ∧ Runs H us rs ∧ (∀ r ∈ rs, Fits s r) ∧ H A = some (.tup (ps.map V.int)) ∧ (∀ n ∈ ps, 0 ≤ n ∧ n < rs.length) ∧
  ∀ H' q, Ex H H' → H q = none → H' q = some (.lst ((covL s rs ps).map V.int)) → Q (.ref q) H'
theorem sc_lcoverT : FnScope ["_law_size", "_law_runs", "_law_parts_here", "_law_covers", "_law_place", "_law_part"] ["_law_size", "_law_runs", "_law_parts_here"] (defScope s__law_cover) := ⟨rfl, rfl, rfl, by decide +kernel, rfl, by decide +kernel, by decide +kernel⟩
theorem has_lcoverT (T : Ctx K mg) : Has w K mg base CX0 "_law_cover" 1 ["_law_size", "_law_runs", "_law_parts_here"] spLCoverT := by
  refine has_of (st := s__law_cover) (f := He.ga K "_law_cover") T.d__law_cover T.g__law_cover (fun _ _ _ _ _ _ us hl => match us, hl with | [_, _, _], _ => rfl) fun fd F => ?_
  refine ok0 F sc_lcoverT (fun vs H Q E h => ?_) (fun cdv A outer s0 H vs Q E hr h => ?_)
  · obtain ⟨s, R, A, us, rs, ps, rfl, _⟩ := h
    rfl
  · obtain ⟨s, R, A, us, rs, ps, rfl, hs50, hR, RR, hF, hA, inn, k⟩ := h
    have nd := sc_lcoverT.nd
    refine ⟨_, pss_cons (ps_setLc (own := [("_law_place", 4)]) (i := 3) (g := gName 4) (tt := tYes) rfl nd rfl rfl rfl (pi_range1 (by rfl) T.b_range (pa_cons (pv 0) pa_nil)) (blkOk_by (own := [("_law_place", 4)]) (N := ["_law_size", "_law_runs", "_law_parts_here", "_law_covers", "_law_place", "_law_part"]) (sc := defScope s__law_cover) (by decide +kernel)) (fun _ _ _ _ _ => pg_name (i := 4) nd rfl (Or.inl rfl)) (fun _ _ _ _ _ => pts_nil) (fun _ _ _ _ _ => pe_int))
      (pss_cons (ps_for PassesOwn.never rfl (pi_tup (pv 2)) (pg_name (i := 5) nd rfl (.inl rfl))
        (pss_one (ps_for PassesOwn.never rfl (pi_range2 (by rfl) T.b_range (pa_cons (pe_ix ix_tup (pe_ix ix_list (pv 1) (pv 5) (fun _ _ => rfl)) pe_int (fun _ _ => rfl)) (pa_cons (pe_ix ix_tup (pe_ix ix_list (pv 1) (pv 5) (fun _ _ => rfl)) pe_int (fun _ _ => rfl)) pa_nil))) (pg_name (i := 4) nd rfl (.inl rfl))
          (pss_one (ps_augL (pv 3) (pv 4) pe_int)))))
      (pss_one (ps_ret (pv 3)))), ?_⟩
    refine ⟨_, rfl, _, rfl, ?_, ?_, fun q hq => lc_it walk_range (fun i H' => Ex H H' ∧ H' q = some (.lst ((List.replicate i (0 : Int)).map V.int))) ⟨Ex.new hq, upd_same⟩ (fun _ _ _ _ => trivial) ?_ ?_⟩
    · omega
    · omega
    · rintro i x H2 H3 hi ⟨e2, hq2⟩ ⟨rfl, rfl⟩
      have hi50 : i < 100 := by omega
      refine ⟨rfl, tYesI ⟨_, hq2, by rw [List.length_map, List.length_replicate]; exact small1000 (by omega), Evl.Ex.mut e2 hq, ?_⟩⟩
      rw [upd_same, List.replicate_succ', List.map_append]
      rfl
    rintro H1 ⟨e1, hq1⟩
    have hrow0 : List.replicate ((s : Int).toNat) (0 : Int) = covL s rs [] := by
      unfold covL rowOf
      rw [Int.toNat_natCast]
      apply List.ext_getElem?
      intro n
      by_cases hn : n < s
      · rw [List.getElem?_map, List.getElem?_range hn, List.getElem?_replicate, if_pos hn]
        rfl
      · rw [List.getElem?_eq_none (by simp; omega), List.getElem?_eq_none (by simp; omega)]
    rw [hrow0] at hq1
    have hRq : R ≠ q := ne_of_none hR hq
    have hAq : A ≠ q := ne_of_none hA hq
    refine ⟨_, rfl, A, rfl, ⟨_, SqT.of (e1 _ _ hA)⟩, for_it walk_tup (fun i σ H' => ∃ v4 v5 : Option V, σ = [some (.int s), some (.ref R), some (.ref A), some (.ref q), v4, v5] ∧ Ex H H' ∧ H' q = some (.lst ((covL s rs (ps.take i)).map V.int))) ⟨_, _, rfl, e1, hq1⟩ (fun i σ H' _ ⟨_, _, _, e, _⟩ => SqT.of (e _ _ hA)) ?_ ?_⟩
    · rintro i x σ H2 H3 hi ⟨v4, v5, rfl, e2, hq2⟩ ⟨rfl, hx⟩
      obtain ⟨p, hp, rfl⟩ : ∃ p, ps[i]? = some p ∧ x = V.int p := by
        have hx2 : (ps.map V.int)[i]? = some x := hx
        rw [List.getElem?_map] at hx2
        cases c : ps[i]? with
        | none => rw [c] at hx2; cases hx2
        | some p => rw [c] at hx2; cases hx2; exact ⟨p, rfl, rfl⟩
      obtain ⟨hp0, hp1⟩ := inn p (List.mem_of_getElem? hp)
      obtain ⟨n, rfl⟩ : ∃ n : Nat, p = (n : Int) := ⟨p.toNat, by omega⟩
      have hn : n < rs.length := by omega
      obtain ⟨t, ht, htt⟩ := (RR.ex e2).at_ n _ (List.getElem?_eq_getElem hn)
      have hf := hF _ (List.getElem_mem hn)
      have hgd : rs.getD (n : Int).toNat (0, 0) = rs[n] := by
        rw [Int.toNat_natCast, List.getD_eq_getElem?_getD, List.getElem?_eq_getElem hn]
        rfl
      generalize rs[n] = r at *
      obtain ⟨f0, f1, f2⟩ := hf
      have hix : atI us (n : Int) = some (.ref t) := atI_nat ht
      refine ⟨_, rfl, _, rfl, R, us, _, _, rfl, rfl, SqL.of (e2 _ _ hR), hix, t, _, 0, _, rfl, rfl, SqT.of htt, atI_nat (j := 0) rfl, ?_⟩
      refine ⟨_, rfl, _, rfl, R, us, _, _, rfl, rfl, SqL.of (e2 _ _ hR), hix, t, _, 1, _, rfl, rfl, SqT.of htt, atI_nat (j := 1) rfl, ?_⟩
      refine ⟨_, _, rfl, ⟨by omega, by omega, by omega, by omega⟩, for_it walk_range (fun j σ H' => ∃ v4 v5 : Option V, σ = [some (.int s), some (.ref R), some (.ref A), some (.ref q), v4, v5] ∧ Ex H H' ∧ H' q = some (.lst ((rowOf s (bump (covAt rs (ps.take i)) r.1 j)).map V.int))) ⟨_, _, rfl, e2, ?_⟩ (fun _ _ _ _ _ => trivial) ?_ ?_⟩
      · rw [hq2]
        unfold covL
        rw [row_congr (g := bump (covAt rs (ps.take i)) r.1 0) fun z _ => ?_]
        unfold bump
        rw [if_neg (by omega)]
        omega
      · rintro j x σ H4 H5 hj ⟨v4, v5, rfl, e4, hq4⟩ ⟨rfl, rfl⟩
        obtain ⟨b, hb⟩ : ∃ b : Nat, r.1 = (b : Int) := ⟨r.1.toNat, by omega⟩
        have hbj : b + j < s := by omega
        have ebj : r.1 + (j : Int) = ((b + j : Nat) : Int) := by omega
        refine ⟨_, rfl, _, rfl, q, _, b + j, .int (bump (covAt rs (ps.take i)) r.1 j ((b + j : Nat) : Int)), rfl, ?_, SqL.of hq4, ?_, _, _, rfl, rfl, q, _, r.1 + (j : Int), b + j, rfl, rfl, hq4, ?_, _, _, rfl, Evl.Ex.mut e4 hq, ?_⟩
        · exact congrArg V.int ebj
        · rw [List.getElem?_map, row_get hbj]
          rfl
        · unfold ixN
          rw [List.length_map, row_len, if_pos (by omega), if_pos (by omega), ebj, Int.toNat_natCast]
        · rw [upd_same]
          show some (HO.lst (((rowOf s (bump (covAt rs (ps.take i)) r.1 j)).map V.int).set (b + j) (V.int (bump (covAt rs (ps.take i)) r.1 j ((b + j : Nat) : Int) + 1)))) = _
          rw [← List.map_set, row_set (g := bump (covAt rs (ps.take i)) r.1 (j + 1)) hbj ?_ fun z hz hne => ?_]
          · unfold bump
            rw [if_pos (by omega), if_neg (by omega)]
            omega
          · unfold bump
            by_cases c : r.1 ≤ (z : Int) ∧ (z : Int) < r.1 + (j : Int)
            · rw [if_pos c, if_pos (by omega)]
            · rw [if_neg c, if_neg (by omega)]
      · rintro σ H4 ⟨v4, v5, rfl, e4, hq4⟩
        refine ⟨_, _, rfl, e4, ?_⟩
        rw [hq4, List.take_add_one, hp]
        unfold covL
        rw [row_congr (g := covAt rs (ps.take i ++ [(n : Int)])) fun z _ => ?_]
        · rfl
        · rw [covAt_snoc, hgd]
          unfold bump
          have e3 : r.1 + ((r.2 - r.1).toNat : Int) = r.2 := by omega
          rw [e3]
    · rintro σ H2 ⟨v4, v5, rfl, e2, hq2⟩
      refine ⟨_, rfl, k _ _ e2 hq ?_⟩
      rw [hq2, List.length_map, List.take_length]
def spLInt : Sp := fun vs H Q _ => ∃ n : Int, vs = [.int n] ∧ Q (.bl true) H
theorem sc_lint : FnScope ["_law_value"] ["_law_value"] (defScope s__law_int) := ⟨rfl, rfl, rfl, by decide +kernel, rfl, by decide +kernel, by decide +kernel⟩
theorem has_lint (T : Ctx K mg) : Has w K mg base CX0 "_law_int" 1 ["_law_value"] spLInt := by
  refine has_of (st := s__law_int) (f := He.ga K "_law_int") T.d__law_int T.g__law_int (fun _ _ _ _ _ _ us hl => match us, hl with | [_], _ => rfl) fun fd F => ?_
  refine ok0 F sc_lint (fun vs H Q E h => ?_) (fun cdv A outer s H vs Q E hr h => ?_)
  · obtain ⟨n, rfl, _⟩ := h
    rfl
  · obtain ⟨n, rfl, k⟩ := h
    refine ⟨_, pss_one (ps_ret (pe_and (pe_callB call_isi (by rfl) T.b_isinstance (by decide +kernel) (pa_cons (pv 0) (pa_cons (pe_bltn (by rfl) T.b_int (by decide +kernel) (v := .ty "int") rfl) pa_nil)))
      (pe_one (pe_not (pe_callB call_isi (by rfl) T.b_isinstance (by decide +kernel) (pa_cons (pv 0) (pa_cons (pe_bltn (by rfl) T.b_bool (by decide +kernel) (v := .ty "bool") rfl) pa_nil))))))), ?_⟩
    refine ⟨_, rfl, _, _, _, _, true, rfl, .ty "int", .base (.int n), kit_ty (by decide +kernel), true, rfl, iteT ?_⟩
    exact ⟨_, rfl, _, _, _, _, false, rfl, .ty "bool", .base (.int n), kit_ty (by decide +kernel), false, rfl, k⟩
def spLSet : Sp := fun vs H Q _ => ∃ (a : Addr) (m : Int) (ps : List Int), vs = [.ref a, .int m] ∧ H a = some (.tup (ps.map V.int)) ∧ ps.Pairwise (· < ·) ∧ (∀ p ∈ ps, 0 ≤ p ∧ p < m) ∧ Q (.bl true) H
theorem sc_lset : FnScope ["_law_value", "_law_many", "_law_last", "_law_part"] ["_law_value", "_law_many"] (defScope s__law_set) := ⟨rfl, rfl, rfl, by decide +kernel, rfl, by decide +kernel, by decide +kernel⟩
theorem has_lset (T : Ctx K mg) : Has w K mg base CX0 "_law_set" 2 ["_law_value", "_law_many"] spLSet := by
  obtain ⟨f1, fd1, m1, kp1, F1, b1⟩ := has_lint (w := w) (base := base) T
  refine has_of (st := s__law_set) (f := He.ga K "_law_set") T.d__law_set T.g__law_set (fun _ _ _ _ _ _ us hl => match us, hl with | [_, _], _ => rfl) fun fd F => ?_
  refine ok0 F sc_lset (fun vs H Q E h => ?_) (fun cdv A outer s H vs Q E hr h => ?_)
  · obtain ⟨a, m, ps, rfl, _⟩ := h
    rfl
  · obtain ⟨a, m, ps, rfl, ha, hp, inn, k⟩ := h
    have nd := sc_lset.nd
    refine ⟨_, pss_cons (ps_if (pt_not (pt_val (pe_callB call_isi (by rfl) T.b_isinstance (by decide +kernel) (pa_cons (pv 0) (pa_cons (pe_bltn (by rfl) T.b_tuple (by decide +kernel) (v := .ty "tuple") rfl) pa_nil))))) (pss_one (ps_ret pe_bl)) pss_nil)
      (pss_cons (ps_set (i := 2) nd rfl (.inl rfl) (pe_un un_neg pe_int))
      (pss_cons (ps_for PassesOwn.never rfl (pi_tup (pv 0)) (pg_name (i := 3) nd rfl (.inl rfl))
        (pss_cons (ps_if (PW.pt (pw_or (pt_not (pt_val (pe_call F1 hr (by rfl) m1 kp1 b1 .nil pass0 (pa_cons (pv 3) pa_nil)))) (pw_or (pt_cmpR op_le (pv 3) (pv 2) (nomark _)) (pw_or1 (pt_cmpR op_ge (pv 3) (pv 1) (nomark _)))))) (pss_one (ps_ret pe_bl)) pss_nil)
        (pss_one (ps_set (i := 2) nd rfl (.inl rfl) (pv 3)))))
      (pss_one (ps_ret pe_bl)))), ?_⟩
    refine ⟨_, rfl, _, _, _, _, true, rfl, .ty "tuple", .base (.tup ha), kit_ty (by decide +kernel), true, rfl, iteF ?_⟩
    refine ⟨_, rfl, _, rfl, a, rfl, ⟨_, SqT.of ha⟩, for_it walk_tup (fun i σ H' => ∃ (v3 : Option V) (l : Int), σ = [some (.ref a), some (.int m), some (.int l), v3] ∧ H' = H ∧ (∀ j p, i ≤ j → ps[j]? = some p → l < p)) ⟨none, -1, rfl, rfl, fun j p _ h => (by have := inn p (List.mem_of_getElem? h); omega)⟩ (fun i σ H' _ ⟨_, _, _, e, _⟩ => by rw [e]; exact SqT.of ha) ?_ ?_⟩
    · rintro i v σ H2 H3 hi ⟨v3, l, rfl, rfl, hl⟩ ⟨rfl, hx⟩
      obtain ⟨p, hpi, rfl⟩ := map_int_get hx
      obtain ⟨p0, p1⟩ := inn p (List.mem_of_getElem? hpi)
      have lp := hl i p (Nat.le_refl _) hpi
      refine ⟨_, rfl, p, rfl, true, rfl, iteF ?_⟩
      refine ⟨_, rfl, _, rfl, _, _, rfl, rfl, _, rfl, iteF' (decide_eq_false (by omega)) ?_⟩
      refine ⟨_, rfl, _, rfl, _, _, rfl, rfl, _, rfl, iteF' (decide_eq_false (by omega)) ?_⟩
      refine ⟨_, rfl, _, p, rfl, rfl, fun j q hj hq => ?_⟩
      obtain ⟨h1, h2⟩ := List.getElem?_eq_some_iff.mp hpi
      obtain ⟨h3, h4⟩ := List.getElem?_eq_some_iff.mp hq
      have := List.pairwise_iff_getElem.mp hp i j h1 h3 (by omega)
      rw [h2, h4] at this
      exact this
    · rintro σ H2 ⟨v3, l, rfl, rfl, hl⟩
      exact k
def spLStockT : Sp := fun vs H Q _ => ∃ (kd : Str) (s : Nat) (R W A : Addr) (us : List V) (rs : List (Int × Int)) (D ps : List Int), vs = [.str kd, .int s, .ref R, .ref W, .ref A] ∧ (kd = "join" ∨ kd = "lap") ∧ s ≤ 50 ∧ H R = some (.lst us) ∧ Runs H us rs ∧ (∀ r ∈ rs, Fits s r) ∧ H W = some (.lst (D.map V.int)) ∧ D.length = s ∧ H A = some (.tup (ps.map V.int)) ∧ (∀ n ∈ ps, 0 ≤ n ∧ n < rs.length) ∧
  ∀ H', Ex H H' → Q (.bl ((okRow kd (covL s rs ps) D).all id)) H'
theorem sc_lstockT : FnScope ["_law_kind_here", "_law_size", "_law_runs", "_law_row", "_law_parts_here", "_law_covers", "_law_place"] ["_law_kind_here", "_law_size", "_law_runs", "_law_row", "_law_parts_here"] (defScope s__law_is_stock) := ⟨rfl, rfl, rfl, by decide +kernel, rfl, by decide +kernel, by decide +kernel⟩
theorem has_lstockT (T : Ctx K mg) : Has w K mg base CX0 "_law_is_stock" 2 ["_law_kind_here", "_law_size", "_law_runs", "_law_row", "_law_parts_here"] spLStockT := by
  obtain ⟨f1, fd1, m1, kp1, F1, b1⟩ := has_lcoverT (w := w) (base := base) T
  refine has_of (st := s__law_is_stock) (f := He.ga K "_law_is_stock") T.d__law_is_stock T.g__law_is_stock (fun _ _ _ _ _ _ us hl => match us, hl with | [_, _, _, _, _], _ => rfl) fun fd F => ?_
  refine ok0 F sc_lstockT (fun vs H Q E h => ?_) (fun cdv A0 outer s0 H vs Q E hr h => ?_)
  · obtain ⟨kd, s, R, W, A, us, rs, D, ps, rfl, _⟩ := h
    rfl
  · obtain ⟨kd, s, R, W, A, us, rs, D, ps, rfl, hkd, hs50, hR, hRs, hF, hW, hD, hA, inn, k⟩ := h
    have nd := sc_lstockT.nd
    refine ⟨_, pss_cons (ps_set (i := 5) nd rfl (.inl rfl) (pe_call F1 hr (by rfl) m1 kp1 b1 .nil pass0 (pa_cons (pv 1) (pa_cons (pv 2) (pa_cons (pv 4) pa_nil)))))
      (pss_cons (ps_for PassesOwn.never rfl (pi_range1 (by rfl) T.b_range (pa_cons (pv 1) pa_nil)) (pg_name (i := 6) nd rfl (.inl rfl))
        (pss_cons (ps_if (pt_cmpR op_lt (pe_ix ix_list (pv 5) (pv 6) (fun _ _ => rfl)) (pe_ix ix_list (pv 3) (pv 6) (fun _ _ => rfl)) (nomark _)) (pss_one (ps_ret pe_bl)) pss_nil)
        (pss_one (ps_if (PW.pt (pw_and (pt_cmpR op_eq (pv 0) pe_str (nomark _)) (pw_and1 (pt_cmpR op_gt (pe_ix ix_list (pv 5) (pv 6) (fun _ _ => rfl)) (pe_ix ix_list (pv 3) (pv 6) (fun _ _ => rfl)) (nomark _))))) (pss_one (ps_ret pe_bl)) pss_nil))))
      (pss_one (ps_ret pe_bl))), ?_⟩
    refine ⟨_, rfl, _, rfl, _, rfl, s, R, A, us, rs, ps, rfl, hs50, hR, hRs, hF, hA, inn, fun H1 q e1 hq0 hq => ?_⟩
    have hcl : (covL s rs ps).length = s := by unfold covL; exact row_len _ _
    generalize covL s rs ps = CV at *
    have hol : (okRow kd CV D).length = s := by rw [okRow_len kd _ _ (by rw [hcl, hD]), hcl]
    refine ⟨_, rfl, (s : Int), rfl, by omega, by omega, for_it walk_range (fun i σ H' => ∃ v6 : Option V, σ = [some (.str kd), some (.int s), some (.ref R), some (.ref W), some (.ref A), some (.ref q), v6] ∧ Ex H1 H' ∧ ∀ j, j < i → (okRow kd CV D)[j]? = some true) ⟨_, rfl, Ex.refl _, fun j hj => absurd hj (Nat.not_lt_zero j)⟩ (fun _ _ _ _ _ => trivial) ?_ ?_⟩
    · rintro i v σ H3 H4 hi ⟨v6, rfl, e3, hb⟩ ⟨rfl, rfl⟩
      have his : i < s := by omega
      have hC : CV[i]? = some (CV[i]'(by omega)) := List.getElem?_eq_getElem (by omega)
      have hDi : D[i]? = some (D[i]'(by omega)) := List.getElem?_eq_getElem (by omega)
      generalize CV[i]'(by omega) = c at hC
      generalize D[i]'(by omega) = d at hDi
      have hok := okRow_get kd _ _ i c d hC hDi
      have hq3 := SqL.of (K := K) (e3 _ _ hq)
      have hW3 := SqL.of (K := K) (e3 _ _ (e1 _ _ hW))
      have aC : atI (CV.map V.int) (0 + (i : Int)) = some (.int c) := by rw [Int.zero_add]; exact atI_nat (by rw [List.getElem?_map, hC]; rfl)
      have aD : atI (D.map V.int) (0 + (i : Int)) = some (.int d) := by rw [Int.zero_add]; exact atI_nat (by rw [List.getElem?_map, hDi]; rfl)
      refine ⟨_, rfl, _, rfl, q, _, _, _, rfl, rfl, hq3, aC, _, rfl, _, rfl, W, _, _, _, rfl, rfl, hW3, aD, _, _, rfl, rfl, _, rfl, ?_⟩
      have stop : okAt kd c d = false → Q (.bl false) H4 := fun z => by
        have := k H4 (e1.trans e3)
        rw [all_id_no (i := i) (by rw [hok, z])] at this
        exact this
      have goon : okAt kd c d = true → ∀ j, j < i + 1 → (okRow kd CV D)[j]? = some true := fun z j hj => by
        by_cases e : j = i
        · rw [e, hok, z]
        · exact hb j (by omega)
      by_cases c1 : c < d
      · refine iteT' (decide_eq_true c1) (stop ?_)
        unfold okAt
        split
        · exact decide_eq_false (by omega)
        · exact decide_eq_false (by omega)
      refine iteF' (decide_eq_false c1) ?_
      refine ⟨_, rfl, rfl, _, rfl, ?_⟩
      rcases hkd with rfl | rfl
      · refine iteT' (decide_eq_true rfl) ?_
        refine ⟨_, rfl, _, rfl, q, _, _, _, rfl, rfl, hq3, aC, _, rfl, _, rfl, W, _, _, _, rfl, rfl, hW3, aD, _, _, rfl, rfl, _, rfl, ?_⟩
        by_cases c2 : d < c
        · refine iteT' (decide_eq_true c2) (stop ?_)
          unfold okAt
          rw [if_neg (by decide)]
          exact decide_eq_false (by omega)
        · refine iteF' (decide_eq_false c2) ⟨_, rfl, e3, goon ?_⟩
          unfold okAt
          rw [if_neg (by decide)]
          exact decide_eq_true (by omega)
      · refine iteF' (decide_eq_false (by decide)) ⟨_, rfl, e3, goon ?_⟩
        unfold okAt
        rw [if_pos rfl]
        exact decide_eq_true (by omega)
    · rintro σ H3 ⟨v6, rfl, e3, hb⟩
      have := k H3 (e1.trans e3)
      rw [all_id_get (fun j hj => hb j (by rw [Int.toNat_natCast, ← hol]; exact hj))] at this
      exact this
end
end K05


set_option Elab.async false
set_option linter.all false
set_option maxRecDepth 100000
set_option maxHeartbeats 4000000
namespace K05
open PySem PySem.Spec PyProof.Rows L2 RZ StX
open Evl (Ex)
/-! ### sums -/
def sm {α : Type} (f : α → Int) : List α → Int
  | [] => 0
  | x :: xs => f x + sm f xs
section
variable {α : Type}
theorem sm_append (f : α → Int) : ∀ (a b : List α), sm f (a ++ b) = sm f a + sm f b
  | [], b => by simp [sm]
  | x :: a, b => by simp only [List.cons_append, sm, sm_append f a b]; omega
theorem sm_add (f g : α → Int) : ∀ l : List α, sm (fun x => f x + g x) l = sm f l + sm g l
  | [] => rfl
  | x :: l => by simp only [sm, sm_add f g l]; omega
theorem sm_sub (f g : α → Int) : ∀ l : List α, sm (fun x => f x - g x) l = sm f l - sm g l
  | [] => rfl
  | x :: l => by simp only [sm, sm_sub f g l]; omega
theorem sm_congr {f g : α → Int} : ∀ {l : List α}, (∀ x ∈ l, f x = g x) → sm f l = sm g l
  | [], _ => rfl
  | x :: l, h => by simp only [sm, h x (List.mem_cons_self ..), sm_congr fun y hy => h y (List.mem_cons_of_mem _ hy)]
theorem sm_zero : ∀ l : List α, sm (fun _ => 0) l = 0
  | [] => rfl
  | _ :: l => by simp [sm, sm_zero l]
theorem sm_le {f g : α → Int} : ∀ {l : List α}, (∀ x ∈ l, f x ≤ g x) → sm f l ≤ sm g l
  | [], _ => Int.le_refl _
  | x :: l, h => by
    have := h x (List.mem_cons_self ..)
    have := sm_le fun y hy => h y (List.mem_cons_of_mem _ hy)
    simp only [sm]; omega
theorem sm_pos {f : α → Int} : ∀ {l : List α}, (∀ x ∈ l, 0 ≤ f x) → ∀ x ∈ l, f x ≤ sm f l
  | y :: l, h, x, hx => by
    have h0 := h y (List.mem_cons_self ..)
    have h1 : 0 ≤ sm f l := by
      have := sm_le (f := fun _ => 0) (g := f) (l := l) fun z hz => h z (List.mem_cons_of_mem _ hz)
      rw [sm_zero] at this
      exact this
    rcases List.mem_cons.mp hx with rfl | hx
    · simp only [sm]; omega
    · have := sm_pos (fun z hz => h z (List.mem_cons_of_mem _ hz)) x hx
      simp only [sm]; omega
theorem sm_swap {β : Type} (f : α → β → Int) (m : List β) : ∀ l : List α, sm (fun x => sm (f x) m) l = sm (fun y => sm (fun x => f x y) l) m
  | [] => by simp only [sm]; rw [sm_zero]
  | x :: l => by
    simp only [sm, sm_swap f m l]
    rw [← sm_add]
theorem sm_count (P : α → Bool) : ∀ l : List α, sm (fun x => if P x = true then 1 else 0) l = ((l.filter P).length : Int)
  | [] => rfl
  | x :: l => by
    simp only [sm, sm_count P l, List.filter_cons]
    by_cases c : P x = true
    · rw [if_pos c, if_pos c, List.length_cons]; omega
    · rw [if_neg c, if_neg c]; omega
end
/-- whether x stands in the list, as a number -/
def inn (l : List Int) (x : Int) : Int := if x ∈ l then 1 else 0
theorem sm_at {l : List Int} (h : l.Nodup) (x : Int) : sm (fun q => if q = x then 1 else 0) l = inn l x := by
  induction l with
  | nil => rfl
  | cons y l ih =>
    have hn := List.nodup_cons.mp h
    simp only [sm, ih hn.2]
    unfold inn
    by_cases c : y = x
    · subst c
      rw [if_pos rfl, if_neg hn.1, if_pos (List.mem_cons_self ..)]
      rfl
    · rw [if_neg c]
      by_cases d : x ∈ l
      · rw [if_pos d, if_pos (List.mem_cons_of_mem _ d)]; rfl
      · rw [if_neg d, if_neg (fun z => by rcases List.mem_cons.mp z with e | e; exact c e.symm; exact d e)]; rfl
def rn (rs : List (Int × Int)) (p : Int) : Int × Int := rs.getD p.toNat (0, 0)
theorem sm_dOne {pts : List Int} (h : pts.Nodup) (r : Int × Int) : sm (dOne r) pts = inn pts r.1 - inn pts r.2 := by
  unfold dOne
  rw [sm_sub, sm_at h, sm_at h]
theorem dAt_sm (rs : List (Int × Int)) (q : Int) : ∀ X : List Int, dAt rs X q = sm (fun p => dOne (rn rs p) q) X
  | [] => rfl
  | p :: X => by
    show dAt rs X q + dOne (rn rs p) q = dOne (rn rs p) q + sm _ X
    rw [dAt_sm rs q X]; omega
theorem sm_dAt {pts : List Int} (h : pts.Nodup) (rs : List (Int × Int)) (X : List Int) : sm (dAt rs X) pts = sm (fun p => inn pts (rn rs p).1 - inn pts (rn rs p).2) X := by
  rw [show dAt rs X = fun q => sm (fun p => dOne (rn rs p) q) X from funext fun q => dAt_sm rs q X, sm_swap]
  exact sm_congr fun p _ => sm_dOne h _
/-! ### what leaves a set of points -/
def lvB (rs : List (Int × Int)) (pts : List Int) (p : Int) : Bool := decide ((rn rs p).1 ∈ pts) && !decide ((rn rs p).2 ∈ pts)
def enB (rs : List (Int × Int)) (pts : List Int) (p : Int) : Bool := decide ((rn rs p).2 ∈ pts) && !decide ((rn rs p).1 ∈ pts)
theorem sub_filter {X pres : List Int} (hX : X.Pairwise (· < ·)) (hp : pres.Pairwise (· < ·)) (hs : ∀ p ∈ X, p ∈ pres) : X = pres.filter fun p => decide (p ∈ X) := by
  refine asc_eq hX (hp.filter _) fun k => ?_
  rw [List.mem_filter, decide_eq_true_iff]
  exact ⟨fun h => ⟨hs k h, h⟩, fun h => h.2⟩
theorem cut_le {rs : List (Int × Int)} {pts X pres : List Int} (hX : X.Pairwise (· < ·)) (hp : pres.Pairwise (· < ·)) (hs : ∀ p ∈ X, p ∈ pres) :
    sm (fun p => inn pts (rn rs p).1 - inn pts (rn rs p).2) X ≤ ((pres.filter (lvB rs pts)).length : Int) := by
  have h1 : sm (fun p => inn pts (rn rs p).1 - inn pts (rn rs p).2) X ≤ sm (fun p => if lvB rs pts p = true then 1 else 0) X := sm_le fun p _ => by
    unfold inn lvB
    by_cases a : (rn rs p).1 ∈ pts <;> by_cases b : (rn rs p).2 ∈ pts <;> simp [a, b]
  rw [sm_count] at h1
  refine Int.le_trans h1 ?_
  have e : X.filter (lvB rs pts) = (pres.filter (lvB rs pts)).filter fun p => decide (p ∈ X) := by
    conv => lhs; rw [sub_filter hX hp hs]
    rw [List.filter_filter, List.filter_filter]
    exact List.filter_congr fun x _ => Bool.and_comm _ _
  rw [e]
  exact Int.ofNat_le.mpr (List.length_filter_le _ _)
/-- an arc: its begin, its end, its part -/
abbrev Arc := Int × Int × Int
def arcOf (rs : List (Int × Int)) (c : List Int) (p : Int) : Arc := if p ∈ c then ((rn rs p).2, (rn rs p).1, p) else ((rn rs p).1, (rn rs p).2, p)
def arcsL (rs : List (Int × Int)) (pres c : List Int) : List Arc := pres.map (arcOf rs c)
theorem arcOf_part (rs : List (Int × Int)) (c : List Int) (p : Int) : (arcOf rs c p).2.2 = p := by
  unfold arcOf
  split <;> rfl
def Closed (as : List Arc) (pts : List Int) : Prop := ∀ a ∈ as, a.1 ∈ pts → a.2.1 ∈ pts
theorem cut_eq {rs : List (Int × Int)} {pts c pres : List Int} (hc : c.Pairwise (· < ·)) (hp : pres.Pairwise (· < ·)) (hs : ∀ p ∈ c, p ∈ pres) (hcl : Closed (arcsL rs pres c) pts) :
    sm (fun p => inn pts (rn rs p).1 - inn pts (rn rs p).2) c = ((pres.filter (lvB rs pts)).length : Int) := by
  have arc : ∀ p ∈ pres, (arcOf rs c p).1 ∈ pts → (arcOf rs c p).2.1 ∈ pts := fun p h => hcl _ (List.mem_map.mpr ⟨p, h, rfl⟩)
  have h1 : sm (fun p => inn pts (rn rs p).1 - inn pts (rn rs p).2) c = sm (fun p => if lvB rs pts p = true then 1 else 0) c := sm_congr fun p hpc => by
    have h := arc p (hs p hpc)
    unfold arcOf at h
    rw [if_pos hpc] at h
    unfold inn lvB
    by_cases a : (rn rs p).1 ∈ pts
    · by_cases b : (rn rs p).2 ∈ pts <;> simp [a, b]
    · by_cases b : (rn rs p).2 ∈ pts
      · exact absurd (h b) a
      · simp [a, b]
  rw [h1, sm_count]
  congr 1
  have e : pres.filter (lvB rs pts) = c.filter (lvB rs pts) := by
    conv => rhs; rw [sub_filter hc hp hs]
    rw [List.filter_filter]
    refine List.filter_congr fun p hpp => ?_
    by_cases hpc : p ∈ c
    · simp [hpc]
    · have h := arc p hpp
      unfold arcOf at h
      rw [if_neg hpc] at h
      unfold lvB
      by_cases a : (rn rs p).1 ∈ pts
      · simp [hpc, a, h a]
      · simp [hpc, a]
  rw [e]
/-! ### a row of arcs from one point to another, told from its end -/
def IsRow : List Arc → Int → Int → Prop
  | [], _, _ => False
  | [a], src, goal => a.1 = src ∧ a.2.1 = goal
  | a :: b :: rest, src, goal => a.2.1 = goal ∧ IsRow (b :: rest) src a.1
theorem IsRow.snoc : ∀ {R : List Arc} {src goal : Int} {a : Arc}, IsRow R src goal → a.2.1 = src → IsRow (R ++ [a]) a.1 goal
  | [b], src, goal, a, h, e => ⟨h.2, rfl, by rw [e, h.1]⟩
  | b :: d :: rest, src, goal, a, h, e => ⟨h.1, IsRow.snoc h.2 e⟩
theorem IsRow.tele : ∀ {R : List Arc} {src goal : Int}, IsRow R src goal → ∀ q, sm (fun a : Arc => (if q = a.1 then 1 else 0) - (if q = a.2.1 then 1 else 0)) R = (if q = src then 1 else 0) - (if q = goal then 1 else 0)
  | [a], src, goal, h, q => by
    simp only [sm, h.1, h.2]
    omega
  | a :: b :: rest, src, goal, h, q => by
    have := IsRow.tele h.2 q
    rw [sm, this, h.1]
    omega
theorem IsRow.first : ∀ {R : List Arc} {src goal : Int}, IsRow R src goal → ∃ a rest, R = a :: rest ∧ a.2.1 = goal
  | [a], _, _, h => ⟨a, [], rfl, h.2⟩
  | a :: b :: rest, _, _, h => ⟨a, b :: rest, rfl, h.1⟩
theorem IsRow.last : ∀ {R : List Arc} {src goal : Int}, IsRow R src goal → ∃ ini a, R = ini ++ [a] ∧ a.1 = src
  | [a], _, _, h => ⟨[], a, rfl, h.1⟩
  | a :: b :: rest, _, _, h => by
    obtain ⟨ini, z, e, hz⟩ := IsRow.last h.2
    exact ⟨a :: ini, z, by rw [e]; rfl, hz⟩
/-! ### the parts turned along a row -/
def gS (pres : List Int) (P : Int → Bool) (w : Int → Int) : Int := sm (fun p => if P p = true then w p else 0) pres
def turn (P : Int → Bool) (ps : List Int) (p : Int) : Bool := if p ∈ ps then !P p else P p
theorem gS_turn (w : Int → Int) (P : Int → Bool) {ps : List Int} : ∀ {pres : List Int}, pres.Nodup → gS pres (turn P ps) w = gS pres P w + sm (fun p => if P p = true then - w p else w p) (pres.filter fun p => decide (p ∈ ps))
  | [], _ => rfl
  | x :: pres, h => by
    have hn := List.nodup_cons.mp h
    have ih := gS_turn w P (ps := ps) hn.2
    unfold gS at ih ⊢
    simp only [sm, List.filter_cons]
    rw [ih]
    unfold turn
    by_cases c : x ∈ ps
    · simp only [if_pos c, decide_eq_true c, if_true, sm]
      cases P x <;> simp <;> omega
    · simp only [if_neg c, decide_eq_false c]
      simp
      omega
theorem sm_perm {α : Type} {f : α → Int} {a b : List α} (h : a.Perm b) : sm f a = sm f b := by
  induction h with
  | nil => rfl
  | cons x _ ih => simp only [sm, ih]
  | swap x y l => simp only [sm]; omega
  | trans _ _ i1 i2 => rw [i1, i2]
theorem sm_map {α β : Type} (f : β → Int) (g : α → β) : ∀ l : List α, sm f (l.map g) = sm (fun x => f (g x)) l
  | [] => rfl
  | x :: l => by simp only [List.map_cons, sm, sm_map f g l]
/-- behind a row of arcs the covers change at its two ends only -/
theorem dAt_turned {rs : List (Int × Int)} {pres c c' : List Int} {R : List Arc} {src goal : Int} (hp : pres.Pairwise (· < ·)) (hc : c.Pairwise (· < ·)) (hs : ∀ p ∈ c, p ∈ pres) (hc' : c'.Pairwise (· < ·))
    (hR : ∀ a ∈ R, a ∈ arcsL rs pres c) (hnd : (R.map fun a => a.2.2).Nodup) (hrow : IsRow R src goal) (hm : ∀ k, k ∈ c' ↔ k ∈ pres ∧ turn (fun p => decide (p ∈ c)) (R.map fun a => a.2.2) k = true) (q : Int) :
    dAt rs c' q = dAt rs c q + ((if q = src then 1 else 0) - (if q = goal then 1 else 0)) := by
  have pnd : pres.Nodup := asc_nodup hp
  have e1 : ∀ {X : List Int}, X.Pairwise (· < ·) → (∀ p ∈ X, p ∈ pres) → dAt rs X q = gS pres (fun p => decide (p ∈ X)) fun p => dOne (rn rs p) q := fun {X} hX hXs => by
    rw [dAt_sm]
    conv => lhs; rw [sub_filter hX hp hXs]
    unfold gS
    have gen : ∀ (P : Int → Bool) (w : Int → Int) (l : List Int), sm w (l.filter P) = sm (fun p => if P p = true then w p else 0) l := fun P w l => by
      induction l with
      | nil => rfl
      | cons x l ih =>
        rw [List.filter_cons]
        by_cases z : P x = true
        · rw [if_pos z]; simp only [sm, ih, if_pos z]
        · rw [if_neg z]; simp only [sm, ih, if_neg z]; omega
    exact gen _ _ _
  rw [e1 hc' (fun p h => ((hm p).mp h).1), e1 hc hs]
  have e2 : gS pres (fun p => decide (p ∈ c')) (fun p => dOne (rn rs p) q) = gS pres (turn (fun p => decide (p ∈ c)) (R.map fun a => a.2.2)) fun p => dOne (rn rs p) q := by
    unfold gS
    refine sm_congr fun p hpp => ?_
    have : decide (p ∈ c') = turn (fun p => decide (p ∈ c)) (R.map fun a => a.2.2) p := by
      apply Bool.eq_iff_iff.mpr
      rw [decide_eq_true_iff, hm]
      exact ⟨fun z => z.2, fun z => ⟨hpp, z⟩⟩
    simp only [this]
  rw [e2, gS_turn _ _ pnd]
  congr 1
  have inP : ∀ p ∈ R.map (fun a => a.2.2), p ∈ pres := fun p h => by
    obtain ⟨a, ha, rfl⟩ := List.mem_map.mp h
    obtain ⟨p, hpp, rfl⟩ := List.mem_map.mp (hR a ha)
    rw [arcOf_part]
    exact hpp
  have pm : (pres.filter fun p => decide (p ∈ R.map fun a => a.2.2)).Perm (R.map fun a => a.2.2) := by
    refine (List.perm_ext_iff_of_nodup (pnd.filter _) hnd).mpr fun k => ?_
    rw [List.mem_filter, decide_eq_true_iff]
    exact ⟨fun z => z.2, fun z => ⟨inP k z, z⟩⟩
  rw [sm_perm pm, sm_map, ← hrow.tele q]
  refine sm_congr fun a ha => ?_
  obtain ⟨p, hpp, rfl⟩ := List.mem_map.mp (hR a ha)
  rw [arcOf_part]
  unfold arcOf dOne
  by_cases z : p ∈ c
  · simp only [decide_eq_true z, if_pos z, if_true]
    omega
  · simp only [decide_eq_false z, if_neg z]
    simp
/-! ### the walk that stops -/
def begD (D : List Int) (q : Int) : Int := (D ++ [0]).getD q.toNat 0 - (0 :: D).getD q.toNat 0
end K05


set_option Elab.async false
set_option linter.all false
set_option maxRecDepth 100000
set_option maxHeartbeats 4000000
namespace K05
open PySem PySem.Spec PyProof.Rows L2 RZ StX
open Evl (Ex)
theorem begD_nat (D : List Int) (n : Nat) : begD D n = (D ++ [0]).getD n 0 - (0 :: D).getD n 0 := rfl
theorem pre_begD (D : List Int) : ∀ n : Nat, n ≤ D.length → pre (begD D) n = (0 :: D).getD n 0
  | 0, _ => rfl
  | n + 1, h => by
    show pre (begD D) n + begD D n = _
    rw [pre_begD D n (by omega), begD_nat]
    have : (D ++ [0]).getD n 0 = D.getD n 0 := by
      rw [List.getD_eq_getElem?_getD, List.getD_eq_getElem?_getD, List.getElem?_append_left (by omega)]
    rw [this]
    show _ = D.getD n 0
    omega
def joinOk (s : Nat) (rs : List (Int × Int)) (D X : List Int) : Prop := ∀ q : Nat, q ≤ s → dAt rs X q = begD D q
theorem pre_congr {f g : Int → Int} : ∀ {n : Nat}, (∀ q : Nat, q < n → f q = g q) → pre f n = pre g n
  | 0, _ => rfl
  | n + 1, h => by
    show pre f n + f n = pre g n + g n
    rw [pre_congr fun q hq => h q (by omega), h n (by omega)]
theorem cov_end {s : Nat} {rs : List (Int × Int)} (hF : ∀ r ∈ rs, Fits s r) {X : List Int} (hX : ∀ p ∈ X, 0 ≤ p ∧ p < rs.length) : covAt rs X (s : Int) = 0 := by
  unfold covAt
  have : (X.filter fun p => decide ((rs.getD p.toNat (0, 0)).1 ≤ (s : Int) ∧ (s : Int) < (rs.getD p.toNat (0, 0)).2)) = [] := by
    refine List.filter_eq_nil_iff.mpr fun p hp => ?_
    have hb := hX p hp
    have hm : rs.getD p.toNat (0, 0) ∈ rs := by
      rw [List.getD_eq_getElem?_getD, List.getElem?_eq_getElem (by omega)]
      exact List.getElem_mem _
    have := (hF _ hm).2.2
    rw [decide_eq_true_iff]
    omega
  rw [this]
  rfl
theorem joinOk_iff {s : Nat} {rs : List (Int × Int)} {D X : List Int} (hD : D.length = s) (hF : ∀ r ∈ rs, Fits s r) (hX : ∀ p ∈ X, 0 ≤ p ∧ p < rs.length) : (okRow "join" (covL s rs X) D).all id = true ↔ joinOk s rs D X := by
  have hl : (covL s rs X).length = D.length := by unfold covL; rw [row_len, hD]
  have hg : ∀ j : Nat, j < s → (okRow "join" (covL s rs X) D)[j]? = some (decide (covAt rs X j = D.getD j 0)) := fun j hj => by
    have h1 : (covL s rs X)[j]? = some (covAt rs X j) := row_get hj
    have h2 : D[j]? = some (D.getD j 0) := by rw [List.getD_eq_getElem?_getD, List.getElem?_eq_getElem (by omega)]; rfl
    rw [okRow_get "join" _ _ j _ _ h1 h2]
    unfold okAt
    rw [if_neg (by decide +kernel)]
  have hcov : (okRow "join" (covL s rs X) D).all id = true ↔ ∀ j : Nat, j < s → covAt rs X j = D.getD j 0 := by
    constructor
    · intro h j hj
      have := List.all_eq_true.mp h _ (List.mem_of_getElem? (hg j hj))
      exact of_decide_eq_true this
    · intro h
      refine all_id_get fun j hj => ?_
      rw [okRow_len "join" _ _ hl] at hj
      have hj' : j < s := by rw [hl, hD] at hj; exact hj
      rw [hg j hj', h j hj', decide_eq_true rfl]
  rw [hcov]
  constructor
  · intro h q hq
    have step : ∀ n : Nat, n ≤ s → pre (dAt rs X) (n + 1) = (D ++ [0]).getD n 0 := fun n hn => by
      rw [pre_cov hF X hX n]
      by_cases c : n < s
      · rw [h n c, List.getD_eq_getElem?_getD, List.getD_eq_getElem?_getD, List.getElem?_append_left (by omega)]
      · obtain rfl : n = s := by omega
        rw [cov_end hF hX, List.getD_eq_getElem?_getD, List.getElem?_append_right (by omega), hD, Nat.sub_self]
        rfl
    have e1 : dAt rs X q = pre (dAt rs X) (q + 1) - pre (dAt rs X) q := by
      show _ = (pre (dAt rs X) q + dAt rs X q) - _
      omega
    rw [e1, step q hq, begD_nat]
    congr 1
    cases q with
    | zero => rfl
    | succ n =>
      rw [step n (by omega)]
      show (D ++ [0]).getD n 0 = D.getD n 0
      rw [List.getD_eq_getElem?_getD, List.getD_eq_getElem?_getD, List.getElem?_append_left (by omega)]
  · intro h j hj
    rw [← pre_cov hF X hX j, pre_congr (g := begD D) fun q hq => h q (by omega), pre_begD D (j + 1) (by omega)]
    rfl
/-! ### the walk that stops -/
/-- how much more begins at a point than is bought -/
def needF (rs : List (Int × Int)) (D c : List Int) (q : Int) : Int := begD D q - dAt rs c q
structure Stops (s : Nat) (rs : List (Int × Int)) (pres D c S : List Int) : Prop where
  hc : c.Pairwise (· < ·)
  hp : pres.Pairwise (· < ·)
  hs : ∀ p ∈ c, p ∈ pres
  nd : S.Nodup
  cl : Closed (arcsL rs pres c) S
  pos : ∀ q : Nat, q ≤ s → 0 < needF rs D c q → (q : Int) ∈ S
  inn : ∀ q ∈ S, 0 ≤ q ∧ q ≤ s
  neg : ∀ q ∈ S, 0 ≤ needF rs D c q
theorem Stops.lack {s : Nat} {rs : List (Int × Int)} {pres D c S : List Int} (h : Stops s rs pres D c S) {q0 : Nat} (hq : q0 ≤ s) (h0 : 0 < needF rs D c q0) : ((pres.filter (lvB rs S)).length : Int) < sm (begD D) S := by
  have e : sm (begD D) S = sm (needF rs D c) S + sm (dAt rs c) S := by
    rw [← sm_add]
    exact sm_congr fun q _ => by unfold needF; omega
  rw [e, sm_dAt h.nd, cut_eq h.hc h.hp h.hs h.cl]
  have := sm_pos h.neg _ (h.pos q0 hq h0)
  omega
theorem Stops.none {s : Nat} {rs : List (Int × Int)} {pres D c S X : List Int} (h : Stops s rs pres D c S) {q0 : Nat} (hq : q0 ≤ s) (h0 : 0 < needF rs D c q0) (hX : X.Pairwise (· < ·)) (hXs : ∀ p ∈ X, p ∈ pres) : ¬ joinOk s rs D X := fun z => by
  have h1 := h.lack hq h0
  have e : sm (begD D) S = sm (dAt rs X) S := sm_congr fun q hqS => by
    have hb := h.inn q hqS
    have := z q.toNat (by omega)
    rw [show ((q.toNat : Nat) : Int) = q by omega] at this
    exact this.symm
  rw [e, sm_dAt h.nd] at h1
  have := cut_le (pts := S) (rs := rs) hX h.hp hXs
  omega
theorem upto_inn {n : Nat} {x : Int} (h : 0 ≤ x ∧ x < n) : inn (upto n) x = 1 := by
  unfold inn
  rw [if_pos (upto_mem.mpr h)]
theorem sm_upto (f : Int → Int) : ∀ n : Nat, sm f (upto n) = pre f n
  | 0 => rfl
  | n + 1 => by
    rw [upto_succ, sm_append, sm_upto f n]
    show _ = pre f n + f n
    simp [sm]
theorem need_sum {s : Nat} {rs : List (Int × Int)} {D c : List Int} (hD : D.length = s) (hF : ∀ r ∈ rs, Fits s r) (hc : ∀ p ∈ c, 0 ≤ p ∧ p < rs.length) : sm (needF rs D c) (upto (s + 1)) = 0 := by
  have e : sm (needF rs D c) (upto (s + 1)) = sm (begD D) (upto (s + 1)) - sm (dAt rs c) (upto (s + 1)) := by rw [← sm_sub]; rfl
  have e1 : sm (begD D) (upto (s + 1)) = 0 := by
    rw [sm_upto]
    show pre (begD D) s + begD D s = 0
    rw [pre_begD D s (by omega), begD_nat, List.getD_eq_getElem?_getD (l := D ++ [0]), List.getElem?_append_right (by omega), hD, Nat.sub_self]
    show (0 :: D).getD s 0 + ((0 : Int) - (0 :: D).getD s 0) = 0
    omega
  have e2 : sm (dAt rs c) (upto (s + 1)) = 0 := by
    rw [sm_dAt (asc_nodup (upto_asc _)), ← sm_zero c]
    refine sm_congr fun p hp => ?_
    have hb := hc p hp
    have hm : rn rs p ∈ rs := by
      unfold rn
      rw [List.getD_eq_getElem?_getD, List.getElem?_eq_getElem (by omega)]
      exact List.getElem_mem _
    obtain ⟨f0, f1, f2⟩ := hF _ hm
    rw [upto_inn (by omega), upto_inn (by omega)]
    rfl
  rw [e, e1, e2]
  rfl
theorem need_zero {s : Nat} {rs : List (Int × Int)} {D c : List Int} (hD : D.length = s) (hF : ∀ r ∈ rs, Fits s r) (hc : ∀ p ∈ c, 0 ≤ p ∧ p < rs.length) (h : ∀ q : Nat, q ≤ s → needF rs D c q ≤ 0) : joinOk s rs D c := by
  intro q hq
  have h1 := need_sum hD hF hc
  have h2 : needF rs D c q = 0 := by
    have hn : ∀ x ∈ upto (s + 1), 0 ≤ - needF rs D c x := fun x hx => by
      have hb := upto_mem.mp hx
      have := h x.toNat (by omega)
      rw [show ((x.toNat : Nat) : Int) = x by omega] at this
      omega
    have h3 := sm_pos hn q (upto_mem.mpr (by omega))
    have h4 : sm (fun x => - needF rs D c x) (upto (s + 1)) = 0 := by
      have : sm (fun x => (0 : Int) - needF rs D c x) (upto (s + 1)) = 0 := by
        rw [sm_sub, sm_zero, h1]; rfl
      rw [← this]
      exact sm_congr fun x _ => by omega
    rw [h4] at h3
    have := h q hq
    omega
  unfold needF at h2
  omega
end K05


set_option Elab.async false
set_option linter.all false
set_option maxRecDepth 100000
set_option maxHeartbeats 4000000
namespace K05
open PySem PySem.Spec PyProof.Rows L2 RZ StX
open Evl (Ex)
/-- a list of tuples of whole numbers -/
structure Tups (H : Hp) (ws : List V) (ls : List (List Int)) : Prop where
  len : ws.length = ls.length
  at_ : ∀ (i : Nat) (l : List Int), ls[i]? = some l → ∃ t, ws[i]? = some (.ref t) ∧ H t = some (.tup (l.map V.int))
theorem Tups.nil {H : Hp} : Tups H [] [] := ⟨rfl, fun i l h => by simp at h⟩
theorem Tups.mono {H H' : Hp} {ws : List V} {ls : List (List Int)} (h : Tups H ws ls) (e : ∀ t xs, H t = some (.tup xs) → H' t = some (.tup xs)) : Tups H' ws ls :=
  ⟨h.len, fun i r hi => let ⟨t, a, b⟩ := h.at_ i r hi; ⟨t, a, e _ _ b⟩⟩
theorem Tups.snoc {H : Hp} {ws : List V} {ls : List (List Int)} {l : List Int} {q : Addr} (h : Tups H ws ls) (hq : H q = some (.tup (l.map V.int))) : Tups H (ws ++ [.ref q]) (ls ++ [l]) := by
  refine ⟨by simp [h.len], fun i l' hi => ?_⟩
  by_cases c : i < ls.length
  · rw [List.getElem?_append_left c] at hi
    obtain ⟨t, a, b⟩ := h.at_ i l' hi
    exact ⟨t, by rw [List.getElem?_append_left (by rw [h.len]; exact c)]; exact a, b⟩
  · rw [List.getElem?_append_right (by omega)] at hi
    have hl := h.len
    match e : i - ls.length, hi with
    | 0, hi =>
      cases hi
      refine ⟨q, ?_, hq⟩
      rw [List.getElem?_append_right (by omega), hl, e]
      rfl
    | _ + 1, hi => cases hi

theorem Tups.ex {H H' : Hp} {ws : List V} {ls : List (List Int)} (h : Tups H ws ls) (e : Ex H H') : Tups H' ws ls := h.mono fun t xs q => e _ _ q
theorem Tups.get {H : Hp} {ws : List V} {ls : List (List Int)} (h : Tups H ws ls) {i : Nat} {v : V} (hv : ws[i]? = some v) : ∃ t l, ls[i]? = some l ∧ v = .ref t ∧ H t = some (.tup (l.map V.int)) := by
  have hi : i < ls.length := by
    rw [← h.len]
    exact (List.getElem?_eq_some_iff.mp hv).1
  obtain ⟨t, a, b⟩ := h.at_ i ls[i] (by simp [hi])
  rw [hv] at a
  exact ⟨t, ls[i], by simp [hi], Option.some.inj a, b⟩
/-- a step as the program tells it -/
def stL (a : Arc) : List Int := [a.1, a.2.1, a.2.2]
section
variable {w : World} {K : PySem.W.Frag} {mg : Str → Option Value} {base : Heap}
def spSteps (K : PySem.W.Frag) : Sp := fun vs H Q _ => ∃ (x c : Addr) (fr : V) (s : Int) (us : List V) (rs : List (Int × Int)) (gs cs : List Int), vs = [.ref x, .ref c, fr] ∧ Mkt K H x "join" s us rs gs ∧ us.length < 60 ∧ H c = some (.tup (cs.map V.int)) ∧ Low cs ∧ cs.length < 60 ∧
  ∀ H' L ws, Ex H H' → H L = none → H' L = some (.lst ws) → Tups H' ws ((arcsL rs (thL us.length gs) cs).map stL) → Q (.ref L) H'
abbrev nSf : List Str := ["market", "chosen", "free", "inside", "steps", "part", "begin", "end", "place"]
theorem sc_Sf : FnScope nSf ["market", "chosen", "free"] (defScope s_steps_from) := ⟨rfl, rfl, rfl, by decide +kernel, rfl, by decide +kernel, by decide +kernel⟩
theorem has_Sf (T : Ctx K mg) : Has w K mg base CX0 "steps_from" 2 ["market", "chosen", "free"] (spSteps K) := by
  obtain ⟨f1, fd1, m1, kp1, F1, b1⟩ := has_is_lap (w := w) (base := base) T
  obtain ⟨tg, hG⟩ := T.c_BARE
  refine has_of (st := s_steps_from) (f := He.ga K "steps_from") T.d_steps_from T.g_steps_from (fun _ _ _ _ _ _ us hl => match us, hl with | [_, _, _], _ => rfl) fun fd F => ?_
  refine ok0 F sc_Sf (fun vs H Q E h => ?_) (fun cdv A outer s0 H vs Q E hr h => ?_)
  · obtain ⟨x, c, fr, s, us, rs, gs, cs, rfl, _⟩ := h
    rfl
  · obtain ⟨x, c, fr, s, us, rs, gs, cs, rfl, M, hl, hc, lc, cl, k⟩ := h
    obtain ⟨C, dx, pr, pg, hM, h1, h2, h3⟩ := M.ob
    have nd := sc_Sf.nd
    have app := @mt_append
    refine ⟨_, pss_cons (ps_set (i := 3) nd rfl (.inl rfl) (pe_callTy (cr_setT rfl) (by rfl) T.b_set (by decide +kernel) (pa_cons (pv 1) pa_nil)))
      (pss_cons (ps_set (i := 4) nd rfl (.inl rfl) (pe_lst pa_nil))
      (pss_cons (ps_for PassesOwn.never rfl (pi_tup (pe_there T rfl rfl rfl rfl (pv 0) hr)) (pg_name (i := 5) nd rfl (.inl rfl))
        (pss_cons (ps_asg (pe_ix ix_tup (pe_fld (pv 0) rfl) (pv 5) (fun _ _ => rfl)) (pg_tup (by rfl) (pgs_cons (pg_name (i := 6) nd rfl (.inl rfl)) (pgs_cons (pg_name (i := 7) nd rfl (.inl rfl)) pgs_nil))))
        (pss_one (ps_if (pt_cmpR or_sin (pv 5) (pv 3) (by rfl))
          (pss_one (ps_expr (pe_bm PySem.F.plainAttrs_list PySem.F.slot_list_append PySem.F.type_list_append mt_append (pv 4) (pa_cons (pe_tup (pa_cons (pv 7) (pa_cons (pv 6) (pa_cons (pv 5) pa_nil)))) pa_nil))))
          (pss_one (ps_expr (pe_bm PySem.F.plainAttrs_list PySem.F.slot_list_append PySem.F.type_list_append mt_append (pv 4) (pa_cons (pe_tup (pa_cons (pv 6) (pa_cons (pv 7) (pa_cons (pv 5) pa_nil)))) pa_nil))))))))
      (pss_cons (ps_if (pt_val (pe_call F1 hr (by rfl) m1 kp1 b1 .nil pass0 (pa_cons (pv 0) pa_nil)))
        (pss_cons ps_never (pss_one ps_never)) pss_nil)
      (pss_one (ps_ret (pv 4)))))), ?_⟩
    refine ⟨_, rfl, c, cs, rfl, SqT.of hc, by omega, fun q n hq hn => ?_⟩
    have e1 := Ex.new (o := SetO w q (fun j => decide (j ∈ cs)) n) hq
    refine ⟨(by show 0 ≤ sizeLine; decide), fun L hL => ?_⟩
    have e2 := e1.trans (Ex.new (o := .lst []) hL)
    have hL0 : H L = none := Evl.fresh_back e1 hL
    have hqL : q ≠ L := ne_of_none (upd_same (H := H) (a := q)) hL
    have hq2 : upd (upd H q (SetO w q (fun j => decide (j ∈ cs)) n)) L (.lst []) q = some (SetO w q (fun j => decide (j ∈ cs)) n) := by rw [upd_ne hqL, upd_same]
    have hL2 : upd (upd H q (SetO w q (fun j => decide (j ∈ cs)) n)) L (.lst []) L = some (.lst []) := upd_same
    refine ⟨_, rfl, x, "join", s, us, rs, gs, rfl, M.ex e2, x, "join", s, us, rs, gs, rfl, M.ex e2, by omega, fun H3 p e3 hp hp2 => ?_⟩
    have e23 := e2.trans e3
    have thl := thL_len us.length gs
    refine ⟨p, rfl, ⟨_, SqT.of hp2⟩, for_it walk_tup (fun i σ H' => ∃ v5 v6 v7 v8 : Option V, σ = [some (.ref x), some (.ref c), some fr, some (.ref q), some (.ref L), v5, v6, v7, v8] ∧ Ex H H' ∧ H' p = some (.tup ((thL us.length gs).map V.int)) ∧ H' q = some (SetO w q (fun j => decide (j ∈ cs)) n) ∧ ∃ ws, H' L = some (.lst ws) ∧ Tups H' ws ((((thL us.length gs).take i).map (arcOf rs cs)).map stL)) ⟨_, _, _, _, rfl, e23, hp2, e3 _ _ hq2, [], e3 _ _ hL2, Tups.nil⟩ (fun i σ H' _ ⟨_, _, _, _, _, _, z, _⟩ => SqT.of z) ?_ ?_⟩
    · rintro i v σ H5 H4 hi ⟨v5, v6, v7, v8, rfl, e4, hp4, hq4, ws, hL4, hT⟩ ⟨rfl, hx⟩
      obtain ⟨z, hz, rfl⟩ := map_int_get hx
      have hzm := thL_mem.mp (List.mem_of_getElem? hz)
      obtain ⟨m, rfl⟩ : ∃ m : Nat, z = m := ⟨z.toNat, by omega⟩
      have hn1 : m < us.length := by omega
      obtain ⟨t, r, hr', ev, ht⟩ := (M.runs.ex e4).get (List.getElem?_eq_getElem hn1)
      have hix : atI us (m : Int) = some (.ref t) := by
        have := List.getElem?_eq_getElem hn1
        rw [ev] at this
        exact atI_nat this
      have hrn : rn rs (m : Int) = r := by
        unfold rn
        rw [Int.toNat_natCast, List.getD_eq_getElem?_getD, hr']
        rfl
      have hil : i < (thL us.length gs).length := (List.getElem?_eq_some_iff.mp hz).1
      have hwl : ws.length < 60 := by
        rw [hT.len, List.length_map, List.length_map, List.length_take]
        omega
      have hLp : L ≠ p := fun y => by rw [← y, hL4] at hp4; cases hp4
      have step : ∀ (a : Arc) (tt : Addr) (H6 : Hp), arcOf rs cs (m : Int) = a → H4 tt = none → H6 = upd H4 tt (.tup [.int a.1, .int a.2.1, .int a.2.2]) →
          Ex H (upd H6 L (.lst (ws ++ [.ref tt]))) ∧ upd H6 L (.lst (ws ++ [.ref tt])) p = some (.tup ((thL us.length gs).map V.int)) ∧ upd H6 L (.lst (ws ++ [.ref tt])) q = some (SetO w q (fun j => decide (j ∈ cs)) n) ∧ ∃ ws', upd H6 L (.lst (ws ++ [.ref tt])) L = some (.lst ws') ∧ Tups (upd H6 L (.lst (ws ++ [.ref tt]))) ws' ((((thL us.length gs).take (i + 1)).map (arcOf rs cs)).map stL) := by
        rintro a tt H6 ha htt rfl
        have e5 := Ex.new (o := .tup [.int a.1, .int a.2.1, .int a.2.2]) htt
        refine ⟨Evl.Ex.mut (e4.trans e5) hL0, by rw [upd_ne (Ne.symm hLp)]; exact e5 _ _ hp4, by rw [upd_ne hqL]; exact e5 _ _ hq4, _, upd_same, ?_⟩
        rw [List.take_add_one, hz, List.map_append, List.map_append]
        refine Tups.snoc (hT.mono fun t' xs h' => ?_) ?_
        · rw [upd_ne (ne_of h' hL4 (by intro y; cases y))]
          exact e5 _ _ h'
        · rw [upd_ne (fun y => by rw [y, hL4] at htt; cases htt), upd_same]
          show some (HO.tup _) = some (HO.tup ((stL (arcOf rs cs (m : Int))).map V.int))
          rw [ha]
          rfl
      refine ⟨_, rfl, x, C, dx, _, _, rfl, e4 _ _ h1, hM.cl T, hM.nR T, mf_runs _ _ _, _, rfl, pr, us, _, _, rfl, rfl, SqT.of (e4 _ _ h2), hix, t, _, rfl, SqT.of ht, rfl, _, _, rfl, _, _, rfl, rfl, ?_⟩
      refine ⟨_, rfl, _, rfl, (m : Int), q, _, n, rfl, rfl, hq4, _, rfl, ?_⟩
      by_cases hc1 : (m : Int) ∈ cs
      · refine iteT' (decide_eq_true hc1) ?_
        refine ⟨_, rfl, .inl ⟨rfl, _, SqL.of hL4⟩, _, rfl, _, rfl, _, rfl, (by show 3 ≤ sizeLine; decide), fun tt htt => ?_⟩
        have e5 := Ex.new (o := .tup [.int r.2, .int r.1, .int (m : Int)]) htt
        refine ⟨L, ws, _, rfl, rfl, e5 _ _ hL4, small1000 (by omega), ?_⟩
        exact ⟨_, _, _, _, rfl, step (r.2, r.1, (m : Int)) tt _ (by unfold arcOf; rw [if_pos hc1, hrn]) htt rfl⟩
      · refine iteF' (decide_eq_false hc1) ?_
        refine ⟨_, rfl, .inl ⟨rfl, _, SqL.of hL4⟩, _, rfl, _, rfl, _, rfl, (by show 3 ≤ sizeLine; decide), fun tt htt => ?_⟩
        have e5 := Ex.new (o := .tup [.int r.1, .int r.2, .int (m : Int)]) htt
        refine ⟨L, ws, _, rfl, rfl, e5 _ _ hL4, small1000 (by omega), ?_⟩
        exact ⟨_, _, _, _, rfl, step (r.1, r.2, (m : Int)) tt _ (by unfold arcOf; rw [if_neg hc1, hrn]) htt rfl⟩
    · rintro σ H4 ⟨v5, v6, v7, v8, rfl, e4, hp4, hq4, ws, hL4, hT⟩
      rw [List.length_map, List.take_length] at hT
      refine ⟨_, rfl, x, "join", s, us, rs, gs, rfl, M.ex e4, _, rfl, iteF' (by decide +kernel) ?_⟩
      exact ⟨_, rfl, k H4 L ws e4 hL0 hL4 hT⟩
end
end K05


set_option Elab.async false
set_option linter.all false
set_option maxRecDepth 100000
set_option maxHeartbeats 4000000
namespace K05
open PySem PySem.Spec PyProof.Rows L2 RZ StX
open Evl (Ex)
section
variable {w : World} {K : PySem.W.Frag} {mg : Str → Option Value} {base : Heap}
/-- a row of zeros -/
abbrev zers (n : Nat) : List V := List.replicate n (V.int 0)
theorem zers_get {n j : Nat} (h : j < n) : (zers n)[j]? = some (V.int 0) := by
  unfold zers
  rw [List.getElem?_replicate, if_pos h]
def spPrice : Sp := fun vs H Q _ => ∃ (a b p : Int) (W : Addr) (n : Nat), vs = [.int a, .int b, .int p, .ref W] ∧ H W = some (.lst (zers n)) ∧ 0 ≤ p ∧ p < n ∧ n ≤ 60 ∧ Q (.int 0) H
theorem sc_Pr : FnScope ["start", "end", "part", "world"] ["start", "end", "part", "world"] (defScope s_price_of_step) := ⟨rfl, rfl, rfl, by decide +kernel, rfl, by decide +kernel, by decide +kernel⟩
theorem has_Pr (T : Ctx K mg) : Has w K mg base CX0 "price_of_step" 1 ["start", "end", "part", "world"] spPrice := by
  obtain ⟨tg, hG⟩ := T.c_BARE
  refine has_of (st := s_price_of_step) (f := He.ga K "price_of_step") T.d_price_of_step T.g_price_of_step (fun _ _ _ _ _ _ us hl => match us, hl with | [_, _, _, _], _ => rfl) fun fd F => ?_
  refine ok0 F sc_Pr (fun vs H Q E h => ?_) (fun cdv A outer s0 H vs Q E hr h => ?_)
  · obtain ⟨a, b, p, W, n, rfl, _⟩ := h
    rfl
  · obtain ⟨a, b, p, W, n, rfl, hW, hp0, hpn, hn, k⟩ := h
    have nd := sc_Pr.nd
    refine ⟨_, pss_cons (ps_if (pt_cmpR op_eq (pv 2) (pe_glob (v := .int (-1)) rfl hG ⟨_, rfl⟩) (nomark _)) (pss_one (ps_ret pe_int)) pss_nil)
      (pss_one (ps_ret (pe_ifExp (pt_cmpR op_lt (pv 0) (pv 1) (nomark _)) (pe_ix ix_list (pv 3) (pv 2) (fun _ _ => rfl)) (pe_un un_neg (pe_ix ix_list (pv 3) (pv 2) (fun _ _ => rfl)))))), ?_⟩
    refine ⟨_, rfl, rfl, _, rfl, iteF' (decide_eq_false (by intro z; cases z; omega)) ?_⟩
    have hix : atI (zers n) p = some (V.int 0) := by
      obtain ⟨j, rfl⟩ : ∃ j : Nat, p = j := ⟨p.toNat, by omega⟩
      exact atI_nat (zers_get (by omega))
    refine ⟨_, rfl, _, rfl, _, _, rfl, rfl, _, rfl, ?_⟩
    by_cases c : a < b
    · exact iteT' (decide_eq_true c) ⟨_, rfl, _, rfl, W, _, _, _, rfl, rfl, SqL.of hW, hix, k⟩
    · exact iteF' (decide_eq_false c) ⟨_, rfl, _, rfl, W, _, _, _, rfl, rfl, SqL.of hW, hix, _, rfl, k⟩
/-- an arc as the program tells it: a step, and its price -/
def arL (a : Arc) : List Int := [a.1, a.2.1, a.2.2, 0]
def spPriced : Sp := fun vs H Q _ => ∃ (L W : Addr) (ws : List V) (as : List Arc) (n : Nat), vs = [.ref L, .ref W] ∧ H L = some (.lst ws) ∧ Tups H ws (as.map stL) ∧ as.length < 60 ∧ H W = some (.lst (zers n)) ∧ n ≤ 60 ∧ (∀ a ∈ as, 0 ≤ a.2.2 ∧ a.2.2 < n) ∧
  ∀ H' P zs, Ex H H' → H P = none → H' P = some (.lst zs) → Tups H' zs (as.map arL) → Q (.ref P) H'
abbrev nPd : List Str := ["steps", "world", "start", "end", "part"]
theorem sc_Pd : FnScope nPd ["steps", "world"] (defScope s_priced) := ⟨rfl, rfl, rfl, by decide +kernel, rfl, by decide +kernel, by decide +kernel⟩
theorem has_Pd (T : Ctx K mg) : Has w K mg base CX0 "priced" 2 ["steps", "world"] spPriced := by
  obtain ⟨f1, fd1, m1, kp1, F1, b1⟩ := has_Pr (w := w) (base := base) T
  refine has_of (st := s_priced) (f := He.ga K "priced") T.d_priced T.g_priced (fun _ _ _ _ _ _ us hl => match us, hl with | [_, _], _ => rfl) fun fd F => ?_
  refine ok0 F sc_Pd (fun vs H Q E h => ?_) (fun cdv A outer s0 H vs Q E hr h => ?_)
  · obtain ⟨L, W, ws, as, n, rfl, _⟩ := h
    rfl
  · obtain ⟨L, W, ws, as, n, rfl, hL, hT, hl, hW, hn, hp, k⟩ := h
    have nd := sc_Pd.nd
    refine ⟨_, pss_one (ps_ret (pe_lc (own := [("start", 2), ("end", 3), ("part", 4)]) (g := gTup K 3 (gCons (gName 2) (gCons (gName 3) (gCons (gName 4) gNil)))) (tt := tYes) rfl nd (pi_list (pv 0)) (blkOk_by (own := [("start", 2), ("end", 3), ("part", 4)]) (N := nPd) (sc := defScope s_priced) (by decide +kernel))
      (fun _ _ _ _ _ => gTupK rfl (pg_tup (by rfl) (pgs_cons (pg_name (i := 2) nd rfl (.inl rfl)) (pgs_cons (pg_name (i := 3) nd rfl (.inl rfl)) (pgs_cons (pg_name (i := 4) nd rfl (.inl rfl)) pgs_nil))))) (fun _ _ _ _ _ => pts_nil)
      (fun _ _ _ _ _ => pe_tup (pa_cons (pv 2) (pa_cons (pv 3) (pa_cons (pv 4) (pa_cons (pe_call F1 hr (by rfl) m1 kp1 b1 .nil pass0 (pa_cons (pv 2) (pa_cons (pv 3) (pa_cons (pv 4) (pa_cons (pv 1) pa_nil))))) pa_nil))))))), ?_⟩
    have hwl := hT.len
    rw [List.length_map] at hwl
    refine ⟨_, rfl, L, rfl, ⟨_, SqL.of hL⟩, fun P hP => lc_it walk_list (fun i H' => Ex H H' ∧ ∃ zs, H' P = some (.lst zs) ∧ Tups H' zs ((as.take i).map arL)) ⟨Ex.new hP, [], upd_same, Tups.nil⟩ (fun i H' _ q => Ex.lst q.1 hL) ?_ ?_⟩
    · rintro i v H8 H9 hi ⟨e8, zs, hP8, hR8⟩ ⟨rfl, hv⟩
      obtain ⟨t, l, hl', rfl, ht⟩ := (hT.ex e8).get hv
      rw [List.getElem?_map] at hl'
      obtain ⟨a, ha, rfl⟩ : ∃ a, as[i]? = some a ∧ stL a = l := by
        cases z : as[i]? with
        | none => rw [z] at hl'; cases hl'
        | some a => rw [z] at hl'; exact ⟨a, rfl, Option.some.inj hl'⟩
      have hb := hp a (List.mem_of_getElem? ha)
      refine ⟨t, _, rfl, SqT.of ht, rfl, _, _, rfl, _, _, rfl, _, _, rfl, rfl, ?_⟩
      refine ⟨rfl, tYesI ?_⟩
      refine ⟨_, rfl, _, rfl, _, rfl, _, rfl, _, rfl, _, rfl, _, rfl, a.1, a.2.1, a.2.2, W, n, rfl, e8 _ _ hW, hb.1, hb.2, hn, ?_⟩
      refine ⟨(by show 4 ≤ sizeLine; decide), fun q hq => ?_⟩
      have e9 := Ex.new (o := .tup [.int a.1, .int a.2.1, .int a.2.2, .int 0]) hq
      refine ⟨_, e9 _ _ hP8, ?_, Evl.Ex.mut (e8.trans e9) hP, _, upd_same, ?_⟩
      · rw [hR8.len, List.length_map, List.length_take]
        exact small1000 (by omega)
      · rw [List.take_add_one, ha, List.map_append]
        have := (hR8.ex e9).snoc (l := arL a) (q := q) upd_same
        exact this.mono fun t' xs' h' => by
          rw [upd_ne (ne_of h' (e9 _ _ hP8) (by intro z; cases z))]
          exact h'
    rintro H6 ⟨e6, zs, hP6, hR6⟩
    rw [hwl, List.take_length] at hR6
    exact k H6 P zs e6 hP hP6 hR6
end
end K05


set_option Elab.async false
set_option linter.all false
set_option maxRecDepth 100000
set_option maxHeartbeats 4000000
namespace K05
open PySem PySem.Spec PyProof.Rows L2 RZ StX
open Evl (Ex)
/-! ### points reached, and the arc that reached each -/
def addR (R : Nat → Bool) (e : Nat) (i : Nat) : Bool := R i || decide (i = e)
def addT (T : Nat → Option Arc) (e : Nat) (a : Arc) (i : Nat) : Option Arc := if i = e then some a else T i
structure Tree (n : Nat) (as : List Arc) (ss : List Int) (R : Nat → Bool) (T : Nat → Option Arc) : Prop where
  st : ∀ i : Nat, (i : Int) ∈ ss → R i = true
  rt : ∀ i, R i = true → i < n
  no : ∀ i, R i = false → T i = none
  root : ∀ i, R i = true → T i = none → (i : Int) ∈ ss
  arc : ∀ i a, T i = some a → a ∈ as ∧ a.2.1 = (i : Int) ∧ R a.1.toNat = true ∧ 0 ≤ a.1
  rank : ∃ rk : Nat → Nat, ∀ i a, T i = some a → rk a.1.toNat < rk i
theorem Tree.add {n : Nat} {as : List Arc} {ss : List Int} {R : Nat → Bool} {T : Nat → Option Arc} (h : Tree n as ss R T) {a : Arc} {e : Nat} (ha : a ∈ as) (h0 : 0 ≤ a.1) (hr : R a.1.toNat = true) (he : a.2.1 = (e : Int)) (hen : e < n) (hno : R e = false) : Tree n as ss (addR R e) (addT T e a) := by
  have hne : a.1.toNat ≠ e := fun z => by rw [z, hno] at hr; cases hr
  refine ⟨fun i hi => by unfold addR; rw [h.st i hi]; rfl, fun i hi => ?_, fun i hi => ?_, fun i hi ht => ?_, fun i b hb => ?_, ?_⟩
  · unfold addR at hi
    rw [Bool.or_eq_true, decide_eq_true_iff] at hi
    rcases hi with hi | rfl
    · exact h.rt i hi
    · exact hen
  · unfold addR at hi
    rw [Bool.or_eq_false_iff, decide_eq_false_iff_not] at hi
    unfold addT
    rw [if_neg hi.2]
    exact h.no i hi.1
  · unfold addT at ht
    unfold addR at hi
    by_cases c : i = e
    · rw [if_pos c] at ht; cases ht
    · rw [if_neg c] at ht
      rw [decide_eq_false c, Bool.or_false] at hi
      exact h.root i hi ht
  · unfold addT at hb
    by_cases c : i = e
    · rw [if_pos c] at hb
      cases hb
      exact ⟨ha, by rw [he, c], by unfold addR; rw [hr]; rfl, h0⟩
    · rw [if_neg c] at hb
      obtain ⟨x1, x2, x3, x4⟩ := h.arc i b hb
      exact ⟨x1, x2, by unfold addR; rw [x3]; rfl, x4⟩
  · obtain ⟨rk, hk⟩ := h.rank
    refine ⟨fun i => if i = e then rk a.1.toNat + 1 else rk i, fun i b hb => ?_⟩
    unfold addT at hb
    by_cases c : i = e
    · rw [if_pos c] at hb
      cases hb
      simp only [if_pos c, if_neg hne]
      omega
    · rw [if_neg c] at hb
      obtain ⟨_, _, x3, _⟩ := h.arc i b hb
      have : b.1.toNat ≠ e := fun z => by rw [z, hno] at x3; cases x3
      simp only [if_neg c, if_neg this]
      exact hk i b hb
def ClosedR (as : List Arc) (R : Nat → Bool) : Prop := ∀ a ∈ as, R a.1.toNat = true → R a.2.1.toNat = true
def cnt (n : Nat) (R : Nat → Bool) : Int := sm (fun q : Int => if R q.toNat = true then 1 else 0) (upto n)
theorem cnt_add {n e : Nat} {R : Nat → Bool} (he : e < n) (hno : R e = false) : cnt n (addR R e) = cnt n R + 1 := by
  unfold cnt
  have one : sm (fun q : Int => if q = (e : Int) then 1 else 0) (upto n) = 1 := by rw [sm_at (asc_nodup (upto_asc n)), upto_inn (by omega)]
  refine Eq.trans ?_ (congrArg (fun z => sm (fun q : Int => if R q.toNat = true then 1 else 0) (upto n) + z) one)
  rw [← sm_add]
  refine sm_congr fun q hq => ?_
  have hb := upto_mem.mp hq
  unfold addR
  by_cases c : q = (e : Int)
  · subst c
    rw [Int.toNat_natCast, hno, if_pos rfl]
    simp
  · rw [if_neg c, decide_eq_false (show ¬ q.toNat = e by omega), Bool.or_false]
    omega
theorem cnt_le (n : Nat) (R : Nat → Bool) : cnt n R ≤ n := by
  have h : cnt n R ≤ sm (fun _ : Int => 1) (upto n) := sm_le fun q _ => by
    split <;> omega
  have e : ∀ l : List Int, sm (fun _ : Int => 1) l = (l.length : Int) := fun l => by
    induction l with
    | nil => rfl
    | cons x l ih => simp only [sm, ih, List.length_cons]; omega
  rw [e, upto_len] at h
  exact h
theorem cnt_pos (n : Nat) (R : Nat → Bool) : 0 ≤ cnt n R := by
  have := sm_le (f := fun _ : Int => 0) (g := fun q : Int => if R q.toNat = true then 1 else 0) (l := upto n) fun q _ => by split <;> omega
  rw [sm_zero] at this
  exact this
theorem cnt_full {n : Nat} {R : Nat → Bool} (h : (n : Int) ≤ cnt n R) : ∀ i, i < n → R i = true := fun i hi => by
  cases c : R i with
  | true => rfl
  | false =>
    have := cnt_add hi c
    have := cnt_le n (addR R i)
    omega
/-! ### what the two lists hold -/
def prV (n : Nat) (R : Nat → Bool) : List V := (List.range n).map fun i => if R i = true then V.int 0 else .non
theorem prV_get {n i : Nat} {R : Nat → Bool} (h : i < n) : (prV n R)[i]? = some (if R i = true then V.int 0 else .non) := by
  unfold prV
  rw [List.getElem?_map, List.getElem?_range h]
  rfl
theorem prV_set {n e : Nat} {R : Nat → Bool} (h : e < n) : (prV n R).set e (.int 0) = prV n (addR R e) := by
  apply List.ext_getElem?
  intro i
  rw [List.getElem?_set]
  by_cases c : i < n
  · by_cases d : e = i
    · subst d
      rw [if_pos rfl, prV_get h, if_pos (by unfold prV; rw [List.length_map, List.length_range]; exact h)]
      unfold addR
      simp
    · rw [if_neg d, prV_get c, prV_get c]
      unfold addR
      rw [decide_eq_false (fun z => d z.symm), Bool.or_false]
  · have l1 : (prV n R)[i]? = none := List.getElem?_eq_none (by unfold prV; rw [List.length_map, List.length_range]; omega)
    have l2 : (prV n (addR R e))[i]? = none := List.getElem?_eq_none (by unfold prV; rw [List.length_map, List.length_range]; omega)
    rw [if_neg (by omega), l1, l2]
theorem prV_len (n : Nat) (R : Nat → Bool) : (prV n R).length = n := by unfold prV; simp
structure SpH (H : Hp) (P L : Addr) (n : Nat) (ws : List V) (as : List Arc) (R : Nat → Bool) (T : Nat → Option Arc) : Prop where
  hP : H P = some (.lst (prV n R))
  hL : ∃ ls : List V, H L = some (.lst ls) ∧ ls.length = n ∧ ∀ i, i < n → (T i = none ∧ ls[i]? = some .non) ∨ ∃ (k : Nat) (t : Addr) (a : Arc), T i = some a ∧ as[k]? = some a ∧ ws[k]? = some (.ref t) ∧ ls[i]? = some (.ref t)
theorem SpH.ex {H H' : Hp} {P L : Addr} {n : Nat} {ws : List V} {as : List Arc} {R : Nat → Bool} {T : Nat → Option Arc} (h : SpH H P L n ws as R T) (e : Ex H H') : SpH H' P L n ws as R T :=
  ⟨e _ _ h.hP, let ⟨ls, a, b, c⟩ := h.hL; ⟨ls, e _ _ a, b, c⟩⟩
theorem SpH.add {H : Hp} {P L : Addr} {n : Nat} {ws ls : List V} {as : List Arc} {R : Nat → Bool} {T : Nat → Option Arc} (h : SpH H P L n ws as R T) (hPL : P ≠ L) {k e : Nat} {t : Addr} {a : Arc} (hk : as[k]? = some a) (hw : ws[k]? = some (.ref t)) (he : e < n) (hl : H L = some (.lst ls)) :
    SpH (upd (upd H P (.lst ((prV n R).set e (.int 0)))) L (.lst (ls.set e (.ref t)))) P L n ws as (addR R e) (addT T e a) := by
  obtain ⟨ls', hL, hlen, hls⟩ := h.hL
  rw [hl] at hL
  cases hL
  refine ⟨by rw [upd_ne hPL, upd_same, prV_set he], ls.set e (.ref t), upd_same, by rw [List.length_set, hlen], fun i hi => ?_⟩
  unfold addT
  by_cases c : i = e
  · subst c
    exact .inr ⟨k, t, a, by rw [if_pos rfl], hk, hw, by rw [List.getElem?_set_self (by omega)]⟩
  · rw [if_neg c, List.getElem?_set_ne (fun z => c z.symm)]
    exact hls i hi
end K05


set_option Elab.async false
set_option linter.all false
set_option maxRecDepth 100000
set_option maxHeartbeats 4000000
namespace K05
open PySem PySem.Spec PyProof.Rows L2 RZ StX
open Evl (Ex)
section
variable {w : World} {K : PySem.W.Frag} {mg : Str → Option Value} {base : Heap}
theorem rep_one (n : Nat) (v : V) : (List.replicate n [v]).flatten = List.replicate n v := by
  induction n with
  | zero => rfl
  | succ n ih => rw [List.replicate_succ, List.flatten_cons, ih, List.replicate_succ]; rfl
abbrev nSp : List Str := ["points", "arcs", "starts", "prices", "last", "point", "_", "lowered", "arc", "start", "end", "price", "reached"]
theorem sc_Sp : FnScope nSp ["points", "arcs", "starts"] (defScope s_spread) := ⟨rfl, rfl, rfl, by decide +kernel, rfl, by decide +kernel, by decide +kernel⟩
/-- arcs between the points 0 .. n-1 -/
def ArcsIn (n : Nat) (as : List Arc) : Prop := ∀ a ∈ as, (0 ≤ a.1 ∧ a.1 < n) ∧ 0 ≤ a.2.1 ∧ a.2.1 < n
def spSpread : Sp := fun vs H Q _ => ∃ (n : Nat) (A S : Addr) (ws : List V) (as : List Arc) (ss : List Int), vs = [.int n, .ref A, .ref S] ∧ 1 ≤ n ∧ n ≤ 50 ∧ H A = some (.lst ws) ∧ Tups H ws (as.map arL) ∧ as.length < 60 ∧ ArcsIn n as ∧ H S = some (.lst (ss.map V.int)) ∧ (∀ q ∈ ss, 0 ≤ q ∧ q < n) ∧
  ∀ (H' : Hp) (t P L : Addr) (lw : V) (R : Nat → Bool) (T : Nat → Option Arc), Ex H H' → H' t = some (.tup [.ref P, .ref L, lw]) → SpH H' P L n ws as R T → Tree n as ss R T → ClosedR as R → Q (.ref t) H'
abbrev cxSp (w : World) (K : PySem.W.Frag) (mg : Str → Option Value) (base : Heap) (cdv : Value) (A0 : Around) (outer : List Env) (s0 : Shared) (H0 : Hp) (E : XK) : Cx := (cxOf CX0 PP w K mg base nSp "spread" (defScope s_spread) (He.ga K "spread") cdv A0 outer s0 H0 E).nox
set_option maxHeartbeats 8000000 in
theorem has_Sp (T : Ctx K mg) : Has w K mg base CX0 "spread" 1 ["points", "arcs", "starts"] spSpread := by
  refine has_of (st := s_spread) (f := He.ga K "spread") T.d_spread T.g_spread (fun _ _ _ _ _ _ us hl => match us, hl with | [_, _, _], _ => rfl) fun fd F => ?_
  refine ok0 F sc_Sp (fun vs H Q E h => ?_) (fun cdv A0 outer s0 H vs Q E hr h => ?_)
  · obtain ⟨n, A, S, ws, as, ss, rfl, _⟩ := h
    rfl
  · obtain ⟨n, A, S, ws, as, ss, rfl, hn1, hn, hA, hT, hal, hin, hS, hss, k⟩ := h
    have nd := sc_Sp.nd
    refine ⟨_, pss_cons (ps_set (i := 3) nd rfl (.inl rfl) (pe_op op_rep (pe_lst (pa_cons pe_non pa_nil)) (pv 0)))
      (pss_cons (ps_set (i := 4) nd rfl (.inl rfl) (pe_op op_rep (pe_lst (pa_cons pe_non pa_nil)) (pv 0)))
      (pss_cons (ps_for PassesOwn.never rfl (pi_list (pv 2)) (pg_name (i := 5) nd rfl (.inl rfl)) (pss_one (ps_asg pe_int (pg_sub (pv 3) (pv 5) set_list))))
      (pss_cons (ps_for PassesOwn.never rfl (pi_range1 (by rfl) T.b_range (pa_cons (pv 0) pa_nil)) (pg_name (i := 6) nd rfl (.inl rfl))
        (pss_cons (ps_set (i := 7) nd rfl (.inl rfl) pe_non)
        (pss_cons (ps_for PassesOwn.never rfl (pi_list (pv 1)) (pg_name (i := 8) nd rfl (.inl rfl))
          (pss_cons (ps_asg (pv 8) (pg_tup (by rfl) (pgs_cons (pg_name (i := 9) nd rfl (.inl rfl)) (pgs_cons (pg_name (i := 10) nd rfl (.inl rfl)) (pgs_cons (pg_name (i := 6) nd rfl (.inl rfl)) (pgs_cons (pg_name (i := 11) nd rfl (.inl rfl)) pgs_nil))))))
          (pss_cons (ps_if (pt_cmpR op_isN (pe_ix ix_list (pv 3) (pv 9) (fun _ _ => rfl)) pe_non (nomark _)) (pss_one ps_continue) pss_nil)
          (pss_cons (ps_set (i := 12) nd rfl (.inl rfl) (pe_op op_add (pe_ix ix_list (pv 3) (pv 9) (fun _ _ => rfl)) (pv 11)))
          (pss_one (ps_if (PW.pt (pw_or (pt_cmpR op_isN (pe_ix ix_list (pv 3) (pv 10) (fun _ _ => rfl)) pe_non (nomark _)) (pw_or1 (pt_cmpR op_lt (pv 12) (pe_ix ix_list (pv 3) (pv 10) (fun _ _ => rfl)) (nomark _)))))
            (pss_cons (ps_asg (pv 12) (pg_sub (pv 3) (pv 10) set_list)) (pss_cons (ps_asg (pv 8) (pg_sub (pv 4) (pv 10) set_list)) (pss_one (ps_set (i := 7) nd rfl (.inl rfl) (pv 10))))) pss_nil))))))
        (pss_one (ps_if (pt_cmpR op_isN (pv 7) pe_non (nomark _)) (pss_one (ps_ret (pe_tup (pa_cons (pv 3) (pa_cons (pv 4) (pa_cons pe_non pa_nil)))))) pss_nil)))))
      (pss_one (ps_ret (pe_tup (pa_cons (pv 3) (pa_cons (pv 4) (pa_cons (pv 7) pa_nil))))))))), ?_⟩
    have hwl := hT.len
    rw [List.length_map] at hwl
    have n63 : (n : Int) < 2 ^ 63 := by omega
    refine ⟨(by show 1 ≤ sizeLine; decide), fun p1 hp1 => ?_⟩
    have e1 := Ex.new (o := .lst [V.non]) hp1
    refine ⟨_, rfl, p1, (n : Int), _, rfl, rfl, upd_same, by omega, by omega, sz1000 (by show 1 * _ ≤ 1000; omega), fun P hP => ?_⟩
    have e2 := e1.trans (Ex.new (o := .lst (List.replicate ((n : Int)).toNat [V.non]).flatten) hP)
    have hP0 : H P = none := Evl.fresh_back e1 hP
    have hP2 : upd (upd H p1 (.lst [V.non])) P (.lst (List.replicate ((n : Int)).toNat [V.non]).flatten) P = some (.lst (List.replicate n V.non)) := by
      rw [upd_same, rep_one, Int.toNat_natCast]
    generalize upd (upd H p1 (.lst [V.non])) P (.lst (List.replicate ((n : Int)).toNat [V.non]).flatten) = H2 at *
    refine ⟨(by show 1 ≤ sizeLine; decide), fun p2 hp2 => ?_⟩
    have e3 := e2.trans (Ex.new (o := .lst [V.non]) hp2)
    have f3 := Ex.new (o := .lst [V.non]) hp2
    refine ⟨_, rfl, p2, (n : Int), _, rfl, rfl, upd_same, by omega, by omega, sz1000 (by show 1 * _ ≤ 1000; omega), fun L hL => ?_⟩
    have f4 := f3.trans (Ex.new (o := .lst (List.replicate ((n : Int)).toNat [V.non]).flatten) hL)
    have e4 := e2.trans f4
    have hL0 : H L = none := Evl.fresh_back e3 hL
    have hPL : P ≠ L := fun z => by
      rw [← z] at hL
      rw [f3 _ _ hP2] at hL
      cases hL
    have hL4 : upd (upd H2 p2 (.lst [V.non])) L (.lst (List.replicate ((n : Int)).toNat [V.non]).flatten) L = some (.lst (List.replicate n V.non)) := by
      rw [upd_same, rep_one, Int.toNat_natCast]
    have hP4 := f4 _ _ hP2
    generalize upd (upd H2 p2 (.lst [V.non])) L (.lst (List.replicate ((n : Int)).toNat [V.non]).flatten) = H4 at *
    clear f3 f4 e3 hp2 hp1 e1 e2 hP hL hP2
    -- the starts
    have pr0 : List.replicate n V.non = prV n fun i => decide ((i : Int) ∈ ss.take 0) := by
      apply List.ext_getElem?
      intro i
      by_cases c : i < n
      · rw [prV_get c, List.getElem?_replicate, if_pos c]
        simp
      · rw [List.getElem?_eq_none (by rw [List.length_replicate]; omega), List.getElem?_eq_none (by rw [prV_len]; omega)]
    rw [pr0] at hP4
    refine ⟨_, rfl, S, rfl, ⟨_, SqL.of (e4 _ _ hS)⟩, for_it walk_list (fun i σ H' => ∃ v5 : Option V, σ = [some (.int n), some (.ref A), some (.ref S), some (.ref P), some (.ref L), v5, none, none, none, none, none, none, none] ∧ Ex H H' ∧ H' L = some (.lst (List.replicate n V.non)) ∧ H' P = some (.lst (prV n fun j => decide ((j : Int) ∈ ss.take i)))) ⟨_, rfl, e4, hL4, hP4⟩ (fun i σ H' _ ⟨_, _, e, _⟩ => SqL.of (e _ _ hS)) ?_ ?_⟩
    · rintro i v σ H6 H5 hi ⟨v5, rfl, e5, hL5, hP5⟩ ⟨rfl, hv⟩
      obtain ⟨z, hz, rfl⟩ := map_int_get hv
      have hb := hss z (List.mem_of_getElem? hz)
      obtain ⟨m, rfl⟩ : ∃ m : Nat, z = m := ⟨z.toNat, by omega⟩
      have hm : m < n := by omega
      refine ⟨_, rfl, _, rfl, P, _, (m : Int), m, rfl, rfl, hP5, Evl.ixN_nat (by rw [prV_len]; exact hm), ?_⟩
      refine ⟨_, rfl, Evl.Ex.mut e5 hP0, by rw [upd_ne (Ne.symm hPL)]; exact hL5, ?_⟩
      rw [upd_same, prV_set hm]
      congr 3
      funext j
      unfold addR
      apply Bool.eq_iff_iff.mpr
      rw [Bool.or_eq_true, decide_eq_true_iff, decide_eq_true_iff, decide_eq_true_iff, List.take_add_one, hz, List.mem_append]
      simp
      constructor
      · rintro (q | q)
        · exact .inl q
        · exact .inr (by omega)
      · rintro (q | q)
        · exact .inl q
        · exact .inr (by omega)
    rintro σ H5 ⟨v5, rfl, e5, hL5, hP5⟩
    rw [List.length_map, List.take_length] at hP5
    have hl0 : SpH H5 P L n ws as (fun j => decide ((j : Int) ∈ ss)) (fun _ => none) := ⟨hP5, _, hL5, List.length_replicate, fun i hi => .inl ⟨rfl, by rw [List.getElem?_replicate, if_pos hi]⟩⟩
    have ht0 : Tree n as ss (fun j => decide ((j : Int) ∈ ss)) (fun _ => none) := ⟨fun i hi => decide_eq_true hi, fun i hi => by have := hss _ (of_decide_eq_true hi); omega, fun _ _ => rfl, fun i hi _ => of_decide_eq_true hi, (fun i a z => nomatch z), ⟨fun _ => 0, fun i a z => nomatch z⟩⟩
    clear hL5 hP5 hP4 hL4 pr0 e4
    refine ⟨_, rfl, (n : Int), rfl, by omega, by omega, for_it walk_range (fun i σ H' => ∃ (v5 v6 v7 v8 v9 v10 v11 v12 : Option V) (R : Nat → Bool) (T' : Nat → Option Arc), σ = [some (.int n), some (.ref A), some (.ref S), some (.ref P), some (.ref L), v5, v6, v7, v8, v9, v10, v11, v12] ∧ Ex H H' ∧ SpH H' P L n ws as R T' ∧ Tree n as ss R T' ∧ (i : Int) ≤ cnt n R ∧ (0 < i → ∃ v, v7 = some v)) ⟨_, _, _, _, _, _, _, _, _, _, rfl, e5, hl0, ht0, cnt_pos _ _, fun z => absurd z (Nat.lt_irrefl _)⟩ (fun _ _ _ _ _ => trivial) ?_ ?_⟩
    · rintro i v σ H6 H7 hi ⟨v5, v6, v7, v8, v9, v10, v11, v12, Rs, Ts, rfl, e7, hs7, ht7, hc7, _⟩ ⟨rfl, rfl⟩
      refine ⟨_, rfl, A, rfl, ⟨_, SqL.of (e7 _ _ hA)⟩, for_it walk_list (fun j σ H' => ∃ (v6 v8 v9 v10 v11 v12 : Option V) (lw : V) (R : Nat → Bool) (T' : Nat → Option Arc), σ = [some (.int n), some (.ref A), some (.ref S), some (.ref P), some (.ref L), v5, v6, some lw, v8, v9, v10, v11, v12] ∧ Ex H H' ∧ SpH H' P L n ws as R T' ∧ Tree n as ss R T' ∧ ((lw = .non ∧ R = Rs ∧ ∀ (q : Nat) (a : Arc), q < j → as[q]? = some a → R a.1.toNat = true → R a.2.1.toNat = true) ∨ ((∃ z, lw = .int z) ∧ cnt n Rs + 1 ≤ cnt n R))) ⟨_, _, _, _, _, _, _, _, _, rfl, e7, hs7, ht7, .inl ⟨rfl, rfl, fun q a z => absurd z (Nat.not_lt_zero _)⟩⟩ (fun i σ H' _ ⟨_, _, _, _, _, _, _, _, _, _, e, _⟩ => SqL.of (e _ _ hA)) ?_ ?_⟩
      · rintro j v σ H9 H8 hj ⟨v6, v8, v9, v10, v11, v12, lw, R, T', rfl, e8, hs8, ht8, hcase⟩ ⟨rfl, hv⟩
        obtain ⟨t, l, hl', rfl, ht⟩ := (hT.ex e8).get hv
        rw [List.getElem?_map] at hl'
        obtain ⟨a, ha, rfl⟩ : ∃ a, as[j]? = some a ∧ arL a = l := by
          cases z : as[j]? with
          | none => rw [z] at hl'; cases hl'
          | some a => rw [z] at hl'; exact ⟨a, rfl, Option.some.inj hl'⟩
        obtain ⟨b1, b2⟩ := hin a (List.mem_of_getElem? ha)
        obtain ⟨m, hm⟩ : ∃ m : Nat, a.1 = m := ⟨a.1.toNat, by omega⟩
        obtain ⟨e, he⟩ : ∃ e : Nat, a.2.1 = e := ⟨a.2.1.toNat, by omega⟩
        have hmn : m < n := by omega
        have hen : e < n := by omega
        have ixm : atI (prV n R) a.1 = some (if R m = true then V.int 0 else .non) := by rw [hm]; exact atI_nat (prV_get hmn)
        have ixe : atI (prV n R) a.2.1 = some (if R e = true then V.int 0 else .non) := by rw [he]; exact atI_nat (prV_get hen)
        have hP8 := hs8.hP
        refine ⟨_, rfl, t, _, rfl, SqT.of ht, rfl, _, _, rfl, _, _, rfl, _, _, rfl, _, _, rfl, rfl, ?_⟩
        refine ⟨_, rfl, _, rfl, P, _, _, _, rfl, rfl, SqL.of hP8, ixm, rfl, _, rfl, ?_⟩
        have more : ∀ (P' : Nat → Bool), (∀ (q : Nat) (b : Arc), q < j → as[q]? = some b → P' b.1.toNat = true → P' b.2.1.toNat = true) → (P' m = true → P' e = true) → ∀ (q : Nat) (b : Arc), q < j + 1 → as[q]? = some b → P' b.1.toNat = true → P' b.2.1.toNat = true := fun P' h1 h2 q b hq hb hb1 => by
          by_cases c : q = j
          · subst c
            rw [ha] at hb
            cases hb
            rw [he, Int.toNat_natCast]
            rw [hm, Int.toNat_natCast] at hb1
            exact h2 hb1
          · exact h1 q b (by omega) hb hb1
        by_cases c : R m = true
        rotate_left
        · rw [if_neg c]
          refine iteT' (decide_eq_true rfl) ⟨_, _, _, _, _, _, _, _, _, rfl, e8, hs8, ht8, ?_⟩
          rcases hcase with ⟨h1, h2, h3⟩ | h
          · exact .inl ⟨h1, h2, more R h3 fun z => absurd z c⟩
          · exact .inr h
        rw [if_pos c] at ixm ⊢
        refine iteF' (decide_eq_false (by intro z; cases z)) ?_
        refine ⟨_, rfl, _, rfl, P, _, _, _, rfl, rfl, SqL.of hP8, ixm, _, rfl, _, _, rfl, rfl, ?_⟩
        refine ⟨_, rfl, _, rfl, P, _, _, _, rfl, rfl, SqL.of hP8, ixe, rfl, _, rfl, ?_⟩
        by_cases d : R e = true
        · rw [if_pos d] at ixe ⊢
          refine iteF' (decide_eq_false (by intro z; cases z)) ?_
          refine ⟨_, rfl, _, rfl, _, rfl, P, _, _, _, rfl, rfl, SqL.of hP8, ixe, _, _, rfl, rfl, _, rfl, iteF' (decide_eq_false (by omega)) ?_⟩
          refine ⟨_, _, _, _, _, _, _, _, _, rfl, e8, hs8, ht8, ?_⟩
          rcases hcase with ⟨h1, h2, h3⟩ | h
          · exact .inl ⟨h1, h2, more R h3 fun _ => d⟩
          · exact .inr h
        rw [if_neg d] at ixe ⊢
        have d' : R e = false := by simpa using d
        refine iteT' (decide_eq_true rfl) ?_
        obtain ⟨ls, hL8, hlen, hls⟩ := hs8.hL
        refine ⟨_, rfl, _, rfl, _, rfl, P, _, a.2.1, e, rfl, rfl, hP8, by rw [he]; exact Evl.ixN_nat (by rw [prV_len]; exact hen), ?_⟩
        have hL9 : upd H8 P (.lst ((prV n R).set e (.int (0 + 0)))) L = some (.lst ls) := by rw [upd_ne (Ne.symm hPL)]; exact hL8
        refine ⟨_, rfl, _, rfl, _, rfl, L, ls, a.2.1, e, rfl, rfl, hL9, by rw [he]; exact Evl.ixN_nat (by omega), ?_⟩
        have hs9 := hs8.add hPL ha hv hen hL8
        have ht9 := ht8.add (List.mem_of_getElem? ha) (by omega) (by rw [hm, Int.toNat_natCast]; exact c) he hen d'
        have hc9 := cnt_add hen d'
        refine ⟨_, rfl, _, _, _, _, _, _, _, _, _, rfl, Evl.Ex.mut (Evl.Ex.mut e8 hP0) hL0, hs9, ht9, .inr ⟨⟨_, rfl⟩, ?_⟩⟩
        rcases hcase with ⟨h1, h2, h3⟩ | ⟨h1, h2⟩
        · rw [hc9, h2]
          omega
        · rw [hc9]
          omega
      · rintro σ H8 ⟨v6, v8, v9, v10, v11, v12, lw, R, T', rfl, e8, hs8, ht8, hcase⟩
        rcases hcase with ⟨rfl, rfl, h3⟩ | ⟨⟨z, rfl⟩, h2⟩
        · refine ⟨_, rfl, rfl, _, rfl, iteT' (decide_eq_true rfl) ?_⟩
          refine ⟨_, rfl, _, rfl, (by show 3 ≤ sizeLine; decide), fun t ht => ?_⟩
          have en := Ex.new (o := .tup [V.ref P, .ref L, .non]) ht
          refine k _ t P L .non R T' (e8.trans en) upd_same (hs8.ex en) ht8 fun a ha h => ?_
          obtain ⟨q, hq⟩ := List.mem_iff_getElem?.mp ha
          have hql : q < as.length := (List.getElem?_eq_some_iff.mp hq).1
          exact h3 q a (by omega) hq h
        · refine ⟨_, rfl, rfl, _, rfl, iteF' (decide_eq_false (by intro y; cases y)) ?_⟩
          exact ⟨_, _, _, _, _, _, _, _, R, T', rfl, e8, hs8, ht8, by show ((i + 1 : Nat) : Int) ≤ _; omega, fun _ => ⟨_, rfl⟩⟩
    · rintro σ H6 ⟨v5, v6, v7, v8, v9, v10, v11, v12, R, T', rfl, e6, hs6, ht6, hc6, h7⟩
      rw [Int.toNat_natCast] at hc6
      obtain ⟨lw, rfl⟩ := h7 (by omega)
      refine ⟨_, rfl, _, rfl, _, rfl, (by show 3 ≤ sizeLine; decide), fun t ht => ?_⟩
      have en := Ex.new (o := .tup [V.ref P, .ref L, lw]) ht
      refine k _ t P L lw R T' (e6.trans en) upd_same (hs6.ex en) ht6 fun a ha _ => ?_
      obtain ⟨b1, b2⟩ := hin a ha
      exact cnt_full hc6 _ (by omega)
end
end K05


set_option Elab.async false
set_option linter.all false
set_option maxRecDepth 100000
set_option maxHeartbeats 4000000
namespace K05
open PySem PySem.Spec PyProof.Rows L2 RZ StX
open Evl (Ex)
section
variable {w : World} {K : PySem.W.Frag} {mg : Str → Option Value} {base : Heap}
theorem sc_Rt : FnScope ["last", "point", "row"] ["last", "point"] (defScope s_row_to) := ⟨rfl, rfl, rfl, by decide +kernel, rfl, by decide +kernel, by decide +kernel⟩
/-- a row from a start to p, its arcs end at different points -/
structure RowOk (as : List Arc) (ss : List Int) (p : Int) (row : List Arc) : Prop where
  sub : ∀ a ∈ row, a ∈ as
  nd : (row.map fun a => a.2.1).Nodup
  row : ∃ src, IsRow row src p ∧ src ∈ ss
def spRowTo : Sp := fun vs H Q _ => ∃ (L P : Addr) (n p : Nat) (ws : List V) (as : List Arc) (ss : List Int) (R : Nat → Bool) (T : Nat → Option Arc), vs = [.ref L, .int p] ∧ SpH H P L n ws as R T ∧ Tree n as ss R T ∧ ArcsIn n as ∧ Tups H ws (as.map arL) ∧ R p = true ∧ (p : Int) ∉ ss ∧ as.length < 60 ∧ n ≤ 50 ∧
  ∀ (H' : Hp) (Rw : Addr) (zs : List V) (row : List Arc), Ex H H' → H Rw = none → H' Rw = some (.lst zs) → Tups H' zs (row.map arL) → RowOk as ss p row → Q (.ref Rw) H'
theorem nodup_few {n : Nat} {l : List Int} (h : l.Nodup) (hl : ∀ x ∈ l, 0 ≤ x ∧ x < n) : l.length ≤ n := by
  have pm : ((upto n).filter fun x => decide (x ∈ l)).Perm l := by
    refine (List.perm_ext_iff_of_nodup ((asc_nodup (upto_asc n)).filter _) h).mpr fun k => ?_
    rw [List.mem_filter, decide_eq_true_iff, upto_mem]
    exact ⟨fun z => z.2, fun z => ⟨hl k z, z⟩⟩
  rw [← pm.length_eq]
  exact Nat.le_trans (List.length_filter_le _ _) (by rw [upto_len]; exact Nat.le_refl _)
set_option maxHeartbeats 8000000 in
theorem has_Rt (T : Ctx K mg) : Has w K mg base CX0 "row_to" 1 ["last", "point"] spRowTo := by
  refine has_of (st := s_row_to) (f := He.ga K "row_to") T.d_row_to T.g_row_to (fun _ _ _ _ _ _ us hl => match us, hl with | [_, _], _ => rfl) fun fd F => ?_
  refine ok0 F sc_Rt (fun vs H Q E h => ?_) (fun cdv A0 outer s0 H vs Q E hr h => ?_)
  · obtain ⟨L, P, n, p, ws, as, ss, R, T', rfl, _⟩ := h
    rfl
  · obtain ⟨L, P, n, p, ws, as, ss, R, T', rfl, hs, ht, hin, hT, hRp, hps, hal, hn, k⟩ := h
    have nd := sc_Rt.nd
    refine ⟨_, pss_cons (ps_set (i := 2) nd rfl (.inl rfl) (pe_lst pa_nil))
      (pss_cons (ps_while PassesOwn.never (pt_cmpR op_notN (pe_ix ix_list (pv 0) (pv 1) (fun _ _ => rfl)) pe_non (nomark _))
        (pss_cons (ps_expr (pe_bm PySem.F.plainAttrs_list PySem.F.slot_list_append PySem.F.type_list_append mt_append (pv 2) (pa_cons (pe_ix ix_list (pv 0) (pv 1) (fun _ _ => rfl)) pa_nil)))
        (pss_one (ps_set (i := 1) nd rfl (.inl rfl) (pe_ix ix_tup (pe_ix ix_list (pv 0) (pv 1) (fun _ _ => rfl)) pe_int (fun _ _ => rfl))))))
      (pss_one (ps_ret (pv 2)))), ?_⟩
    obtain ⟨rk, hrk⟩ := ht.rank
    obtain ⟨ls, hL, hlen, hls⟩ := hs.hL
    refine ⟨(by show 0 ≤ sizeLine; decide), fun Rw hRw => ?_⟩
    refine ⟨fun m σ H' => ∃ (q : Nat) (zs : List V) (row : List Arc), m = rk q ∧ σ = [some (.ref L), some (.int q), some (.ref Rw)] ∧ Ex H H' ∧ H' Rw = some (.lst zs) ∧ Tups H' zs (row.map arL) ∧ R q = true ∧ (∀ a ∈ row, a ∈ as) ∧ (row.map fun a => a.2.1).Nodup ∧ (∀ a ∈ row, rk q < rk a.2.1.toNat) ∧ ((row = [] ∧ q = p) ∨ IsRow row q p), ⟨_, p, [], [], rfl, rfl, Ex.new hRw, upd_same, Tups.nil, hRp, (fun _ z => nomatch z), List.nodup_nil, (fun _ z => nomatch z), .inl ⟨rfl, rfl⟩⟩, ?_⟩
    rintro m σ H1 ⟨q, zs, row, rfl, rfl, e1, hR1, hT1, hRq, hsub, hnd, hrkq, hrow⟩
    have hqn := ht.rt q hRq
    have hcase := hls q hqn
    rcases hcase with ⟨hTq, hlq⟩ | ⟨kk, t, a, hTq, hka, hkw, hlq⟩
    · refine ⟨_, rfl, _, rfl, L, ls, (q : Int), _, rfl, rfl, SqL.of (e1 _ _ hL), atI_nat hlq, rfl, _, rfl, iteF' (by simp) ?_⟩
      have hqs := ht.root q hRq hTq
      rcases hrow with ⟨_, rfl⟩ | hrow
      · exact absurd hqs hps
      · exact ⟨_, rfl, k H1 Rw zs row e1 hRw hR1 hT1 ⟨hsub, hnd, _, hrow, hqs⟩⟩
    · obtain ⟨x1, x2, x3, x4⟩ := ht.arc q a hTq
      obtain ⟨b1, b2⟩ := hin a x1
      have htt : H t = some (.tup ((arL a).map V.int)) := by
        obtain ⟨t', hw', htt⟩ := hT.at_ kk (arL a) (by rw [List.getElem?_map, hka]; rfl)
        rw [hkw] at hw'
        cases hw'
        exact htt
      refine ⟨_, rfl, _, rfl, L, ls, (q : Int), _, rfl, rfl, SqL.of (e1 _ _ hL), atI_nat hlq, rfl, _, rfl, iteT' (by simp) ?_⟩
      refine ⟨fun σ' H' => ∃ (q' : Nat) (zs : List V) (row : List Arc), rk q' < rk q ∧ σ' = [some (.ref L), some (.int q'), some (.ref Rw)] ∧ Ex H H' ∧ H' Rw = some (.lst zs) ∧ Tups H' zs (row.map arL) ∧ R q' = true ∧ (∀ a ∈ row, a ∈ as) ∧ (row.map fun a => a.2.1).Nodup ∧ (∀ a ∈ row, rk q' < rk a.2.1.toNat) ∧ ((row = [] ∧ q' = p) ∨ IsRow row q' p), ?_, ?_⟩
      · rintro σ' H' ⟨q', zs', row', h1, h2, h3⟩
        exact ⟨rk q', h1, q', zs', row', rfl, h2, h3⟩
      have hzl : zs.length ≤ 50 := by
        rw [hT1.len, List.length_map]
        have := nodup_few (n := n) hnd fun x hx => by
          obtain ⟨b, hb, rfl⟩ := List.mem_map.mp hx
          exact (hin b (hsub b hb)).2
        rw [List.length_map] at this
        omega
      refine ⟨_, rfl, .inl ⟨rfl, _, SqL.of hR1⟩, _, rfl, _, rfl, L, ls, (q : Int), _, rfl, rfl, SqL.of (e1 _ _ hL), atI_nat hlq, Rw, zs, _, rfl, rfl, hR1, small1000 (by omega), ?_⟩
      have e2 : Ex H (upd H1 Rw (.lst (zs ++ [.ref t]))) := Evl.Ex.mut e1 hRw
      obtain ⟨m, hm⟩ : ∃ m : Nat, a.1 = m := ⟨a.1.toNat, by omega⟩
      refine ⟨_, rfl, _, rfl, L, ls, (q : Int), _, rfl, rfl, SqL.of (e2 _ _ hL), atI_nat hlq, t, _, (0 : Int), _, rfl, rfl, SqT.of (e2 _ _ htt), rfl, ?_⟩
      have rkm : rk m < rk q := by
        have := hrk q a hTq
        rw [hm, Int.toNat_natCast] at this
        exact this
      refine ⟨m, zs ++ [.ref t], row ++ [a], rkm, ?_, e2, upd_same, ?_, by rw [hm, Int.toNat_natCast] at x3; exact x3, ?_, ?_, ?_, .inr ?_⟩
      · show [some (V.ref L), some (V.int a.1), some (.ref Rw)] = _
        rw [hm]
      · rw [List.map_append]
        refine Tups.snoc (hT1.mono fun t' xs h' => ?_) ?_
        · rw [upd_ne (ne_of h' hR1 (by intro z; cases z))]
          exact h'
        · exact e2 _ _ htt
      · intro b hb
        rcases List.mem_append.mp hb with hb | hb
        · exact hsub b hb
        · rw [List.mem_singleton.mp hb]; exact x1
      · rw [List.map_append]
        refine List.nodup_append.mpr ⟨hnd, List.nodup_cons.mpr ⟨List.not_mem_nil, List.nodup_nil⟩, fun x hx y hy => ?_⟩
        obtain ⟨b, hb, rfl⟩ := List.mem_map.mp hx
        rw [show [a].map (fun a : Arc => a.2.1) = [a.2.1] from rfl, List.mem_singleton] at hy
        subst hy
        intro z
        have := hrkq b hb
        rw [z, x2, Int.toNat_natCast] at this
        exact absurd this (Nat.lt_irrefl _)
      · intro b hb
        rcases List.mem_append.mp hb with hb | hb
        · exact Nat.lt_trans rkm (hrkq b hb)
        · rw [List.mem_singleton.mp hb, x2, Int.toNat_natCast]
          exact rkm
      · rw [← hm]
        rcases hrow with ⟨rfl, rfl⟩ | hrow
        · exact ⟨rfl, x2⟩
        · exact hrow.snoc x2
end
end K05


set_option Elab.async false
set_option linter.all false
set_option maxRecDepth 100000
set_option maxHeartbeats 1000000
/-! min(xs) of a list of pairs of whole numbers: one of the items. -/
namespace L2
open PySem PySem.Spec PyProof.Rows
theorem vals_nth {us : List V} {its : List Value} (r : Vals us its) {i : Nat} {v : Value} (h : its[i]? = some v) : ∃ u, us[i]? = some u ∧ RelV u v := by
  have hi : i < us.length := by rw [r.length]; exact (List.getElem?_eq_some_iff.mp h).1
  have hu := List.getElem?_eq_getElem hi
  obtain ⟨z, hz, rel⟩ := r.get hu
  rw [h] at hz
  cases hz
  exact ⟨_, hu, rel⟩
def rMinT (K : PySem.W.Frag) : List V → Hp → VK → Prop := fun vs H Q => ∃ (a : Addr) (us : List V) (ps : List (Int × Int)), vs = [V.ref a] ∧ SqL K H a us ∧ DpAll K H us (ps.map PySem.W.Datum.toD) ∧ ps ≠ [] ∧ ∀ (i : Nat) (u : V), us[i]? = some u → Q u H
theorem cr_minT {X : Cx} (hc : X.calm = true) (hu : X.A.units + 3 < cLine) : CallR X (.builtin "min") (rMinT X.K) := by
  intro pins s σ H vs us' Q I r h
  obtain ⟨a, us, ps, rfl, hs, hd, hne, q⟩ := h
  obtain rfl := Vals.ref1 r
  obtain ⟨its, rv, hl, _⟩ := I.list hs
  cases ps with
  | nil => exact absurd rfl hne
  | cons p ps =>
    obtain ⟨as, ra⟩ := Dp.readsAll I _ _ _ hd rv
    have hdep := PySem.W.depthAll_map (p :: ps)
    refine PySem.W.min_list_data (x := PySem.W.Datum.toD p) (xs := ps.map PySem.W.Datum.toD) (as := as) (I.ok.hd hc) hl.isList (by simpa using ra) (PySem.W.alikeAll_datum (p :: ps)) ?_ fun i v h' tk bs hi _ hk => ?_
    · have e : PySem.W.Datum.depth (Int × Int) = 1 := rfl
      rw [e] at hdep
      have : PyData.depthAll (PySem.W.Datum.toD p :: ps.map PySem.W.Datum.toD) ≤ 1 := hdep
      omega
    · have hi' : its[i]? = some v := by simpa using hi
      obtain ⟨u, hu1, rel⟩ := vals_nth rv hi'
      exact ⟨u, H, I.kept hk, rel, q i u hu1⟩
end L2


set_option Elab.async false
set_option linter.all false
set_option maxRecDepth 100000
set_option maxHeartbeats 4000000
namespace K05
open PySem PySem.Spec PyProof.Rows L2 RZ StX
open Evl (Ex)
theorem dp_pairs {K : PySem.W.Frag} {H : Hp} : ∀ {ws : List V} {qs : List Int}, Tups H ws (qs.map fun q => [0, q]) → DpAll K H ws ((qs.map fun q => ((0 : Int), q)).map PySem.W.Datum.toD)
  | [], [], _ => .nil
  | [], q :: qs, h => absurd h.len (by simp)
  | u :: us, [], h => absurd h.len (by simp)
  | u :: us, q :: qs, h => by
    obtain ⟨t, ht, hr⟩ := h.at_ 0 [0, q] rfl
    have e : u = .ref t := Option.some.inj ht
    subst e
    exact .cons (.tup (SqT.of hr) (.cons (.int _) (.cons (.int _) .nil))) (dp_pairs ⟨by have := h.len; simpa using this, fun i r' hi => h.at_ (i + 1) r' hi⟩)
section
variable {w : World} {K : PySem.W.Frag} {mg : Str → Option Value} {base : Heap}
abbrev nRb : List Str := ["market", "needs", "spare", "chosen", "world", "points", "free", "place", "starts", "point", "prices", "last", "_", "goals"]
theorem sc_Rb : FnScope nRb ["market", "needs", "spare", "chosen", "world"] (defScope s_row_between) := ⟨rfl, rfl, rfl, by decide +kernel, rfl, by decide +kernel, by decide +kernel⟩
/-- no arc leaves the points, all with needs are in, none with too much -/
structure Shut (s : Nat) (as : List Arc) (f : Int → Int) (S : List Int) : Prop where
  nd : S.Nodup
  cl : Closed as S
  pos : ∀ q : Nat, q ≤ s → 0 < f q → (q : Int) ∈ S
  inn : ∀ q ∈ S, 0 ≤ q ∧ q ≤ s
  neg : ∀ q ∈ S, 0 ≤ f q
/-- a row from a point with needs to one with too much -/
structure Goes (s : Nat) (as : List Arc) (f : Int → Int) (row : List Arc) (a b : Nat) : Prop where
  sub : ∀ x ∈ row, x ∈ as
  nd : (row.map fun x => x.2.1).Nodup
  row : IsRow row a b
  ha : a ≤ s ∧ 0 < f a
  hb : b ≤ s ∧ f b < 0
def spRowB (K : PySem.W.Frag) : Sp := fun vs H Q _ => ∃ (x N Sp C W : Addr) (s : Nat) (us : List V) (rs : List (Int × Int)) (gs c : List Int) (f : Int → Int), vs = [.ref x, .ref N, .ref Sp, .ref C, .ref W] ∧ Mkt K H x "join" s us rs gs ∧ s ≤ 30 ∧ us.length ≤ 28 ∧ (∀ r ∈ rs, Fits s r) ∧
  H N = some (.lst ((rowOf (s + 1) f).map V.int)) ∧ H Sp = some (.lst (zers s)) ∧ H C = some (.tup (c.map V.int)) ∧ c.Pairwise (· < ·) ∧ (∀ p ∈ c, p ∈ thL us.length gs) ∧ H W = some (.lst (zers us.length)) ∧
  ∀ (H' : Hp) (Rw : Addr) (zs : List V) (row : List Arc), Ex H H' → H Rw = none → H' Rw = some (.lst zs) → Tups H' zs (row.map arL) →
    ((row = [] ∧ ∃ S, Shut s (arcsL rs (thL us.length gs) c) f S) ∨ ∃ a b : Nat, Goes s (arcsL rs (thL us.length gs) c) f row a b) → Q (.ref Rw) H'
set_option maxHeartbeats 8000000 in
theorem has_Rb (T : Ctx K mg) : Has w K mg base CX0 "row_between" 3 ["market", "needs", "spare", "chosen", "world"] (spRowB K) := by
  obtain ⟨f1, fd1, m1, kp1, F1, b1⟩ := has_Sf (w := w) (base := base) T
  obtain ⟨f2, fd2, m2, kp2, F2, b2⟩ := has_Pd (w := w) (base := base) T
  obtain ⟨f3, fd3, m3, kp3, F3, b3⟩ := has_Sp (w := w) (base := base) T
  obtain ⟨f4, fd4, m4, kp4, F4, b4⟩ := has_Rt (w := w) (base := base) T
  refine has_of (st := s_row_between) (f := He.ga K "row_between") T.d_row_between T.g_row_between (fun _ _ _ _ _ _ us hl => match us, hl with | [_, _, _, _, _], _ => rfl) fun fd F => ?_
  refine ok0 F sc_Rb (fun vs H Q E h => ?_) (fun cdv A0 outer s0 H vs Q E hr h => ?_)
  · obtain ⟨x, N, Sp, C, W, s, us, rs, gs, c, f, rfl, _⟩ := h
    rfl
  · obtain ⟨x, N, Sp, C, W, s, us, rs, gs, c, f, rfl, M, hs, hus, hF, hN, hSp, hC, hc, hcs, hW, k⟩ := h
    have nd := sc_Rb.nd
    have r1 := hr.mono (show 1 ≤ 2 by decide)
    have hu := hr.units
    refine ⟨_, pss_cons (ps_set (i := 5) nd rfl (.inl rfl) (pe_op op_add (pe_fld (pv 0) rfl) pe_int))
      (pss_cons (ps_setLc (i := 6) (own := [("place", 7)]) (g := gName 7) rfl nd rfl rfl (by rfl) (pi_range1 (by rfl) T.b_range (pa_cons (pe_fld (pv 0) rfl) pa_nil)) (blkOk_by (own := [("place", 7)]) (N := nRb) (sc := defScope s_row_between) (by decide +kernel)) (fun _ _ _ _ _ => pg_name (i := 7) nd rfl (Or.inl rfl))
        (fun _ _ _ _ _ => pts_one (pt_cmpR op_gt (pe_ix (ix_listK (K := K) rfl) (pv 2) (pv 7) (fun _ _ => rfl)) pe_int (nomark _))) (fun _ _ _ _ _ => pv 7))
      (pss_cons (ps_setLc (i := 8) (own := [("point", 9)]) (g := gName 9) rfl nd rfl rfl (by rfl) (pi_range1 (by rfl) T.b_range (pa_cons (pv 5) pa_nil)) (blkOk_by (own := [("point", 9)]) (N := nRb) (sc := defScope s_row_between) (by decide +kernel)) (fun _ _ _ _ _ => pg_name (i := 9) nd rfl (Or.inl rfl))
        (fun _ _ _ _ _ => pts_one (pt_cmpR op_gt (pe_ix (ix_listK (K := K) rfl) (pv 1) (pv 9) (fun _ _ => rfl)) pe_int (nomark _))) (fun _ _ _ _ _ => pv 9))
      (pss_cons (ps_asg (pe_call F3 r1 (by rfl) m3 kp3 b3 .nil pass0 (pa_cons (pv 5) (pa_cons (pe_call F2 hr (by rfl) m2 kp2 b2 .nil pass0 (pa_cons (pe_call F1 hr (by rfl) m1 kp1 b1 .nil pass0 (pa_cons (pv 0) (pa_cons (pv 3) (pa_cons (pv 6) pa_nil)))) (pa_cons (pv 4) pa_nil))) (pa_cons (pv 8) pa_nil))))
        (pg_tup (by rfl) (pgs_cons (pg_name (i := 10) nd rfl (.inr rfl)) (pgs_cons (pg_name (i := 11) nd rfl (.inl rfl)) (pgs_cons (pg_name (i := 12) nd rfl (.inl rfl)) pgs_nil)))))
      (pss_cons (ps_setLc (i := 13) (own := [("point", 9)]) (g := gName 9) rfl nd rfl rfl (by rfl) (pi_range1 (by rfl) T.b_range (pa_cons (pv 5) pa_nil)) (blkOk_by (own := [("point", 9)]) (N := nRb) (sc := defScope s_row_between) (by decide +kernel)) (fun _ _ _ _ _ => pg_name (i := 9) nd rfl (Or.inl rfl))
        (fun _ _ _ _ _ => pts_one (PW.pt (pw_and (pt_cmpR op_lt (pe_ix (ix_listK (K := K) rfl) (pv 1) (pv 9) (fun _ _ => rfl)) pe_int (nomark _)) (pw_and1 (pt_cmpR op_notN (pe_ix (ix_listK (K := K) rfl) (pv 10) (pv 9) (fun _ _ => rfl)) pe_non (nomark _))))))
        (fun _ _ _ _ _ => pe_tup (pa_cons (pe_ix (ix_listK (K := K) rfl) (pv 10) (pv 9) (fun _ _ => rfl)) (pa_cons (pv 9) pa_nil))))
      (pss_cons (ps_if (pt_not (pt_truth (pv 13) (fun _ => rfl))) (pss_one (ps_ret (pe_lst pa_nil))) pss_nil)
      (pss_one (ps_ret (pe_call F4 r1 (by rfl) m4 kp4 b4 .nil pass0 (pa_cons (pv 11) (pa_cons (pe_ix ix_tup (pe_callB (cr_minT rfl (Nat.lt_of_le_of_lt (Nat.add_le_add_left (by decide : 3 ≤ 64) _) hu)) (by rfl) T.b_min (by decide +kernel) (pa_cons (pv 13) pa_nil)) pe_int (fun _ _ => rfl)) pa_nil)))))))))), ?_⟩
    obtain ⟨Cl, dx, pr, pg, hM, h1, h2, h3⟩ := M.ob
    have hul := M.runs.len
    have hN' : ∀ {q : Nat}, q < s + 1 → ((rowOf (s + 1) f).map V.int)[q]? = some (V.int (f q)) := fun {q} hq => by
      rw [List.getElem?_map, row_get hq]
      rfl
    refine ⟨_, rfl, x, Cl, dx, _, _, rfl, h1, hM.cl T, hM.nS T, mf_size _ _ _, _, _, rfl, rfl, ?_⟩
    show gName 5 (V.int ((s : Int) + 1)) _ _ _
    refine ⟨_, rfl, x, Cl, dx, _, _, rfl, h1, hM.cl T, hM.nS T, mf_size _ _ _, _, rfl, by omega, by omega, fun Fr hFr => lcf (n := s) (fun _ => false) (by omega) (fun _ => rfl) (fun z H' R hz e r => ?_) (fun z H' R hz e r => ⟨_, rfl, r⟩) hFr (fun H1 e1 hFr1 => ?_)⟩
    · refine ⟨_, rfl, _, rfl, Sp, _, _, _, rfl, rfl, SqL.of (e _ _ hSp), atI_nat (zers_get hz), _, _, rfl, rfl, _, rfl, ?_⟩
      exact r
    have fr0 : (upto s).filter (fun _ => false) = [] := List.filter_eq_nil_iff.mpr fun x _ => by simp
    rw [fr0] at hFr1
    have s1 : (s : Int) + 1 = ((s + 1 : Nat) : Int) := by omega
    rw [s1]
    refine ⟨_, rfl, ((s + 1 : Nat) : Int), rfl, by omega, by omega, fun St hSt => lcf (n := s + 1) (fun q => decide (f q > 0)) (by omega) (fun _ => rfl) (fun z H' R hz e r => ?_) (fun z H' R hz e r => ⟨_, rfl, r⟩) hSt (fun H2 e2 hSt2 => ?_)⟩
    · exact ⟨_, rfl, _, rfl, N, _, _, _, rfl, rfl, SqL.of (e _ _ (e1 _ _ hN)), atI_nat (hN' hz), _, _, rfl, rfl, _, rfl, r⟩
    have e12 := e1.trans e2
    have hthl := thL_len us.length gs
    have lowc : Low c := ⟨fun p hp => by have := thL_mem.mp (hcs p hp); omega⟩
    have clen : c.length < 60 := by
      have := nodup_few (n := us.length) (asc_nodup hc) fun p hp => (thL_mem.mp (hcs p hp)).1
      omega
    -- steps, prices
    refine ⟨_, rfl, _, rfl, _, rfl, _, rfl, x, C, .ref Fr, s, us, rs, gs, c, rfl, M.ex e12, by omega, e12 _ _ hC, lowc, clen, fun H3 L3 ws3 e3 hL30 hL3 hT3 => ?_⟩
    have e13 := e12.trans e3
    have lenA : (arcsL rs (thL us.length gs) c).length < 60 := by
      unfold arcsL
      rw [List.length_map]
      omega
    have arcM : ∀ a ∈ arcsL rs (thL us.length gs) c, ∃ p : Int, ((0 ≤ p ∧ p < us.length) ∧ Fits s (rn rs p)) ∧ a = arcOf rs c p := fun a ha => by
      obtain ⟨p, hp, rfl⟩ := List.mem_map.mp ha
      have hb := (thL_mem.mp hp).1
      refine ⟨p, ⟨hb, hF _ ?_⟩, rfl⟩
      unfold rn
      rw [List.getD_eq_getElem?_getD, List.getElem?_eq_getElem (by omega)]
      exact List.getElem_mem _
    refine ⟨_, rfl, L3, W, ws3, _, us.length, rfl, hL3, hT3, lenA, e13 _ _ hW, by omega, fun a ha => ?_, fun H4 P4 zs4 e4 hP40 hP4 hT4 => ?_⟩
    · obtain ⟨p, hp, rfl⟩ := arcM a ha
      rw [arcOf_part]
      exact hp.1
    have e14 := e13.trans e4
    have inA : ArcsIn (s + 1) (arcsL rs (thL us.length gs) c) := fun a ha => by
      obtain ⟨p, ⟨_, f0, f1, f2⟩, rfl⟩ := arcM a ha
      unfold arcOf
      split
      · exact ⟨⟨by show 0 ≤ (rn rs p).2; omega, by show (rn rs p).2 < _; omega⟩, by show 0 ≤ (rn rs p).1; omega, by show (rn rs p).1 < _; omega⟩
      · exact ⟨⟨by show 0 ≤ (rn rs p).1; omega, by show (rn rs p).1 < _; omega⟩, by show 0 ≤ (rn rs p).2; omega, by show (rn rs p).2 < _; omega⟩
    refine ⟨_, rfl, s + 1, P4, St, zs4, _, _, rfl, by omega, by omega, hP4, hT4, lenA, inA, e4 _ _ (e3 _ _ hSt2), fun q hq => ?_, fun H5 t P L lw R T' e5 ht hSpH hTr hCl => ?_⟩
    · exact upto_mem.mp (List.mem_filter.mp hq).1
    have e15 := e14.trans e5
    refine ⟨t, _, rfl, SqT.of ht, rfl, _, _, rfl, _, _, rfl, _, _, rfl, rfl, ?_⟩
    -- the goals
    have hPr := hSpH.hP
    have gl : ∀ (z : Nat), z < s + 1 → atI (prV (s + 1) R) (z : Int) = some (if R z = true then V.int 0 else .non) := fun z hz => atI_nat (prV_get hz)
    refine ⟨_, rfl, ((s + 1 : Nat) : Int), rfl, by omega, by omega, fun G hG => lc_it walk_range (fun i H' => Ex H5 H' ∧ ∃ zs, H' G = some (.lst zs) ∧ Tups H' zs ((((upto i).filter fun q => decide (f q < 0) && R q.toNat)).map fun q => [0, q])) ⟨Ex.new hG, [], upd_same, Tups.nil⟩ (fun _ _ _ _ => trivial) ?_ ?_⟩
    · rintro i y H8 H9 hi ⟨e8, zs, hG8, hT8⟩ ⟨rfl, rfl⟩
      have hi' : i < s + 1 := by
        have : ((s + 1 : Nat) : Int).toNat = s + 1 := by omega
        omega
      have eN := e8 _ _ (e15 _ _ hN)
      have tk : (upto (i + 1)).filter (fun q => decide (f q < 0) && R q.toNat) = (upto i).filter (fun q => decide (f q < 0) && R q.toNat) ++ (if (decide (f i < 0) && R i) = true then [(i : Int)] else []) := by
        rw [upto_succ, List.filter_append, List.filter_cons, List.filter_nil, Int.toNat_natCast]
      rw [tk]
      show gName 9 (V.int (0 + (i : Int))) _ _ _
      rw [Int.zero_add]
      refine ⟨rfl, ?_⟩
      refine ⟨_, rfl, _, rfl, N, _, _, _, rfl, rfl, SqL.of eN, atI_nat (hN' hi'), _, _, rfl, rfl, _, rfl, ?_⟩
      by_cases c1 : f i < 0
      rotate_left
      · refine iteF' (decide_eq_false c1) (iteF ⟨e8, zs, hG8, ?_⟩)
        rw [decide_eq_false c1]
        simpa using hT8
      refine iteT' (decide_eq_true c1) ?_
      by_cases c2 : R i = true
      rotate_left
      · have g2 : atI (prV (s + 1) R) (i : Int) = some V.non := by rw [gl i hi', if_neg c2]
        refine ⟨_, rfl, _, rfl, P, _, _, _, rfl, rfl, SqL.of (e8 _ _ hPr), g2, rfl, _, rfl, iteF' (by simp) ⟨e8, zs, hG8, ?_⟩⟩
        rw [Bool.eq_false_iff.mpr c2]
        simpa using hT8
      have g2 : atI (prV (s + 1) R) (i : Int) = some (V.int 0) := by rw [gl i hi', if_pos c2]
      refine ⟨_, rfl, _, rfl, P, _, _, _, rfl, rfl, SqL.of (e8 _ _ hPr), g2, rfl, _, rfl, iteT' (by simp) ?_⟩
      refine ⟨_, rfl, _, rfl, P, _, _, _, rfl, rfl, SqL.of (e8 _ _ hPr), g2, _, rfl, (by show 2 ≤ sizeLine; decide), fun q hq => ?_⟩
      have e9 := Ex.new (o := .tup [V.int 0, V.int i]) hq
      refine ⟨zs, e9 _ _ hG8, ?_, Evl.Ex.mut (e8.trans e9) hG, _, upd_same, ?_⟩
      · rw [hT8.len, List.length_map]
        exact small1000 (Nat.le_trans (List.length_filter_le _ _) (by rw [upto_len]; omega))
      · rw [decide_eq_true c1, c2, if_pos (show (true && true) = true from rfl), List.map_append]
        refine Tups.snoc (hT8.mono fun t' xs h' => ?_) ?_
        · rw [upd_ne (ne_of h' hG8 (by intro z; cases z))]
          exact e9 _ _ h'
        · rw [upd_ne (fun z => by rw [z, hG8] at hq; cases hq), upd_same]
          rfl
    rintro H6 ⟨e6, zs, hG6, hT6⟩
    have toN : ((s + 1 : Nat) : Int).toNat = s + 1 := by omega
    rw [toN] at hT6
    have e16 := e15.trans e6
    refine ⟨_, rfl, !zs.isEmpty, .inl ⟨zs, SqL.of hG6, rfl⟩, ?_⟩
    cases hzs : zs with
    | nil =>
      refine iteT' (by simp) ⟨(by show 0 ≤ sizeLine; decide), fun Rw hRw => ?_⟩
      have none : (upto (s + 1)).filter (fun q => decide (f q < 0) && R q.toNat) = [] := by
        have := hT6.len
        rw [hzs, List.length_map] at this
        exact List.length_eq_zero_iff.mp this.symm
      refine k _ Rw [] [] (e16.trans (Ex.new hRw)) (Evl.fresh_back e16 hRw) upd_same Tups.nil (.inl ⟨rfl, (upto (s + 1)).filter fun q => R q.toNat, ?_⟩)
      refine ⟨(asc_nodup (upto_asc _)).filter _, fun a ha h => ?_, fun q hq h => ?_, fun q hq => ?_, fun q hq => ?_⟩
      · have hb := inA a ha
        rw [List.mem_filter, upto_mem] at h ⊢
        exact ⟨by omega, hCl a ha h.2⟩
      · rw [List.mem_filter, upto_mem, Int.toNat_natCast]
        exact ⟨by omega, hTr.st q (List.mem_filter.mpr ⟨upto_mem.mpr (by omega), decide_eq_true h⟩)⟩
      · have := upto_mem.mp (List.mem_filter.mp hq).1
        omega
      · have hm := List.mem_filter.mp hq
        by_cases c : f q < 0
        · have : q ∈ (upto (s + 1)).filter (fun q => decide (f q < 0) && R q.toNat) := List.mem_filter.mpr ⟨hm.1, by rw [decide_eq_true c, Bool.true_and]; exact hm.2⟩
          rw [none] at this
          cases this
        · omega
    | cons z0 zr =>
      refine iteF' (by simp) ?_
      rw [hzs] at hT6 hG6
      refine ⟨_, rfl, _, rfl, G, z0 :: zr, _, rfl, SqL.of hG6, dp_pairs hT6, ?_, fun i u hu' => ?_⟩
      · intro z
        have h1 := hT6.len
        rw [List.length_map] at h1
        have h2 := congrArg List.length z
        rw [List.length_map] at h2
        rw [h2] at h1
        cases h1
      obtain ⟨tq, l, hl, rfl, htq⟩ := hT6.get hu'
      rw [List.getElem?_map] at hl
      obtain ⟨q, hq, rfl⟩ : ∃ q, ((upto (s + 1)).filter (fun q => decide (f q < 0) && R q.toNat))[i]? = some q ∧ [0, q] = l := by
        cases z : ((upto (s + 1)).filter (fun q => decide (f q < 0) && R q.toNat))[i]? with
        | none => rw [z] at hl; cases hl
        | some a => rw [z] at hl; exact ⟨a, rfl, Option.some.inj hl⟩
      have hm := List.mem_filter.mp (List.mem_of_getElem? hq)
      have hb := upto_mem.mp hm.1
      obtain ⟨m, rfl⟩ : ∃ m : Nat, q = m := ⟨q.toNat, by omega⟩
      rw [Int.toNat_natCast, Bool.and_eq_true, decide_eq_true_iff] at hm
      refine ⟨tq, _, (1 : Int), _, rfl, rfl, SqT.of htq, rfl, ?_⟩
      refine ⟨L, P, s + 1, m, zs4, _, _, R, T', rfl, hSpH.ex e6, hTr, inA, (hT4.ex e5).ex e6, hm.2.2, fun z => ?_, lenA, by omega, fun H7 Rw zs' row e7 hRw hRz hTz hok => ?_⟩
      · have := of_decide_eq_true (List.mem_filter.mp z).2
        omega
      · obtain ⟨src, hrow, hsrc⟩ := hok.row
        have hs2 := List.mem_filter.mp hsrc
        have hsb := upto_mem.mp hs2.1
        obtain ⟨a, rfl⟩ : ∃ a : Nat, src = a := ⟨src.toNat, by omega⟩
        exact k H7 Rw zs' row (e16.trans e7) (Evl.fresh_back e16 hRw) hRz hTz (.inr ⟨a, m, hok.sub, hok.nd, hrow, ⟨by omega, of_decide_eq_true hs2.2⟩, ⟨by omega, hm.2.1⟩⟩)
end
end K05


set_option Elab.async false
set_option linter.all false
set_option maxRecDepth 100000
set_option maxHeartbeats 4000000
namespace K05
open PySem PySem.Spec PyProof.Rows L2 RZ StX
open Evl (Ex)
section
variable {K : PySem.W.Frag} {σ : L2.St} {i : Nat} {vs : List Nat} {te : TE} {tt : TT} {H : Hp} {D : Addr} {Qd : Hp → Prop}
/-- [a[2] for a in row if P a] -/
theorem lcw {Rw : Addr} {zs : List V} {row : List Arc} (P : Arc → Bool) (hR : H Rw = some (.lst zs)) (hT : Tups H zs (row.map arL)) (hl : row.length ≤ 900) (hw : ∀ x, wipe ((wipe σ vs).set i (some x)) vs = wipe σ vs)
    (htt : ∀ (t : Addr) (a : Arc) (H' : Hp) (R : Bool → Hp → Prop), a ∈ row → Ex H H' → H' t = some (.tup ((arL a).map V.int)) → R (P a) H' → tt ((wipe σ vs).set i (some (.ref t))) H' R)
    (hte : ∀ (t : Addr) (a : Arc) (H' : Hp) (R : VK), a ∈ row → Ex H H' → H' t = some (.tup ((arL a).map V.int)) → R (.int a.2.2) H' → te ((wipe σ vs).set i (some (.ref t))) H' R)
    (hD : H D = none) (k : ∀ H', Ex H H' → H' D = some (.lst (((row.filter P).map fun a => a.2.2).map V.int)) → Qd H') : ∃ W : Nat → Nat → Hp → Prop, (∃ m, W 0 m (upd H D (.lst []))) ∧ ∀ j m H1, W j m H1 →
      ((Itl K Rw).stop j H1 ∧ Qd H1) ∨ ((Itl K Rw).go j H1 ∧ ∃ Nx : Hp → Prop, (∀ H', Nx H' → ∃ m', m' < m ∧ W (j + 1) m' H') ∧ ∀ x H', (Itl K Rw).yld j H1 x H' → gName i x (wipe σ vs) H' fun σ2 H2 => wipe σ2 vs = wipe σ vs ∧ tt σ2 H2 fun b H3 =>
        if b = true then te σ2 H3 fun y H4 => ∃ acc, H4 D = some (.lst acc) ∧ acc.length < sizeLine ∧ Nx (upd H4 D (.lst (acc ++ [y]))) else Nx H3) := by
  have hzl := hT.len
  rw [List.length_map] at hzl
  refine lc_it walk_list (fun j H' => Ex H H' ∧ H' D = some (.lst ((((row.take j).filter P).map fun a => a.2.2).map V.int))) ⟨Ex.new hD, upd_same⟩ (fun j H' _ q => Ex.lst q.1 hR) ?_ ?_
  · rintro j y H8 H9 hj ⟨e8, hP8⟩ ⟨rfl, hy⟩
    obtain ⟨t, l, hl', rfl, ht⟩ := (hT.ex e8).get hy
    rw [List.getElem?_map] at hl'
    obtain ⟨a, ha, rfl⟩ : ∃ a, row[j]? = some a ∧ arL a = l := by
      cases z : row[j]? with
      | none => rw [z] at hl'; cases hl'
      | some a => rw [z] at hl'; exact ⟨a, rfl, Option.some.inj hl'⟩
    have ham := List.mem_of_getElem? ha
    refine ⟨hw _, htt t a H9 _ ham e8 ht ?_⟩
    have tk : ((row.take (j + 1)).filter P).map (fun a => a.2.2) = ((row.take j).filter P).map (fun a => a.2.2) ++ (if P a = true then [a.2.2] else []) := by
      rw [List.take_add_one, ha, List.filter_append, List.map_append]
      congr 1
      show ([a].filter P).map _ = _
      rw [List.filter_cons, List.filter_nil]
      by_cases c : P a = true
      · rw [if_pos c, if_pos c]; rfl
      · rw [if_neg c, if_neg c]; rfl
    rw [tk]
    by_cases c : P a = true
    · refine iteT' c (hte t a H9 _ ham e8 ht ⟨_, hP8, ?_, Evl.Ex.mut e8 hD, ?_⟩)
      · rw [List.length_map, List.length_map]
        exact small1000 (Nat.le_trans (List.length_filter_le _ _) (by rw [List.length_take]; omega))
      · rw [upd_same, if_pos c, List.map_append]
        rfl
    · refine iteF' (by simpa using c) ⟨e8, ?_⟩
      rw [if_neg c, List.append_nil]
      exact hP8
  · rintro H6 ⟨e6, hP6⟩
    rw [hzl, List.take_length] at hP6
    exact k H6 e6 hP6
end
def outB (a : Arc) : Bool := decide (0 ≤ a.2.2) && decide (a.2.1 < a.1)
def insB (a : Arc) : Bool := decide (0 ≤ a.2.2) && decide (a.1 < a.2.1)
def prts (P : Arc → Bool) (row : List Arc) : List Int := (row.filter P).map fun a => a.2.2
section
variable {w : World} {K : PySem.W.Frag} {mg : Str → Option Value} {base : Heap}
def spMove : Sp := fun vs H Q _ => ∃ (Rw : Addr) (zs : List V) (row : List Arc), vs = [.ref Rw] ∧ H Rw = some (.lst zs) ∧ Tups H zs (row.map arL) ∧ row.length ≤ 60 ∧
  ∀ (H' : Hp) (t a b : Addr) (os is : List Int), Ex H H' → H' t = some (.tup [.ref a, .ref b]) → H' a = some (.tup (os.map V.int)) → H' b = some (.tup (is.map V.int)) → os.Perm (prts outB row) → is.Perm (prts insB row) → Q (.ref t) H'
abbrev nMv : List Str := ["steps", "outs", "step", "ins"]
theorem sc_Mv : FnScope nMv ["steps"] (defScope s_move_of) := ⟨rfl, rfl, rfl, by decide +kernel, rfl, by decide +kernel, by decide +kernel⟩
set_option maxHeartbeats 8000000 in
theorem has_Mv (T : Ctx K mg) : Has w K mg base CX0 "move_of" 1 ["steps"] spMove := by
  refine has_of (st := s_move_of) (f := He.ga K "move_of") T.d_move_of T.g_move_of (fun _ _ _ _ _ _ us hl => match us, hl with | [_], _ => rfl) fun fd F => ?_
  refine ok0 F sc_Mv (fun vs H Q E h => ?_) (fun cdv A0 outer s0 H vs Q E hr h => ?_)
  · obtain ⟨Rw, zs, row, rfl, _⟩ := h
    rfl
  · obtain ⟨Rw, zs, row, rfl, hR, hT, hl, k⟩ := h
    have nd := sc_Mv.nd
    refine ⟨_, pss_cons (ps_setLc (i := 1) (own := [("step", 2)]) (g := gName 2) rfl nd rfl rfl (by rfl) (pi_list (pv 0)) (blkOk_by (own := [("step", 2)]) (N := nMv) (sc := defScope s_move_of) (by decide +kernel)) (fun _ _ _ _ _ => pg_name (i := 2) nd rfl (Or.inl rfl))
        (fun _ _ _ _ _ => pts_one (PW.pt (pw_and (pt_cmpR op_ge (pe_ix (ix_tupK (K := K) rfl) (pv 2) pe_int (fun _ _ => rfl)) pe_int (nomark _)) (pw_and1 (pt_cmpR op_gt (pe_ix (ix_tupK (K := K) rfl) (pv 2) pe_int (fun _ _ => rfl)) (pe_ix (ix_tupK (K := K) rfl) (pv 2) pe_int (fun _ _ => rfl)) (nomark _))))))
        (fun _ _ _ _ _ => pe_ix (ix_tupK (K := K) rfl) (pv 2) pe_int (fun _ _ => rfl)))
      (pss_cons (ps_setLc (i := 3) (own := [("step", 2)]) (g := gName 2) rfl nd rfl rfl (by rfl) (pi_list (pv 0)) (blkOk_by (own := [("step", 2)]) (N := nMv) (sc := defScope s_move_of) (by decide +kernel)) (fun _ _ _ _ _ => pg_name (i := 2) nd rfl (Or.inl rfl))
        (fun _ _ _ _ _ => pts_one (PW.pt (pw_and (pt_cmpR op_ge (pe_ix (ix_tupK (K := K) rfl) (pv 2) pe_int (fun _ _ => rfl)) pe_int (nomark _)) (pw_and1 (pt_cmpR op_lt (pe_ix (ix_tupK (K := K) rfl) (pv 2) pe_int (fun _ _ => rfl)) (pe_ix (ix_tupK (K := K) rfl) (pv 2) pe_int (fun _ _ => rfl)) (nomark _))))))
        (fun _ _ _ _ _ => pe_ix (ix_tupK (K := K) rfl) (pv 2) pe_int (fun _ _ => rfl)))
      (pss_one (ps_ret (pe_tup (pa_cons (pe_callTy call_tuple_of (by rfl) T.b_tuple (by decide +kernel) (pa_cons (pe_callB cr_sortedI (by rfl) T.b_sorted (by decide +kernel) (pa_cons (pv 1) pa_nil)) pa_nil))
        (pa_cons (pe_callTy call_tuple_of (by rfl) T.b_tuple (by decide +kernel) (pa_cons (pe_callB cr_sortedI (by rfl) T.b_sorted (by decide +kernel) (pa_cons (pv 3) pa_nil)) pa_nil)) pa_nil)))))), ?_⟩
    refine ⟨_, rfl, Rw, rfl, ⟨_, SqL.of hR⟩, fun O hO => lcw outB hR hT (by omega) (fun _ => rfl) (fun t a H' R ha e ht r => ?_) (fun t a H' R ha e ht r => ?_) hO (fun H1 e1 hO1 => ?_)⟩
    · refine ⟨_, rfl, t, _, (2 : Int), _, rfl, rfl, SqT.of ht, rfl, _, _, rfl, rfl, _, rfl, ?_⟩
      unfold outB at r
      by_cases c : 0 ≤ a.2.2
      · rw [decide_eq_true c, Bool.true_and] at r
        exact iteT' (decide_eq_true c) ⟨_, rfl, t, _, (0 : Int), _, rfl, rfl, SqT.of ht, rfl, _, rfl, t, _, (1 : Int), _, rfl, rfl, SqT.of ht, rfl, _, _, rfl, rfl, _, rfl, r⟩
      · rw [decide_eq_false c, Bool.false_and] at r
        exact iteF' (decide_eq_false c) r
    · exact ⟨_, rfl, t, _, (2 : Int), _, rfl, rfl, SqT.of ht, rfl, r⟩
    refine ⟨_, rfl, Rw, rfl, ⟨_, SqL.of (e1 _ _ hR)⟩, fun I hI => lcw insB (e1 _ _ hR) (hT.ex e1) (by omega) (fun _ => rfl) (fun t a H' R ha e ht r => ?_) (fun t a H' R ha e ht r => ?_) hI (fun H2 e2 hI2 => ?_)⟩
    · refine ⟨_, rfl, t, _, (2 : Int), _, rfl, rfl, SqT.of ht, rfl, _, _, rfl, rfl, _, rfl, ?_⟩
      unfold insB at r
      by_cases c : 0 ≤ a.2.2
      · rw [decide_eq_true c, Bool.true_and] at r
        exact iteT' (decide_eq_true c) ⟨_, rfl, t, _, (0 : Int), _, rfl, rfl, SqT.of ht, rfl, _, rfl, t, _, (1 : Int), _, rfl, rfl, SqT.of ht, rfl, _, _, rfl, rfl, _, rfl, r⟩
      · rw [decide_eq_false c, Bool.false_and] at r
        exact iteF' (decide_eq_false c) r
    · exact ⟨_, rfl, t, _, (2 : Int), _, rfl, rfl, SqT.of ht, rfl, r⟩
    refine ⟨_, rfl, O, _, rfl, SqL.of (e2 _ _ hO1), fun os p1 hperm1 hle1 hp1 => ?_⟩
    have e3 := Ex.new (o := .lst (os.map V.int)) hp1
    refine ⟨p1, _, rfl, .inl ⟨SqL.of upd_same, fun a ha => ?_⟩⟩
    have e4 := e3.trans (Ex.new (o := .tup (os.map V.int)) ha)
    have ha4 := upd_same (H := upd H2 p1 (.lst (os.map V.int))) (a := a) (o := .tup (os.map V.int))
    generalize upd (upd H2 p1 (.lst (os.map V.int))) a (.tup (os.map V.int)) = H4 at *
    refine ⟨_, rfl, I, _, rfl, SqL.of (e4 _ _ hI2), fun is p2 hperm2 hle2 hp2 => ?_⟩
    have e5 := Ex.new (o := .lst (is.map V.int)) hp2
    refine ⟨p2, _, rfl, .inl ⟨SqL.of upd_same, fun b hb => ?_⟩⟩
    have e6 := e5.trans (Ex.new (o := .tup (is.map V.int)) hb)
    have hb6 := upd_same (H := upd H4 p2 (.lst (is.map V.int))) (a := b) (o := .tup (is.map V.int))
    generalize upd (upd H4 p2 (.lst (is.map V.int))) b (.tup (is.map V.int)) = H6 at *
    refine ⟨(by show 2 ≤ sizeLine; decide), fun t ht => ?_⟩
    have e7 := Ex.new (o := .tup [V.ref a, .ref b]) ht
    exact k _ t a b os is ((((e1.trans e2).trans e4).trans e6).trans e7) upd_same (e7 _ _ (e6 _ _ ha4)) (e7 _ _ hb6) hperm1 hperm2
def spBehind : Sp := fun vs H Q _ => ∃ (C a b : Addr) (c os is : List Int), vs = [.ref C, .ref a, .ref b] ∧ H C = some (.tup (c.map V.int)) ∧ H a = some (.tup (os.map V.int)) ∧ H b = some (.tup (is.map V.int)) ∧ Low c ∧ Low os ∧ Low is ∧ c.Nodup ∧ c.length + os.length < 64 ∧ c.length + is.length < 64 ∧
  ∀ (H' : Hp) (q : Addr) (c' : List Int), Ex H H' → H' q = some (.tup (c'.map V.int)) → c'.Pairwise (· < ·) → (∀ k, k ∈ c' ↔ (k ∈ c ∧ k ∉ os) ∨ k ∈ is) → Q (.ref q) H'
theorem sc_Bh : FnScope ["chosen", "outs", "ins"] ["chosen", "outs", "ins"] (defScope s_behind) := ⟨rfl, rfl, rfl, by decide +kernel, rfl, by decide +kernel, by decide +kernel⟩
theorem has_Bh (T : Ctx K mg) : Has w K mg base CX0 "behind" 2 ["chosen", "outs", "ins"] spBehind := by
  obtain ⟨f1, fd1, m1, kp1, F1, b1⟩ := has_both (w := w) (base := base) T
  obtain ⟨f2, fd2, m2, kp2, F2, b2⟩ := has_minus (w := w) (base := base) T
  refine has_of (st := s_behind) (f := He.ga K "behind") T.d_behind T.g_behind (fun _ _ _ _ _ _ us hl => match us, hl with | [_, _, _], _ => rfl) fun fd F => ?_
  refine ok0 F sc_Bh (fun vs H Q E h => ?_) (fun cdv A0 outer s0 H vs Q E hr h => ?_)
  · obtain ⟨C, a, b, c, os, is, rfl, _⟩ := h
    rfl
  · obtain ⟨C, a, b, c, os, is, rfl, hC, ha, hb, lc, lo, li, cnd, l1, l2, k⟩ := h
    refine ⟨_, pss_one (ps_ret (pe_call F1 hr (by rfl) m1 kp1 b1 .nil pass0 (pa_cons (pe_call F2 hr (by rfl) m2 kp2 b2 .nil pass0 (pa_cons (pv 0) (pa_cons (pv 1) pa_nil))) (pa_cons (pv 2) pa_nil)))), ?_⟩
    refine ⟨_, rfl, _, rfl, C, a, c, os, rfl, hC, ha, lc, lo, l1, fun ms H1 p fl e1 hp hp2 => ?_⟩
    have hsub : ∀ k ∈ ms, k ∈ c := fun k hk => by
      have := (fl.2 k).mp hk
      rw [Bool.and_eq_true, decide_eq_true_iff] at this
      exact this.1
    have hml : ms.length ≤ c.length := by
      have pm : (c.filter fun x => decide (x ∈ ms)).Perm ms := (List.perm_ext_iff_of_nodup (cnd.filter _) (asc_nodup fl.1)).mpr fun k => by
        rw [List.mem_filter, decide_eq_true_iff]
        exact ⟨fun z => z.2, fun z => ⟨hsub k z, z⟩⟩
      rw [← pm.length_eq]
      exact List.length_filter_le _ _
    refine ⟨_, rfl, p, b, ms, is, rfl, hp2, e1 _ _ hb, ⟨fun n hn => lc.inn n (hsub n hn)⟩, li, by omega, fun rs2 H2 q fl2 e2 hq hq2 => ?_⟩
    refine k H2 q rs2 (e1.trans e2) hq2 fl2.1 fun z => ?_
    rw [fl2.2 z, Bool.or_eq_true, decide_eq_true_iff, decide_eq_true_iff, fl.2 z, Bool.and_eq_true, decide_eq_true_iff, Bool.not_eq_true', decide_eq_false_iff_not]
end
end K05


set_option Elab.async false
set_option linter.all false
set_option maxRecDepth 100000
set_option maxHeartbeats 4000000
namespace K05
open PySem PySem.Spec PyProof.Rows L2 RZ StX
open Evl (Ex)
theorem nodup_via {α : Type} {g h : α → Int} : ∀ {l : List α}, (l.map g).Nodup → (∀ x ∈ l, ∀ y ∈ l, h x = h y → g x = g y) → (l.map h).Nodup
  | [], _, _ => List.nodup_nil
  | x :: l, hn, hh => by
    have hn' := List.nodup_cons.mp hn
    refine List.nodup_cons.mpr ⟨fun z => ?_, nodup_via hn'.2 fun a ha b hb => hh a (List.mem_cons_of_mem _ ha) b (List.mem_cons_of_mem _ hb)⟩
    obtain ⟨y, hy, e⟩ := List.mem_map.mp z
    have := hh y (List.mem_cons_of_mem _ hy) x (List.mem_cons_self ..) e
    exact hn'.1 (List.mem_map.mpr ⟨y, hy, this⟩)
theorem nodup_parts {rs : List (Int × Int)} {pres c : List Int} {row : List Arc} (hs : ∀ x ∈ row, x ∈ arcsL rs pres c) (hnd : (row.map fun x => x.2.1).Nodup) : (row.map fun x => x.2.2).Nodup := by
  refine nodup_via hnd fun x hx y hy e => ?_
  obtain ⟨p, hp, rfl⟩ := List.mem_map.mp (hs x hx)
  obtain ⟨q, hq, rfl⟩ := List.mem_map.mp (hs y hy)
  rw [arcOf_part, arcOf_part] at e
  rw [e]
def mu (s : Nat) (f : Int → Int) : Int := sm (fun q => if 0 < f q then f q else 0) (upto (s + 1))
theorem mu_pos (s : Nat) (f : Int → Int) : 0 ≤ mu s f := by
  have := sm_le (f := fun _ : Int => 0) (g := fun q : Int => if 0 < f q then f q else 0) (l := upto (s + 1)) fun q _ => by split <;> omega
  rw [sm_zero] at this
  exact this
theorem mu_step {s a b : Nat} {f g : Int → Int} (ha : a ≤ s) (ha0 : 0 < f a) (hb0 : f b < 0) (hg : ∀ q : Nat, q ≤ s → g q = f q - (if (q : Int) = a then 1 else 0) + (if (q : Int) = b then 1 else 0)) : mu s g = mu s f - 1 := by
  unfold mu
  have one : sm (fun q : Int => if q = (a : Int) then 1 else 0) (upto (s + 1)) = 1 := by rw [sm_at (asc_nodup (upto_asc _)), upto_inn (by omega)]
  refine Eq.trans ?_ (congrArg (fun z => sm (fun q : Int => if 0 < f q then f q else 0) (upto (s + 1)) - z) one)
  rw [← sm_sub]
  refine sm_congr fun q hq => ?_
  have hb := upto_mem.mp hq
  obtain ⟨n, rfl⟩ : ∃ n : Nat, q = n := ⟨q.toNat, by omega⟩
  have e := hg n (by omega)
  have hab : (a : Int) ≠ b := fun z => by rw [z] at ha0; omega
  by_cases c1 : (n : Int) = a
  · have c2 : ¬ (n : Int) = b := fun z => hab (by omega)
    rw [if_pos c1, if_neg c2] at e
    rw [← c1] at ha0
    rw [if_pos c1, if_pos ha0, e]
    split <;> omega
  · rw [if_neg c1] at e
    rw [if_neg c1]
    by_cases c2 : (n : Int) = b
    · rw [if_pos c2] at e
      rw [← c2] at hb0
      rw [if_neg (by omega), if_neg (by omega)]
      rfl
    · rw [if_neg c2] at e
      rw [show g n = f n by omega]
      omega
theorem moved_ok {s : Int} {rs : List (Int × Int)} {pres c c' os is : List Int} {row : List Arc} (hF : ∀ p ∈ pres, Fits s (rn rs p)) (hp0 : ∀ p ∈ pres, 0 ≤ p) (hcs : ∀ p ∈ c, p ∈ pres) (hs : ∀ x ∈ row, x ∈ arcsL rs pres c) (ho : os.Perm (prts outB row)) (hi : is.Perm (prts insB row))
    (hm : ∀ k, k ∈ c' ↔ (k ∈ c ∧ k ∉ os) ∨ k ∈ is) : ∀ k, k ∈ c' ↔ k ∈ pres ∧ turn (fun p => decide (p ∈ c)) (row.map fun a => a.2.2) k = true := by
  have inO : ∀ k, k ∈ os ↔ k ∈ row.map (fun a => a.2.2) ∧ k ∈ c := fun k => by
    rw [ho.mem_iff]
    unfold prts
    constructor
    · intro h
      obtain ⟨x, hx, rfl⟩ := List.mem_map.mp h
      obtain ⟨hx1, hx2⟩ := List.mem_filter.mp hx
      refine ⟨List.mem_map.mpr ⟨x, hx1, rfl⟩, ?_⟩
      obtain ⟨p, hp, rfl⟩ := List.mem_map.mp (hs x hx1)
      rw [arcOf_part]
      unfold outB arcOf at hx2
      by_cases z : p ∈ c
      · exact z
      · obtain ⟨_, f1, _⟩ := hF p hp
        rw [if_neg z, Bool.and_eq_true, decide_eq_true_iff, decide_eq_true_iff] at hx2
        have := hx2.2
        have : (rn rs p).2 < (rn rs p).1 := this
        omega
    · rintro ⟨h, hc⟩
      obtain ⟨x, hx, rfl⟩ := List.mem_map.mp h
      refine List.mem_map.mpr ⟨x, List.mem_filter.mpr ⟨hx, ?_⟩, rfl⟩
      obtain ⟨p, hp, rfl⟩ := List.mem_map.mp (hs x hx)
      rw [arcOf_part] at hc
      obtain ⟨_, f1, _⟩ := hF p hp
      unfold outB arcOf
      rw [if_pos hc, Bool.and_eq_true, decide_eq_true_iff, decide_eq_true_iff]
      exact ⟨hp0 p hp, f1⟩
  have inI : ∀ k, k ∈ is ↔ k ∈ row.map (fun a => a.2.2) ∧ k ∉ c := fun k => by
    rw [hi.mem_iff]
    unfold prts
    constructor
    · intro h
      obtain ⟨x, hx, rfl⟩ := List.mem_map.mp h
      obtain ⟨hx1, hx2⟩ := List.mem_filter.mp hx
      refine ⟨List.mem_map.mpr ⟨x, hx1, rfl⟩, ?_⟩
      obtain ⟨p, hp, rfl⟩ := List.mem_map.mp (hs x hx1)
      rw [arcOf_part]
      unfold insB arcOf at hx2
      intro z
      obtain ⟨_, f1, _⟩ := hF p hp
      rw [if_pos z, Bool.and_eq_true, decide_eq_true_iff, decide_eq_true_iff] at hx2
      have : (rn rs p).2 < (rn rs p).1 := hx2.2
      omega
    · rintro ⟨h, hc⟩
      obtain ⟨x, hx, rfl⟩ := List.mem_map.mp h
      refine List.mem_map.mpr ⟨x, List.mem_filter.mpr ⟨hx, ?_⟩, rfl⟩
      obtain ⟨p, hp, rfl⟩ := List.mem_map.mp (hs x hx)
      rw [arcOf_part] at hc
      obtain ⟨_, f1, _⟩ := hF p hp
      unfold insB arcOf
      rw [if_neg hc, Bool.and_eq_true, decide_eq_true_iff, decide_eq_true_iff]
      exact ⟨hp0 p hp, f1⟩
  intro k
  rw [hm k, inO k, inI k]
  unfold turn
  have inP : k ∈ row.map (fun a => a.2.2) → k ∈ pres := fun h => by
    obtain ⟨x, hx, rfl⟩ := List.mem_map.mp h
    obtain ⟨p, hp, rfl⟩ := List.mem_map.mp (hs x hx)
    rw [arcOf_part]
    exact hp
  by_cases z : k ∈ row.map (fun a => a.2.2)
  · rw [if_pos z]
    by_cases y : k ∈ c
    · simp [y, z]
    · simp only [y, z, inP z, decide_false]
      simp
  · rw [if_neg z]
    by_cases y : k ∈ c
    · simp [y, z, hcs k y]
    · simp [y, z]
theorem row_cong {n : Nat} {f g : Int → Int} (h : ∀ q : Nat, q < n → f q = g q) : rowOf n f = rowOf n g := row_congr h
theorem atI_end {α : Type} {xs : List α} {n : Nat} {v : α} (hl : xs.length = n + 1) (h : xs[n]? = some v) : atI xs (-1) = some v := by
  have e : ixN xs.length (-1) = some n := by
    unfold ixN
    rw [hl, if_neg (by decide), if_pos (by omega)]
    congr 1
    omega
  unfold atI
  rw [e]
  exact h
theorem row_set1 {n a : Nat} {f : Int → Int} {v : Int} (ha : a < n) : (((rowOf n f).map V.int).set a (V.int v)) = (rowOf n (fun q => if q = (a : Int) then v else f q)).map V.int := by
  rw [← List.map_set]
  congr 1
  refine row_set ha (by rw [if_pos rfl]) fun q hq hne => by rw [if_neg (by omega)]
theorem row_getV {n q : Nat} {f : Int → Int} (h : q < n) : ((rowOf n f).map V.int)[q]? = some (V.int (f q)) := by
  rw [List.getElem?_map, row_get h]
  rfl
section
variable {w : World} {K : PySem.W.Frag} {mg : Str → Option Value} {base : Heap}
abbrev nCa : List Str := ["market", "needs", "spare", "world", "chosen", "row", "start", "end", "part", "_", "outs", "ins"]
theorem sc_Ca : FnScope nCa ["market", "needs", "spare", "world"] (defScope s_carried) := ⟨rfl, rfl, rfl, by decide +kernel, rfl, by decide +kernel, by decide +kernel⟩
def spCarried (K : PySem.W.Frag) : Sp := fun vs H Q _ => ∃ (x N Sp W : Addr) (s : Nat) (us : List V) (rs : List (Int × Int)) (gs D : List Int), vs = [.ref x, .ref N, .ref Sp, .ref W] ∧ Mkt K H x "join" s us rs gs ∧ s ≤ 30 ∧ us.length ≤ 28 ∧ (∀ r ∈ rs, Fits s r) ∧ D.length = s ∧
  H N = some (.tup ((rowOf (s + 1) (begD D)).map V.int)) ∧ H Sp = some (.lst (zers s)) ∧ H W = some (.lst (zers us.length)) ∧
  ∀ (H' : Hp) (t C N2 : Addr) (c S : List Int), Ex H H' → H' t = some (.tup [.ref C, .ref N2]) → H' C = some (.tup (c.map V.int)) → H' N2 = some (.lst ((rowOf (s + 1) (needF rs D c)).map V.int)) → Stops s rs (thL us.length gs) D c S → Q (.ref t) H'
set_option maxHeartbeats 8000000 in
theorem has_Ca (T : Ctx K mg) : Has w K mg base CX0 "carried" 4 ["market", "needs", "spare", "world"] (spCarried K) := by
  obtain ⟨f1, fd1, m1, kp1, F1, b1⟩ := has_Rb (w := w) (base := base) T
  obtain ⟨f2, fd2, m2, kp2, F2, b2⟩ := has_Mv (w := w) (base := base) T
  obtain ⟨f3, fd3, m3, kp3, F3, b3⟩ := has_Bh (w := w) (base := base) T
  obtain ⟨tg, hG⟩ := T.c_BARE
  refine has_of (st := s_carried) (f := He.ga K "carried") T.d_carried T.g_carried (fun _ _ _ _ _ _ us hl => match us, hl with | [_, _, _, _], _ => rfl) fun fd F => ?_
  refine ok0 F sc_Ca (fun vs H Q E h => ?_) (fun cdv A0 outer s0 H vs Q E hr h => ?_)
  · obtain ⟨x, N, Sp, W, s, us, rs, gs, D, rfl, _⟩ := h
    rfl
  · obtain ⟨x, N, Sp, W, s, us, rs, gs, D, rfl, M, hs, hus, hF, hD, hN, hSp, hW, k⟩ := h
    have nd := sc_Ca.nd
    have r2 := hr.mono (show 2 ≤ 3 by decide)
    have r1 := hr.mono (show 1 ≤ 3 by decide)
    refine ⟨_, pss_cons (ps_set (i := 1) nd rfl (.inl rfl) (pe_callTy call_list_of (by rfl) T.b_list (by decide +kernel) (pa_cons (pv 1) pa_nil)))
      (pss_cons (ps_set (i := 2) nd rfl (.inl rfl) (pe_callTy call_list_of (by rfl) T.b_list (by decide +kernel) (pa_cons (pv 2) pa_nil)))
      (pss_cons (ps_set (i := 4) nd rfl (.inl rfl) (pe_tup pa_nil))
      (pss_cons (ps_set (i := 5) nd rfl (.inl rfl) (pe_call F1 hr (by rfl) m1 kp1 b1 .nil pass0 (pa_cons (pv 0) (pa_cons (pv 1) (pa_cons (pv 2) (pa_cons (pv 4) (pa_cons (pv 3) pa_nil)))))))
      (pss_cons (ps_while PassesOwn.never (pt_truth (pv 5) (fun _ => rfl))
        (pss_cons (ps_augLs (pv 1) (pe_ix ix_tup (pe_ix ix_list (pv 5) (pe_un un_neg pe_int) (fun _ _ => rfl)) pe_int (fun _ _ => rfl)) pe_int)
        (pss_cons (ps_augL (pv 1) (pe_ix ix_tup (pe_ix ix_list (pv 5) pe_int (fun _ _ => rfl)) pe_int (fun _ _ => rfl)) pe_int)
        (pss_cons (ps_for PassesOwn.never rfl (pi_list (pv 5)) (pg_tup (by rfl) (pgs_cons (pg_name (i := 6) nd rfl (.inl rfl)) (pgs_cons (pg_name (i := 7) nd rfl (.inl rfl)) (pgs_cons (pg_name (i := 8) nd rfl (.inl rfl)) (pgs_cons (pg_name (i := 9) nd rfl (.inl rfl)) pgs_nil)))))
          (pss_one (ps_if (PW.pt (pw_and (pt_cmpR op_eq (pv 8) (pe_glob (v := .int (-1)) rfl hG ⟨_, rfl⟩) (nomark _)) (pw_and1 (pt_cmpR op_gt (pv 6) (pv 7) (nomark _))))) (pss_one ps_never)
            (pss_one (ps_if (pt_cmpR op_eq (pv 8) (pe_glob (v := .int (-1)) rfl hG ⟨_, rfl⟩) (nomark _)) (pss_one ps_never) pss_nil)))))
        (pss_cons (ps_asg (pe_call F2 r1 (by rfl) m2 kp2 b2 .nil pass0 (pa_cons (pv 5) pa_nil)) (pg_tup (by rfl) (pgs_cons (pg_name (i := 10) nd rfl (.inl rfl)) (pgs_cons (pg_name (i := 11) nd rfl (.inl rfl)) pgs_nil))))
        (pss_cons (ps_set (i := 4) nd rfl (.inl rfl) (pe_call F3 r2 (by rfl) m3 kp3 b3 .nil pass0 (pa_cons (pv 4) (pa_cons (pv 10) (pa_cons (pv 11) pa_nil)))))
        (pss_one (ps_set (i := 5) nd rfl (.inl rfl) (pe_call F1 hr (by rfl) m1 kp1 b1 .nil pass0 (pa_cons (pv 0) (pa_cons (pv 1) (pa_cons (pv 2) (pa_cons (pv 4) (pa_cons (pv 3) pa_nil))))))))))))))
      (pss_one (ps_ret (pe_tup (pa_cons (pv 4) (pa_cons (pv 1) pa_nil))))))))), ?_⟩
    have hpres : ∀ p ∈ thL us.length gs, (0 ≤ p ∧ p < us.length) ∧ Fits s (rn rs p) := fun p hp => by
      have hb := (thL_mem.mp hp).1
      have hul := M.runs.len
      refine ⟨hb, hF _ ?_⟩
      unfold rn
      rw [List.getD_eq_getElem?_getD, List.getElem?_eq_getElem (by omega)]
      exact List.getElem_mem _
    refine ⟨_, rfl, N, _, rfl, .inr (SqT.of hN), fun N2 hN20 => ?_⟩
    have e1 := Ex.new (o := .lst ((rowOf (s + 1) (begD D)).map V.int)) hN20
    have hN21 := upd_same (H := H) (a := N2) (o := .lst ((rowOf (s + 1) (begD D)).map V.int))
    refine ⟨_, rfl, Sp, _, rfl, .inl (SqL.of (e1 _ _ hSp)), fun S2 hS20 => ?_⟩
    have e2 := e1.trans (Ex.new (o := .lst (zers s)) hS20)
    have hN22 := (Ex.new (o := .lst (zers s)) hS20) _ _ hN21
    have hS22 := upd_same (H := upd H N2 (.lst ((rowOf (s + 1) (begD D)).map V.int))) (a := S2) (o := .lst (zers s))
    have hNS : S2 ≠ N2 := fun z => by rw [z, hN21] at hS20; cases hS20
    generalize upd (upd H N2 (.lst ((rowOf (s + 1) (begD D)).map V.int))) S2 (.lst (zers s)) = H2 at *
    refine ⟨(by show 0 ≤ sizeLine; decide), fun C0 hC0 => ?_⟩
    have f3 := Ex.new (o := .tup []) hC0
    have e3 := e2.trans f3
    have hN23 := f3 _ _ hN22
    have hS23 := f3 _ _ hS22
    have hC3 : upd H2 C0 (.tup []) C0 = some (.tup (([] : List Int).map V.int)) := upd_same
    generalize upd H2 C0 (.tup []) = H3 at *
    have r0 : rowOf (s + 1) (begD D) = rowOf (s + 1) (needF rs D []) := row_cong fun q _ => by
      unfold needF dAt
      omega
    rw [r0] at hN23
    refine ⟨_, rfl, _, rfl, _, rfl, _, rfl, _, rfl, x, N2, S2, C0, W, s, us, rs, gs, [], needF rs D [], rfl, M.ex e3, hs, hus, hF, hN23, hS23, hC3, .nil, (fun _ z => nomatch z), e3 _ _ hW, fun H4 Rw zs row e4 hRw hR4 hT4 hcase => ?_⟩
    have hRN : Rw ≠ N2 := fun z => by rw [z, hN23] at hRw; cases hRw
    refine ⟨fun m σ H' => ∃ (C Rw : Addr) (c : List Int) (zs : List V) (row : List Arc) (v6 v7 v8 v9 v10 v11 : Option V), m = (mu s (needF rs D c)).toNat ∧ σ = [some (.ref x), some (.ref N2), some (.ref S2), some (.ref W), some (.ref C), some (.ref Rw), v6, v7, v8, v9, v10, v11] ∧ Ex H H' ∧ H' N2 = some (.lst ((rowOf (s + 1) (needF rs D c)).map V.int)) ∧ H' S2 = some (.lst (zers s)) ∧ H' C = some (.tup (c.map V.int)) ∧ c.Pairwise (· < ·) ∧ (∀ p ∈ c, p ∈ thL us.length gs) ∧ H' Rw = some (.lst zs) ∧ Tups H' zs (row.map arL) ∧ Rw ≠ N2 ∧
      ((row = [] ∧ ∃ S, Shut s (arcsL rs (thL us.length gs) c) (needF rs D c) S) ∨ ∃ a b : Nat, Goes s (arcsL rs (thL us.length gs) c) (needF rs D c) row a b), ⟨_, C0, Rw, [], zs, row, _, _, _, _, _, _, rfl, rfl, e3.trans e4, e4 _ _ hN23, e4 _ _ hS23, e4 _ _ hC3, .nil, (fun _ z => nomatch z), hR4, hT4, hRN, hcase⟩, ?_⟩
    clear hS20 hC0 hN21 hN22 hS22 hN23 hS23 hC3 f3 e3 e4 hRw hR4 hT4 hcase hRN e1 e2 r0
    rintro m σ H1 ⟨C, Rw, c, zs, row, v6, v7, v8, v9, v10, v11, rfl, rfl, e1, hN1, hS1, hC1, hc, hcs, hR1, hT1, hRN, hcase⟩
    have hzl := hT1.len
    rw [List.length_map] at hzl
    refine ⟨_, rfl, !zs.isEmpty, .inl ⟨zs, SqL.of hR1, rfl⟩, ?_⟩
    rcases hcase with ⟨rfl, S, hsh⟩ | ⟨a, b, hg⟩
    · obtain rfl : zs = [] := List.length_eq_zero_iff.mp hzl
      refine iteF' rfl ⟨_, rfl, _, rfl, (by show 2 ≤ sizeLine; decide), fun t ht => ?_⟩
      have en := Ex.new (o := .tup [V.ref C, .ref N2]) ht
      exact k _ t C N2 c S (e1.trans en) upd_same (en _ _ hC1) (en _ _ hN1) ⟨hc, thL_asc _ _, hcs, hsh.nd, hsh.cl, hsh.pos, hsh.inn, hsh.neg⟩
    have hne : row ≠ [] := fun z => by
      have := hg.row
      rw [z] at this
      exact this
    have hzne : zs ≠ [] := fun z => by
      rw [z] at hzl
      exact hne (List.length_eq_zero_iff.mp hzl.symm)
    refine iteT' (by cases zs with | nil => exact absurd rfl hzne | cons _ _ => rfl) ?_
    obtain ⟨ini, al, hini, hal⟩ := hg.row.last
    obtain ⟨a0, rest, hrest, ha0⟩ := hg.row.first
    have has := hg.ha.1
    have hbs := hg.hb.1
    have hab : (a : Int) ≠ b := fun z => by
      have h1 := hg.ha.2
      have h2 := hg.hb.2
      rw [z] at h1
      omega
    obtain ⟨tl, hzl1, htl⟩ := hT1.at_ ini.length (arL al) (by rw [List.getElem?_map, hini, List.getElem?_append_right (Nat.le_refl _), Nat.sub_self]; rfl)
    obtain ⟨t0, hz0, ht0⟩ := hT1.at_ 0 (arL a0) (by rw [List.getElem?_map, hrest]; rfl)
    have hend : atI zs (-1) = some (V.ref tl) := atI_end (n := ini.length) (by rw [hzl, hini, List.length_append]; rfl) hzl1
    have few : row.length ≤ s + 1 := by
      have := nodup_few (n := s + 1) hg.nd fun y hy => by
        obtain ⟨z, hz, rfl⟩ := List.mem_map.mp hy
        obtain ⟨p, hp, rfl⟩ := List.mem_map.mp (hg.sub z hz)
        obtain ⟨_, f0, f1, f2⟩ := hpres p hp
        unfold arcOf
        split
        · show 0 ≤ (rn rs p).1 ∧ (rn rs p).1 < _
          omega
        · show 0 ≤ (rn rs p).2 ∧ (rn rs p).2 < _
          omega
      rw [List.length_map] at this
      exact this
    -- the needs at both ends
    refine ⟨fun σ' H' => ∃ (C Rw : Addr) (c' : List Int) (zs : List V) (row : List Arc) (v6 v7 v8 v9 v10 v11 : Option V), (mu s (needF rs D c')).toNat < (mu s (needF rs D c)).toNat ∧ σ' = [some (.ref x), some (.ref N2), some (.ref S2), some (.ref W), some (.ref C), some (.ref Rw), v6, v7, v8, v9, v10, v11] ∧ Ex H H' ∧ H' N2 = some (.lst ((rowOf (s + 1) (needF rs D c')).map V.int)) ∧ H' S2 = some (.lst (zers s)) ∧ H' C = some (.tup (c'.map V.int)) ∧ c'.Pairwise (· < ·) ∧ (∀ p ∈ c', p ∈ thL us.length gs) ∧ H' Rw = some (.lst zs) ∧ Tups H' zs (row.map arL) ∧ Rw ≠ N2 ∧
      ((row = [] ∧ ∃ S, Shut s (arcsL rs (thL us.length gs) c') (needF rs D c') S) ∨ ∃ a b : Nat, Goes s (arcsL rs (thL us.length gs) c') (needF rs D c') row a b), ?_, ?_⟩
    · rintro σ' H' ⟨C', Rw', c', zs', row', w6, w7, w8, w9, w10, w11, h1, h2⟩
      exact ⟨_, h1, C', Rw', c', zs', row', w6, w7, w8, w9, w10, w11, rfl, h2⟩
    have upN : ∀ {H5 : Hp} {l l' : List V}, H5 N2 = some (.lst l) → ∀ (t : Addr) (xs : List V), H5 t = some (.tup xs) → upd H5 N2 (.lst l') t = some (.tup xs) := fun hn t xs h => by
      rw [upd_ne (ne_of h hn (by intro z; cases z))]
      exact h
    refine ⟨_, rfl, _, rfl, _, rfl, Rw, zs, (-1 : Int), _, rfl, rfl, SqL.of hR1, hend, tl, _, (0 : Int), _, rfl, rfl, SqT.of htl, rfl, N2, _, a, .int (needF rs D c a), rfl, congrArg V.int hal, SqL.of hN1, row_getV (by omega), _, _, rfl, rfl, N2, _, al.1, a, rfl, rfl, hN1, by rw [hal]; exact Evl.ixN_nat (by rw [List.length_map, row_len]; omega), ?_⟩
    rw [row_set1 (by omega)]
    have e2 : Ex H (upd H1 N2 (.lst ((rowOf (s + 1) (fun q => if q = (a : Int) then needF rs D c a - 1 else needF rs D c q)).map V.int))) := Evl.Ex.mut e1 hN20
    have hN2 := upd_same (H := H1) (a := N2) (o := .lst ((rowOf (s + 1) (fun q => if q = (a : Int) then needF rs D c a - 1 else needF rs D c q)).map V.int))
    have hR2 : upd H1 N2 (.lst ((rowOf (s + 1) (fun q => if q = (a : Int) then needF rs D c a - 1 else needF rs D c q)).map V.int)) Rw = some (.lst zs) := by rw [upd_ne hRN]; exact hR1
    have hS2 : upd H1 N2 (.lst ((rowOf (s + 1) (fun q => if q = (a : Int) then needF rs D c a - 1 else needF rs D c q)).map V.int)) S2 = some (.lst (zers s)) := by rw [upd_ne hNS]; exact hS1
    have hC2 := upN (l' := (rowOf (s + 1) (fun q => if q = (a : Int) then needF rs D c a - 1 else needF rs D c q)).map V.int) hN1 _ _ hC1
    have hT2 := hT1.mono (upN (l' := (rowOf (s + 1) (fun q => if q = (a : Int) then needF rs D c a - 1 else needF rs D c q)).map V.int) hN1)
    have ht02 := upN (l' := (rowOf (s + 1) (fun q => if q = (a : Int) then needF rs D c a - 1 else needF rs D c q)).map V.int) hN1 _ _ ht0
    generalize upd H1 N2 (.lst ((rowOf (s + 1) (fun q => if q = (a : Int) then needF rs D c a - 1 else needF rs D c q)).map V.int)) = H2 at *
    clear hN1 hR1 hS1 hC1 hT1 ht0 htl hend hzl1
    refine ⟨_, rfl, _, rfl, Rw, zs, (0 : Int), _, rfl, rfl, SqL.of hR2, atI_nat (j := 0) hz0, t0, _, (1 : Int), _, rfl, rfl, SqT.of ht02, rfl, N2, _, b, _, rfl, congrArg V.int ha0, SqL.of hN2, row_getV (by omega), _, _, rfl, rfl, N2, _, a0.2.1, b, rfl, rfl, hN2, by rw [ha0]; exact Evl.ixN_nat (by rw [List.length_map, row_len]; omega), ?_⟩
    rw [row_set1 (by omega)]
    have fin : rowOf (s + 1) (fun q => if q = (b : Int) then (fun q => if q = (a : Int) then needF rs D c a - 1 else needF rs D c q) b + 1 else (fun q => if q = (a : Int) then needF rs D c a - 1 else needF rs D c q) q) = rowOf (s + 1) (fun q => needF rs D c q - (if q = (a : Int) then 1 else 0) + (if q = (b : Int) then 1 else 0)) := row_cong fun q _ => by
      show (if (q : Int) = b then (if (b : Int) = a then needF rs D c a - 1 else needF rs D c b) + 1 else (if (q : Int) = a then needF rs D c a - 1 else needF rs D c q)) = _
      by_cases c1 : (q : Int) = b
      · have c2 : ¬ (b : Int) = a := fun z => hab z.symm
        have c3 : ¬ (q : Int) = a := fun z => hab (by omega)
        rw [if_pos c1, if_pos c1, if_neg c2, if_neg c3, show needF rs D c b = needF rs D c q by rw [c1]]
        omega
      · by_cases c2 : (q : Int) = a
        · rw [if_neg c1, if_neg c1, if_pos c2, if_pos c2, show needF rs D c a = needF rs D c q by rw [c2]]
          omega
        · rw [if_neg c1, if_neg c1, if_neg c2, if_neg c2]
          omega
    rw [fin]
    clear fin
    generalize hL : (rowOf (s + 1) (fun q => needF rs D c q - (if q = (a : Int) then 1 else 0) + (if q = (b : Int) then 1 else 0))).map V.int = nl
    have e3 : Ex H (upd H2 N2 (.lst nl)) := Evl.Ex.mut e2 hN20
    have hN3 := upd_same (H := H2) (a := N2) (o := .lst nl)
    have hR3 : upd H2 N2 (.lst nl) Rw = some (.lst zs) := by rw [upd_ne hRN]; exact hR2
    have hS3 : upd H2 N2 (.lst nl) S2 = some (.lst (zers s)) := by rw [upd_ne hNS]; exact hS2
    have hC3 := upN (l' := nl) hN2 _ _ hC2
    have hT3 := hT2.mono (upN (l' := nl) hN2)
    generalize upd H2 N2 (.lst nl) = H3 at *
    clear hN2 hR2 hS2 hC2 hT2 ht02 upN e1 e2
    -- no bare steps
    have part0 : ∀ y ∈ row, 0 ≤ y.2.2 := fun y hy => by
      obtain ⟨p, hp, rfl⟩ := List.mem_map.mp (hg.sub y hy)
      rw [arcOf_part]
      exact (hpres p hp).1.1
    refine ⟨_, rfl, Rw, rfl, ⟨_, SqL.of hR3⟩, for_it walk_list (fun i σ H' => ∃ v6 v7 v8 v9 : Option V, σ = [some (.ref x), some (.ref N2), some (.ref S2), some (.ref W), some (.ref C), some (.ref Rw), v6, v7, v8, v9, v10, v11] ∧ H' = H3) ⟨_, _, _, _, rfl, rfl⟩ (fun i σ H' _ ⟨_, _, _, _, _, e⟩ => by rw [e]; exact SqL.of hR3) ?_ ?_⟩
    · rintro i v σ H5 H6 hi ⟨v6, v7, v8, v9, rfl, rfl⟩ ⟨rfl, hv⟩
      obtain ⟨t, l, hl', rfl, ht⟩ := hT3.get hv
      rw [List.getElem?_map] at hl'
      obtain ⟨y, hy, rfl⟩ : ∃ y, row[i]? = some y ∧ arL y = l := by
        cases z : row[i]? with
        | none => rw [z] at hl'; cases hl'
        | some y => rw [z] at hl'; exact ⟨y, rfl, Option.some.inj hl'⟩
      have hp0 := part0 y (List.mem_of_getElem? hy)
      have hne : ¬ (V.int y.2.2 = V.int (-1)) := fun z => by
        injection z with z
        omega
      refine ⟨t, _, rfl, SqT.of ht, rfl, _, _, rfl, _, _, rfl, _, _, rfl, _, _, rfl, rfl, ?_⟩
      refine ⟨_, rfl, rfl, _, rfl, iteF' (decide_eq_false hne) (iteF ?_)⟩
      exact ⟨_, rfl, rfl, _, rfl, iteF' (decide_eq_false hne) ⟨_, _, _, _, rfl, rfl⟩⟩
    rintro σ H5 ⟨v6, v7, v8, v9, rfl, rfl⟩
    -- the move
    refine ⟨_, rfl, Rw, zs, row, rfl, hR3, hT3, by omega, fun H7 t a' b' os is e7 ht ha' hb' po pi => ?_⟩
    refine ⟨t, _, rfl, SqT.of ht, rfl, _, _, rfl, _, _, rfl, rfl, ?_⟩
    have lowc : Low c := ⟨fun p hp => by have := (hpres p (hcs p hp)).1; omega⟩
    have clen : c.length ≤ us.length := nodup_few (asc_nodup hc) fun p hp => (hpres p (hcs p hp)).1
    have inR : ∀ (P : Arc → Bool) (p : Int), p ∈ prts P row → p ∈ thL us.length gs := fun P p hp => by
      obtain ⟨y, hy, rfl⟩ := List.mem_map.mp hp
      obtain ⟨p, hpp, rfl⟩ := List.mem_map.mp (hg.sub y (List.mem_filter.mp hy).1)
      rw [arcOf_part]
      exact hpp
    have lenP : ∀ P : Arc → Bool, (prts P row).length ≤ row.length := fun P => by
      unfold prts
      rw [List.length_map]
      exact List.length_filter_le _ _
    have lowo : Low os := ⟨fun p hp => by have := (hpres p (inR outB p (po.mem_iff.mp hp))).1; omega⟩
    have lowi : Low is := ⟨fun p hp => by have := (hpres p (inR insB p (pi.mem_iff.mp hp))).1; omega⟩
    have leno := lenP outB
    have leni := lenP insB
    rw [← po.length_eq] at leno
    rw [← pi.length_eq] at leni
    refine ⟨_, rfl, _, rfl, _, rfl, C, a', b', c, os, is, rfl, e7 _ _ hC3, ha', hb', lowc, lowo, lowi, asc_nodup hc, by omega, by omega, fun H8 C2 c' e8 hC2 asc' hm => ?_⟩
    have hm2 := moved_ok (s := s) (fun p hp => (hpres p hp).2) (fun p hp => (hpres p hp).1.1) hcs hg.sub po pi hm
    have hcs' : ∀ p ∈ c', p ∈ thL us.length gs := fun p hp => ((hm2 p).mp hp).1
    have hneed : ∀ q : Nat, q ≤ s → needF rs D c' q = needF rs D c q - (if (q : Int) = a then 1 else 0) + (if (q : Int) = b then 1 else 0) := fun q _ => by
      unfold needF
      rw [dAt_turned (thL_asc _ _) hc hcs asc' hg.sub (nodup_parts hg.sub hg.nd) hg.row hm2 q]
      omega
    have hmu := mu_step hg.ha.1 hg.ha.2 hg.hb.2 hneed
    have hmp := mu_pos s (needF rs D c')
    have e38 := e7.trans e8
    have hN8 := e38 _ _ hN3
    rw [← hL, row_cong (g := needF rs D c') fun q hq => (hneed q (by omega)).symm] at hN8
    have e08 := e3.trans e38
    refine ⟨_, rfl, _, rfl, _, rfl, _, rfl, _, rfl, x, N2, S2, C2, W, s, us, rs, gs, c', needF rs D c', rfl, M.ex e08, hs, hus, hF, hN8, e38 _ _ hS3, hC2, asc', hcs', e08 _ _ hW, fun H9 Rw2 zs2 row2 e9 hRw2 hR9 hT9 hcase2 => ?_⟩
    exact ⟨C2, Rw2, c', zs2, row2, _, _, _, _, _, _, by omega, rfl, e08.trans e9, e9 _ _ hN8, e9 _ _ (e38 _ _ hS3), e9 _ _ hC2, asc', hcs', hR9, hT9, (fun z => by rw [z, hN8] at hRw2; cases hRw2), hcase2⟩
end
end K05


set_option Elab.async false
set_option linter.all false
set_option maxRecDepth 100000
set_option maxHeartbeats 4000000
namespace K05
open PySem PySem.Spec PyProof.Rows L2 RZ StX
open Evl (Ex)
def blV (n : Nat) (R : Nat → Bool) : List V := (List.range n).map fun i => V.bl (R i)
theorem blV_get {n i : Nat} {R : Nat → Bool} (h : i < n) : (blV n R)[i]? = some (V.bl (R i)) := by
  unfold blV
  rw [List.getElem?_map, List.getElem?_range h]
  rfl
theorem blV_len (n : Nat) (R : Nat → Bool) : (blV n R).length = n := by unfold blV; simp
theorem blV_set {n e : Nat} {R : Nat → Bool} (h : e < n) : (blV n R).set e (.bl true) = blV n (addR R e) := by
  apply List.ext_getElem?
  intro i
  rw [List.getElem?_set]
  by_cases c : i < n
  · by_cases d : e = i
    · subst d
      rw [if_pos rfl, blV_get h, if_pos (by rw [blV_len]; exact h)]
      unfold addR
      simp
    · rw [if_neg d, blV_get c, blV_get c]
      unfold addR
      rw [decide_eq_false (fun z => d z.symm), Bool.or_false]
  · rw [if_neg (by omega), List.getElem?_eq_none (by rw [blV_len]; omega), List.getElem?_eq_none (by rw [blV_len]; omega)]
/-- reached: all starts, nothing that can't be reached, closed but for those that wait -/
structure RchP (n : Nat) (as : List Arc) (ss : List Int) (R : Nat → Bool) (wl : List Int) : Prop where
  st : ∀ q ∈ ss, R q.toNat = true
  least : ∀ S' : List Int, Closed as S' → (∀ q ∈ ss, q ∈ S') → ∀ i, i < n → R i = true → (i : Int) ∈ S'
  wait : ∀ q ∈ wl, (0 ≤ q ∧ q < n) ∧ R q.toNat = true
  cl : ∀ a ∈ as, R a.1.toNat = true → R a.2.1.toNat = true ∨ a.1 ∈ wl
section
variable {w : World} {K : PySem.W.Frag} {mg : Str → Option Value} {base : Heap}
abbrev nRp : List Str := ["points", "steps", "starts", "reached", "waiting", "point", "step"]
theorem sc_Rp : FnScope nRp ["points", "steps", "starts"] (defScope s_reached_points) := ⟨rfl, rfl, rfl, by decide +kernel, rfl, by decide +kernel, by decide +kernel⟩
def spReachP : Sp := fun vs H Q _ => ∃ (n : Nat) (A S : Addr) (ws : List V) (as : List Arc) (ss : List Int), vs = [.int n, .ref A, .ref S] ∧ n ≤ 50 ∧ H A = some (.lst ws) ∧ Tups H ws (as.map stL) ∧ as.length < 60 ∧ ArcsIn n as ∧ H S = some (.lst (ss.map V.int)) ∧ ss.length ≤ 50 ∧ (∀ q ∈ ss, 0 ≤ q ∧ q < n) ∧
  ∀ (H' : Hp) (t : Addr) (pts : List Int), Ex H H' → H' t = some (.tup (pts.map V.int)) → pts.Pairwise (· < ·) → (∀ q ∈ pts, 0 ≤ q ∧ q < n) → (∀ q ∈ ss, q ∈ pts) → Closed as pts → (∀ S' : List Int, Closed as S' → (∀ q ∈ ss, q ∈ S') → ∀ q ∈ pts, q ∈ S') → Q (.ref t) H'
set_option maxHeartbeats 8000000 in
theorem has_Rp (T : Ctx K mg) : Has w K mg base CX0 "reached_points" 1 ["points", "steps", "starts"] spReachP := by
  refine has_of (st := s_reached_points) (f := He.ga K "reached_points") T.d_reached_points T.g_reached_points (fun _ _ _ _ _ _ us hl => match us, hl with | [_, _, _], _ => rfl) fun fd F => ?_
  refine ok0 F sc_Rp (fun vs H Q E h => ?_) (fun cdv A0 outer s0 H vs Q E hr h => ?_)
  · obtain ⟨n, A, S, ws, as, ss, rfl, _⟩ := h
    rfl
  · obtain ⟨n, A, S, ws, as, ss, rfl, hn, hA, hT, hal, hin, hS, hsl, hss, k⟩ := h
    have nd := sc_Rp.nd
    refine ⟨_, pss_cons (ps_set (i := 3) nd rfl (.inr rfl) (pe_op op_rep (pe_lst (pa_cons pe_bl pa_nil)) (pv 0)))
      (pss_cons (ps_set (i := 4) nd rfl (.inl rfl) (pe_callTy call_list_of (by rfl) T.b_list (by decide +kernel) (pa_cons (pv 2) pa_nil)))
      (pss_cons (ps_for PassesOwn.never rfl (pi_list (pv 2)) (pg_name (i := 5) nd rfl (.inl rfl)) (pss_one (ps_asg pe_bl (pg_sub (pv 3) (pv 5) set_list))))
      (pss_cons (ps_while PassesOwn.never (pt_truth (pv 4) (fun _ => rfl))
        (pss_cons (ps_set (i := 5) nd rfl (.inl rfl) (pe_bm0 PySem.F.plainAttrs_list PySem.F.slot_list_pop PySem.F.type_list_pop mt_pop (pv 4)))
        (pss_one (ps_for PassesOwn.never rfl (pi_list (pv 1)) (pg_name (i := 6) nd rfl (.inl rfl))
          (pss_one (ps_if (PW.pt (pw_and (pt_cmpR op_eq (pe_ix ix_tup (pv 6) pe_int (fun _ _ => rfl)) (pv 5) (nomark _)) (pw_and1 (pt_not (pt_val (pe_ix ix_list (pv 3) (pe_ix ix_tup (pv 6) pe_int (fun _ _ => rfl)) (fun _ _ => rfl)))))))
            (pss_cons (ps_asg pe_bl (pg_sub (pv 3) (pe_ix ix_tup (pv 6) pe_int (fun _ _ => rfl)) set_list))
            (pss_one (ps_expr (pe_bm PySem.F.plainAttrs_list PySem.F.slot_list_append PySem.F.type_list_append mt_append (pv 4) (pa_cons (pe_ix ix_tup (pv 6) pe_int (fun _ _ => rfl)) pa_nil))))) pss_nil))))))
      (pss_one (ps_ret (pe_callTy call_tuple_of (by rfl) T.b_tuple (by decide +kernel) (pa_cons
        (pe_lc (own := [("point", 5)]) (g := gName 5) rfl nd (pi_range1 (by rfl) T.b_range (pa_cons (pv 0) pa_nil)) (blkOk_by (own := [("point", 5)]) (N := nRp) (sc := defScope s_reached_points) (by decide +kernel)) (fun _ _ _ _ _ => pg_name (i := 5) nd rfl (Or.inl rfl))
          (fun _ _ _ _ _ => pts_one (pt_val (pe_ix (ix_listK (K := K) rfl) (pv 3) (pv 5) (fun _ _ => rfl)))) (fun _ _ _ _ _ => pv 5)) pa_nil))))))), ?_⟩
    refine ⟨(by show 1 ≤ sizeLine; decide), fun p1 hp1 => ?_⟩
    have e1 := Ex.new (o := .lst [V.bl false]) hp1
    refine ⟨_, rfl, p1, (n : Int), _, rfl, rfl, upd_same, by omega, by omega, sz1000 (by show 1 * _ ≤ 1000; omega), fun P hP => ?_⟩
    have e2 := e1.trans (Ex.new (o := .lst (List.replicate ((n : Int)).toNat [V.bl false]).flatten) hP)
    have hP0 : H P = none := Evl.fresh_back e1 hP
    have hP2 : upd (upd H p1 (.lst [V.bl false])) P (.lst (List.replicate ((n : Int)).toNat [V.bl false]).flatten) P = some (.lst (blV n fun j => decide ((j : Int) ∈ ss.take 0))) := by
      rw [upd_same, rep_one, Int.toNat_natCast]
      congr 2
      apply List.ext_getElem?
      intro i
      by_cases c : i < n
      · rw [blV_get c, List.getElem?_replicate, if_pos c]
        simp
      · rw [List.getElem?_eq_none (by rw [List.length_replicate]; omega), List.getElem?_eq_none (by rw [blV_len]; omega)]
    generalize upd (upd H p1 (.lst [V.bl false])) P (.lst (List.replicate ((n : Int)).toNat [V.bl false]).flatten) = H2 at *
    refine ⟨_, rfl, S, _, rfl, .inl (SqL.of (e2 _ _ hS)), fun Wt hWt => ?_⟩
    have f3 := Ex.new (o := .lst (ss.map V.int)) hWt
    have e3 := e2.trans f3
    have hW0 : H Wt = none := Evl.fresh_back e2 hWt
    have hWP : Wt ≠ P := fun z => by rw [z, hP2] at hWt; cases hWt
    have hP3 := f3 _ _ hP2
    have hW3 := upd_same (H := H2) (a := Wt) (o := .lst (ss.map V.int))
    generalize upd H2 Wt (.lst (ss.map V.int)) = H3 at *
    clear f3 e2 hWt hP2 hP e1 hp1
    refine ⟨_, rfl, S, rfl, ⟨_, SqL.of (e3 _ _ hS)⟩, for_it walk_list (fun i σ H' => ∃ v5 : Option V, σ = [some (.int n), some (.ref A), some (.ref S), some (.ref P), some (.ref Wt), v5, none] ∧ Ex H H' ∧ H' Wt = some (.lst (ss.map V.int)) ∧ H' P = some (.lst (blV n fun j => decide ((j : Int) ∈ ss.take i)))) ⟨_, rfl, e3, hW3, hP3⟩ (fun i σ H' _ ⟨_, _, e, _⟩ => SqL.of (e _ _ hS)) ?_ ?_⟩
    · rintro i v σ H6 H5 hi ⟨v5, rfl, e5, hW5, hP5⟩ ⟨rfl, hv⟩
      obtain ⟨z, hz, rfl⟩ := map_int_get hv
      have hb := hss z (List.mem_of_getElem? hz)
      obtain ⟨m, rfl⟩ : ∃ m : Nat, z = m := ⟨z.toNat, by omega⟩
      have hm : m < n := by omega
      refine ⟨_, rfl, _, rfl, P, _, (m : Int), m, rfl, rfl, hP5, Evl.ixN_nat (by rw [blV_len]; exact hm), ?_⟩
      refine ⟨_, rfl, Evl.Ex.mut e5 hP0, by rw [upd_ne hWP]; exact hW5, ?_⟩
      rw [upd_same, blV_set hm]
      congr 3
      funext j
      unfold addR
      apply Bool.eq_iff_iff.mpr
      rw [Bool.or_eq_true, decide_eq_true_iff, decide_eq_true_iff, decide_eq_true_iff, List.take_add_one, hz, List.mem_append]
      simp
      constructor
      · rintro (q | q)
        · exact .inl q
        · exact .inr (by omega)
      · rintro (q | q)
        · exact .inl q
        · exact .inr (by omega)
    rintro σ H4 ⟨v5, rfl, e4, hW4, hP4⟩
    rw [List.length_map, List.take_length] at hP4
    have reach0 : RchP n as ss (fun j => decide ((j : Int) ∈ ss)) ss := ⟨fun q hq => decide_eq_true (by have := hss q hq; rw [show ((q.toNat : Nat) : Int) = q by omega]; exact hq), fun S' _ h i _ hi => h _ (of_decide_eq_true hi), fun q hq => ⟨hss q hq, decide_eq_true (by have := hss q hq; rw [show ((q.toNat : Nat) : Int) = q by omega]; exact hq)⟩, fun a ha h => by
      obtain ⟨b1, b2⟩ := hin a ha
      have := of_decide_eq_true h
      rw [show ((a.1.toNat : Nat) : Int) = a.1 by omega] at this
      exact .inr this⟩
    have cp := cnt_pos n fun j => decide ((j : Int) ∈ ss)
    have cl0 := cnt_le n fun j => decide ((j : Int) ∈ ss)
    refine ⟨fun m σ H' => ∃ (R : Nat → Bool) (wl : List Int) (v5 v6 : Option V), m ≤ 200 ∧ (m : Int) = wl.length + 2 * (n - cnt n R) ∧ σ = [some (.int n), some (.ref A), some (.ref S), some (.ref P), some (.ref Wt), v5, v6] ∧ Ex H H' ∧ H' P = some (.lst (blV n R)) ∧ H' Wt = some (.lst (wl.map V.int)) ∧ RchP n as ss R wl, ⟨((ss.length : Int) + 2 * (n - cnt n fun j => decide ((j : Int) ∈ ss))).toNat, _, ss, _, _, by omega, by omega, rfl, e4, hP4, hW4, reach0⟩, ?_⟩
    clear hP4 hW4 reach0 e4 hW3 hP3 e3 cp cl0
    rintro m σ H5 ⟨R, wl, v5, v6, hm200, hm, rfl, e5, hP5, hW5, hr5⟩
    have cle := cnt_le n R
    refine ⟨_, rfl, !(wl.map V.int).isEmpty, .inl ⟨_, SqL.of hW5, rfl⟩, ?_⟩
    rcases List.eq_nil_or_concat wl with rfl | ⟨ini, p, hwl⟩
    · refine iteF' rfl ?_
      refine ⟨_, rfl, (n : Int), rfl, by omega, by omega, fun G hG => lcf (n := n) (fun q => R q.toNat) (by omega) (fun _ => rfl) (fun z H' Rr hz e r => ?_) (fun z H' Rr hz e r => ⟨_, rfl, r⟩) hG (fun H6 e6 hG6 => ?_)⟩
      · rw [Int.toNat_natCast] at r
        exact ⟨_, rfl, _, rfl, P, _, _, _, rfl, rfl, SqL.of (e _ _ hP5), atI_nat (blV_get hz), _, rfl, r⟩
      · refine ⟨G, _, rfl, .inl ⟨SqL.of hG6, fun t ht => ?_⟩⟩
        have e7 := (e5.trans e6).trans (Ex.new (o := .tup (((upto n).filter fun q => R q.toNat).map V.int)) ht)
        refine k _ t ((upto n).filter fun q => R q.toNat) e7 upd_same ((upto_asc n).filter _) (fun q hq => upto_mem.mp (List.mem_filter.mp hq).1) (fun q hq => List.mem_filter.mpr ⟨upto_mem.mpr (hss q hq), hr5.st q hq⟩) (fun a ha h => ?_) (fun S' h1 h2 q hq => ?_)
        · have hx := (List.mem_filter.mp h).2
          rcases hr5.cl a ha hx with h3 | h3
          · exact List.mem_filter.mpr ⟨upto_mem.mpr (hin a ha).2, h3⟩
          · cases h3
        · obtain ⟨h3, h4⟩ := List.mem_filter.mp hq
          have hb := upto_mem.mp h3
          have := hr5.least S' h1 h2 q.toNat (by omega) h4
          rw [show ((q.toNat : Nat) : Int) = q by omega] at this
          exact this
    rw [List.concat_eq_append] at hwl
    subst hwl
    have hp := hr5.wait p (List.mem_append_right _ (List.mem_singleton.mpr rfl))
    obtain ⟨pn, hpn⟩ : ∃ pn : Nat, p = pn := ⟨p.toNat, by omega⟩
    rw [List.length_append] at hm
    have hm' : (m : Int) = ini.length + 1 + 2 * (n - cnt n R) := hm
    refine iteT' (by simp) ?_
    refine ⟨fun σ' H' => ∃ (m' : Nat) (R : Nat → Bool) (wl : List Int) (v5 v6 : Option V), m' < m ∧ m' ≤ 200 ∧ (m' : Int) = wl.length + 2 * (n - cnt n R) ∧ σ' = [some (.int n), some (.ref A), some (.ref S), some (.ref P), some (.ref Wt), v5, v6] ∧ Ex H H' ∧ H' P = some (.lst (blV n R)) ∧ H' Wt = some (.lst (wl.map V.int)) ∧ RchP n as ss R wl, ?_, ?_⟩
    · rintro σ' H' ⟨m', R', wl', w5, w6, h1, h2⟩
      exact ⟨m', h1, R', wl', w5, w6, h2⟩
    refine ⟨_, rfl, .inl ⟨rfl, _, SqL.of hW5⟩, Wt, (ini ++ [p]).map V.int, .int p, rfl, rfl, hW5, ?_, ?_⟩
    · rw [List.map_append, List.length_append, List.length_map]
      show (ini.map V.int ++ [V.int p])[ini.length + 1 - 1]? = _
      rw [List.getElem?_append_right (by rw [List.length_map]; omega), List.length_map, show ini.length + 1 - 1 - ini.length = 0 by omega]
      rfl
    have hdl : ((ini ++ [p]).map V.int).dropLast = ini.map V.int := by
      rw [List.map_append]
      exact List.dropLast_concat
    rw [hdl]
    have e6 : Ex H (upd H5 Wt (.lst (ini.map V.int))) := Evl.Ex.mut e5 hW0
    have hP6 : upd H5 Wt (.lst (ini.map V.int)) P = some (.lst (blV n R)) := by rw [upd_ne (Ne.symm hWP)]; exact hP5
    have hW6 := upd_same (H := H5) (a := Wt) (o := .lst (ini.map V.int))
    generalize upd H5 Wt (.lst (ini.map V.int)) = H6 at *
    clear hP5 hW5 e5 hdl
    refine ⟨_, rfl, A, rfl, ⟨_, SqL.of (e6 _ _ hA)⟩, for_it walk_list (fun j σ H' => ∃ (R' : Nat → Bool) (wl' : List Int) (v6 : Option V), σ = [some (.int n), some (.ref A), some (.ref S), some (.ref P), some (.ref Wt), some (.int p), v6] ∧ Ex H H' ∧ H' P = some (.lst (blV n R')) ∧ H' Wt = some (.lst (wl'.map V.int)) ∧ (wl'.length : Int) + 2 * (n - cnt n R') ≤ ini.length + 2 * (n - cnt n R) ∧
      (∀ q ∈ ss, R' q.toNat = true) ∧ (∀ S' : List Int, Closed as S' → (∀ q ∈ ss, q ∈ S') → ∀ i, i < n → R' i = true → (i : Int) ∈ S') ∧ (∀ q ∈ wl', (0 ≤ q ∧ q < n) ∧ R' q.toNat = true) ∧ R' pn = true ∧
      (∀ a ∈ as, R' a.1.toNat = true → R' a.2.1.toNat = true ∨ a.1 ∈ wl' ∨ a.1 = p) ∧ (∀ (q : Nat) (a : Arc), q < j → as[q]? = some a → a.1 = p → R' a.2.1.toNat = true))
      ⟨R, ini, _, rfl, e6, hP6, hW6, Int.le_refl _, hr5.st, hr5.least, fun q hq => hr5.wait q (List.mem_append_left _ hq), by have := hp.2; rw [hpn, Int.toNat_natCast] at this; exact this, fun a ha h => (hr5.cl a ha h).imp_right fun z => (List.mem_append.mp z).imp_right List.mem_singleton.mp, fun q a z => absurd z (Nat.not_lt_zero _)⟩ (fun i σ H' _ ⟨_, _, _, _, e, _⟩ => SqL.of (e _ _ hA)) ?_ ?_⟩
    · rintro j v σ H8 H7 hj ⟨R', wl', v6, rfl, e7, hP7, hW7, hmm, i1, i2, i3, i4, i5, i6⟩ ⟨rfl, hv⟩
      obtain ⟨t, l, hl', rfl, ht⟩ := (hT.ex e7).get hv
      rw [List.getElem?_map] at hl'
      obtain ⟨a, ha, rfl⟩ : ∃ a, as[j]? = some a ∧ stL a = l := by
        cases z : as[j]? with
        | none => rw [z] at hl'; cases hl'
        | some a => rw [z] at hl'; exact ⟨a, rfl, Option.some.inj hl'⟩
      have ham := List.mem_of_getElem? ha
      obtain ⟨b1, b2⟩ := hin a ham
      obtain ⟨e, he⟩ : ∃ e : Nat, a.2.1 = e := ⟨a.2.1.toNat, by omega⟩
      have hen : e < n := by omega
      have ixe : atI (blV n R') a.2.1 = some (V.bl (R' e)) := by rw [he]; exact atI_nat (blV_get hen)
      refine ⟨_, rfl, t, _, (0 : Int), _, rfl, rfl, SqT.of ht, rfl, _, rfl, rfl, _, rfl, ?_⟩
      by_cases c1 : a.1 = p
      rotate_left
      · refine iteF' (decide_eq_false (fun z => c1 (by injection z))) (iteF ⟨R', wl', _, rfl, e7, hP7, hW7, hmm, i1, i2, i3, i4, i5, fun q b hq hb h1 => ?_⟩)
        by_cases c : q = j
        · subst c
          rw [ha] at hb
          cases hb
          exact absurd h1 c1
        · exact i6 q b (by omega) hb h1
      refine iteT' (decide_eq_true (by rw [c1])) ?_
      refine ⟨_, rfl, _, rfl, t, _, (1 : Int), _, rfl, rfl, SqT.of ht, rfl, P, _, _, _, rfl, rfl, SqL.of hP7, ixe, _, rfl, ?_⟩
      by_cases c2 : R' e = true
      · refine iteF' (by rw [c2]; rfl) ⟨R', wl', _, rfl, e7, hP7, hW7, hmm, i1, i2, i3, i4, i5, fun q b hq hb h1 => ?_⟩
        by_cases c : q = j
        · subst c
          rw [ha] at hb
          cases hb
          rw [he, Int.toNat_natCast]
          exact c2
        · exact i6 q b (by omega) hb h1
      have c2' : R' e = false := by simpa using c2
      refine iteT' (by rw [c2']; rfl) ?_
      refine ⟨_, rfl, _, rfl, t, _, (1 : Int), _, rfl, rfl, SqT.of ht, rfl, P, _, a.2.1, e, rfl, rfl, hP7, by rw [he]; exact Evl.ixN_nat (by rw [blV_len]; exact hen), ?_⟩
      rw [blV_set hen]
      have e8 : Ex H (upd H7 P (.lst (blV n (addR R' e)))) := Evl.Ex.mut e7 hP0
      have hP8 := upd_same (H := H7) (a := P) (o := .lst (blV n (addR R' e)))
      have hW8 : upd H7 P (.lst (blV n (addR R' e))) Wt = some (.lst (wl'.map V.int)) := by rw [upd_ne hWP]; exact hW7
      have ht8 : upd H7 P (.lst (blV n (addR R' e))) t = some (.tup ((stL a).map V.int)) := by rw [upd_ne (ne_of ht hP7 (by intro z; cases z))]; exact ht
      generalize upd H7 P (.lst (blV n (addR R' e))) = H8 at *
      have hca := cnt_add hen c2'
      have hcl2 := cnt_le n (addR R' e)
      refine ⟨_, rfl, .inl ⟨rfl, _, SqL.of hW8⟩, _, rfl, t, _, (1 : Int), _, rfl, rfl, SqT.of ht8, rfl, Wt, _, _, rfl, rfl, hW8, by rw [List.length_map]; exact small1000 (by omega), ?_⟩
      have mono : ∀ i, R' i = true → addR R' e i = true := fun i h => by unfold addR; rw [h]; rfl
      have at_e : addR R' e e = true := by unfold addR; simp
      refine ⟨addR R' e, wl' ++ [a.2.1], _, rfl, Evl.Ex.mut e8 hW0, by rw [upd_ne (Ne.symm hWP)]; exact hP8, by rw [upd_same, List.map_append]; rfl, ?_, fun q hq => mono _ (i1 q hq), fun S' h1 h2 i hi hr2 => ?_, fun q hq => ?_, mono _ i4, fun b hb h => ?_, fun q b hq hb h1 => ?_⟩
      · rw [List.length_append, hca]
        show ((wl'.length + 1 : Nat) : Int) + _ ≤ _
        omega
      · unfold addR at hr2
        rw [Bool.or_eq_true, decide_eq_true_iff] at hr2
        rcases hr2 with hr2 | rfl
        · exact i2 S' h1 h2 i hi hr2
        · rw [← he]
          refine h1 a ham ?_
          rw [c1, hpn]
          exact i2 S' h1 h2 pn (by omega) i4
      · rcases List.mem_append.mp hq with hq | hq
        · exact ⟨(i3 q hq).1, mono _ (i3 q hq).2⟩
        · rw [List.mem_singleton.mp hq]
          exact ⟨b2, by rw [he, Int.toNat_natCast]; exact at_e⟩
      · by_cases c : R' b.1.toNat = true
        · rcases i5 b hb c with h1 | h1 | h1
          · exact .inl (mono _ h1)
          · exact .inr (.inl (List.mem_append_left _ h1))
          · exact .inr (.inr h1)
        · have hb1 : b.1.toNat = e := by
            unfold addR at h
            rw [Bool.or_eq_true, decide_eq_true_iff] at h
            exact h.resolve_left c
          obtain ⟨x1, _⟩ := hin b hb
          exact .inr (.inl (List.mem_append_right _ (List.mem_singleton.mpr (by omega))))
      · by_cases c : q = j
        · subst c
          rw [ha] at hb
          cases hb
          rw [he, Int.toNat_natCast]
          exact at_e
        · exact mono _ (i6 q b (by omega) hb h1)
    · rintro σ H7 ⟨R', wl', v6, rfl, e7, hP7, hW7, hmm, i1, i2, i3, i4, i5, i6⟩
      have hcl2 := cnt_le n R'
      refine ⟨((wl'.length : Int) + 2 * (n - cnt n R')).toNat, R', wl', _, _, by omega, by omega, by omega, rfl, e7, hP7, hW7, i1, i2, i3, fun a ha h => ?_⟩
      rcases i5 a ha h with h1 | h1 | h1
      · exact .inl h1
      · exact .inr h1
      · obtain ⟨q, hq⟩ := List.mem_iff_getElem?.mp ha
        have := (List.getElem?_eq_some_iff.mp hq).1
        have hwl := hT.len
        rw [List.length_map] at hwl
        exact .inl (i6 q a (by omega) hq h1)
end
end K05


set_option Elab.async false
set_option linter.all false
set_option maxRecDepth 100000
set_option maxHeartbeats 4000000
namespace K05
open PySem PySem.Spec PyProof.Rows L2 RZ StX
open Evl (Ex)
theorem begL_row (D : List Int) : begL D = rowOf (D.length + 1) (begD D) := by
  unfold begL rowOf
  rfl
/-- what «cheapest_of» hands out of a market of the kind join -/
def Found (H' : Hp) (s : Nat) (rs : List (Int × Int)) (pres D : List Int) (v : V) : Prop :=
  (v = .non ∧ ∀ X : List Int, X.Pairwise (· < ·) → (∀ p ∈ X, p ∈ pres) → ¬ joinOk s rs D X) ∨ ∃ (C : Addr) (c : List Int), v = .ref C ∧ H' C = some (.tup (c.map V.int)) ∧ c.Pairwise (· < ·) ∧ (∀ p ∈ c, p ∈ pres) ∧ joinOk s rs D c
section
variable {w : World} {K : PySem.W.Frag} {mg : Str → Option Value} {base : Heap}
abbrev nCh : List Str := ["market", "wanted", "world", "bottom", "level", "number", "spare", "high", "low", "chosen", "needs", "need"]
theorem sc_Ch : FnScope nCh ["market", "wanted", "world"] (defScope s_cheapest_of) := ⟨rfl, rfl, rfl, by decide +kernel, rfl, by decide +kernel, by decide +kernel⟩
def spCheap (K : PySem.W.Frag) : Sp := fun vs H Q _ => ∃ (x A W : Addr) (s : Nat) (us : List V) (rs : List (Int × Int)) (gs D : List Int), vs = [.ref x, .ref A, .ref W] ∧ Mkt K H x "join" s us rs gs ∧ s ≤ 30 ∧ us.length ≤ 28 ∧ (∀ r ∈ rs, Fits s r) ∧ D.length = s ∧ H A = some (.tup (D.map V.int)) ∧ H W = some (.lst (zers us.length)) ∧
  ∀ (H' : Hp) (v : V), Ex H H' → Found H' s rs (thL us.length gs) D v → Q v H'
set_option maxHeartbeats 8000000 in
theorem has_Ch (T : Ctx K mg) : Has w K mg base CX0 "cheapest_of" 5 ["market", "wanted", "world"] (spCheap K) := by
  obtain ⟨f1, fd1, m1, kp1, F1, b1⟩ := has_is_lap (w := w) (base := base) T
  obtain ⟨f2, fd2, m2, kp2, F2, b2⟩ := has_begins_of (w := w) (base := base) T
  obtain ⟨f3, fd3, m3, kp3, F3, b3⟩ := has_Ca (w := w) (base := base) T
  refine has_of (st := s_cheapest_of) (f := He.ga K "cheapest_of") T.d_cheapest_of T.g_cheapest_of (fun _ _ _ _ _ _ us hl => match us, hl with | [_, _, _], _ => rfl) fun fd F => ?_
  refine ok0 F sc_Ch (fun vs H Q E h => ?_) (fun cdv A0 outer s0 H vs Q E hr h => ?_)
  · obtain ⟨x, A, W, s, us, rs, gs, D, rfl, _⟩ := h
    rfl
  · obtain ⟨x, A, W, s, us, rs, gs, D, rfl, M, hs, hus, hF, hD, hA, hW, k⟩ := h
    have nd := sc_Ch.nd
    have r1 := hr.mono (show 1 ≤ 4 by decide)
    refine ⟨_, pss_cons (ps_set (i := 3) nd rfl (.inl rfl) (pv 1))
      (pss_cons (ps_set (i := 4) nd rfl (.inl rfl) (pv 1))
      (pss_cons (ps_if (pt_val (pe_call F1 r1 (by rfl) m1 kp1 b1 .nil pass0 (pa_cons (pv 0) pa_nil))) (pss_cons ps_never (pss_one ps_never)) pss_nil)
      (pss_cons (ps_setLc (i := 6) (own := [("high", 7), ("low", 8)]) (g := gTup K 2 (gCons (gName 7) (gCons (gName 8) gNil))) (tt := tYes) rfl nd rfl rfl (by rfl) (pi_zipA (by rfl) T.b_zip (pa_cons (pv 4) (pa_cons (pv 3) pa_nil))) (blkOk_by (own := [("high", 7), ("low", 8)]) (N := nCh) (sc := defScope s_cheapest_of) (by decide +kernel))
          (fun _ _ _ _ _ => gTupK rfl (pg_tup (by rfl) (pgs_cons (pg_name (i := 7) nd rfl (.inl rfl)) (pgs_cons (pg_name (i := 8) nd rfl (.inl rfl)) pgs_nil)))) (fun _ _ _ _ _ => pts_nil) (fun _ _ _ _ _ => pe_op op_sub (pv 7) (pv 8)))
      (pss_cons (ps_asg (pe_call F3 hr (by rfl) m3 kp3 b3 .nil pass0 (pa_cons (pv 0) (pa_cons (pe_call F2 r1 (by rfl) m2 kp2 b2 .nil pass0 (pa_cons (pv 4) pa_nil)) (pa_cons (pv 6) (pa_cons (pv 2) pa_nil)))))
          (pg_tup (by rfl) (pgs_cons (pg_name (i := 9) nd rfl (.inl rfl)) (pgs_cons (pg_name (i := 10) nd rfl (.inl rfl)) pgs_nil))))
      (pss_cons (ps_if (pt_val (pe_callB (cr_any rfl) (by rfl) T.b_any (by decide +kernel) (pa_cons
          (pe_lc (own := [("need", 11)]) (g := gName 11) (tt := tYes) rfl nd (pi_list (pv 10)) (blkOk_by (own := [("need", 11)]) (N := nCh) (sc := defScope s_cheapest_of) (by decide +kernel)) (fun _ _ _ _ _ => pg_name (i := 11) nd rfl (Or.inl rfl)) (fun _ _ _ _ _ => pts_nil)
            (fun _ _ _ _ _ => pe_cmpR op_ne (pv 11) pe_int (nomark _))) pa_nil))) (pss_one (ps_ret pe_non)) pss_nil)
      (pss_one (ps_ret (pv 9)))))))), ?_⟩
    refine ⟨_, rfl, _, rfl, _, rfl, x, "join", s, us, rs, gs, rfl, M, _, rfl, iteF' (by decide +kernel) ?_⟩
    refine ⟨_, rfl, _, rfl, A, A, _, _, rfl, .inr ⟨SqT.of hA, SqT.of hA, fun Sp hSp => lc_it (walk_zipT rfl) (fun i H' => Ex H H' ∧ H' Sp = some (.lst (zers i))) ⟨Ex.new hSp, upd_same⟩ (fun i H' _ q => ⟨Ex.tup q.1 hA, Ex.tup q.1 hA⟩) ?_ ?_⟩⟩
    · rintro i v H3 H4 hi ⟨e3, hA3⟩ ⟨t, y, z, rfl, ht, rfl, hx, hy⟩
      rw [hx] at hy
      cases hy
      obtain ⟨p, hp, rfl⟩ := map_int_get hx
      have hil : i < D.length := (List.getElem?_eq_some_iff.mp hp).1
      have e4 : Ex H (upd H3 t (.tup [.int p, .int p])) := e3.trans (Ex.new ht)
      have hA4 := (Ex.new (o := .tup [.int p, .int p]) ht) _ _ hA3
      refine ⟨t, _, rfl, SqT.of upd_same, rfl, _, _, rfl, _, _, rfl, rfl, rfl, tYesI ?_⟩
      refine ⟨_, rfl, _, rfl, _, _, rfl, rfl, _, hA4, by rw [List.length_replicate]; exact small1000 (by omega), Evl.Ex.mut e4 hSp, ?_⟩
      rw [upd_same]
      unfold zers
      rw [List.replicate_succ']
      show some (HO.lst (_ ++ [V.int (p - p)])) = _
      rw [Int.sub_self]
    rintro H1 ⟨e1, hSp1⟩
    rw [List.length_map, hD] at hSp1
    refine ⟨_, rfl, _, rfl, A, D, rfl, e1 _ _ hA, by omega, fun H2 N e2 hN => ?_⟩
    have e12 := e1.trans e2
    rw [begL_row, hD] at hN
    refine ⟨_, rfl, _, rfl, x, N, Sp, W, s, us, rs, gs, D, rfl, M.ex e12, hs, hus, hF, hD, hN, e2 _ _ hSp1, e12 _ _ hW, fun H3 t C N2 c S e3 ht hC hN2 hst => ?_⟩
    have e13 := e12.trans e3
    refine ⟨t, _, rfl, SqT.of ht, rfl, _, _, rfl, _, _, rfl, rfl, ?_⟩
    refine ⟨_, rfl, N2, rfl, ⟨_, SqL.of hN2⟩, fun B hB => lc_it walk_list (fun i H' => Ex H3 H' ∧ H' B = some (.lst ((((rowOf (s + 1) (needF rs D c)).take i).map fun z => !decide (z = 0)).map V.bl))) ⟨Ex.new hB, upd_same⟩ (fun i H' _ q => Ex.lst q.1 hN2) ?_ ?_⟩
    · rintro i v H4 H5 hi ⟨e4, hB4⟩ ⟨rfl, hv⟩
      obtain ⟨z, hz, rfl⟩ := map_int_get hv
      have hil : i < s + 1 := by
        have := (List.getElem?_eq_some_iff.mp hz).1
        rw [row_len] at this
        exact this
      refine ⟨rfl, tYesI ?_⟩
      refine ⟨_, rfl, rfl, _, hB4, by rw [List.length_map, List.length_map, List.length_take, row_len]; exact small1000 (by omega), Evl.Ex.mut e4 hB, ?_⟩
      rw [upd_same, List.take_add_one, hz, List.map_append, List.map_append]
      congr 3
      show [V.bl _] = [V.bl _]
      congr 2
      apply congrArg
      apply decide_eq_decide.mpr
      exact ⟨fun y => by injection y, fun y => by rw [y]⟩
    rintro H4 ⟨e4, hB4⟩
    rw [List.length_map, List.take_length] at hB4
    have e14 := e13.trans e4
    refine ⟨B, _, rfl, SqL.of hB4, _, rfl, ?_⟩
    have hanyT : ((rowOf (s + 1) (needF rs D c)).map fun z => !decide (z = 0)).any id = true ↔ ∃ q : Nat, q ≤ s ∧ needF rs D c q ≠ 0 := by
      rw [List.any_eq_true]
      constructor
      · rintro ⟨b, hb, hb2⟩
        obtain ⟨z, hz, rfl⟩ := List.mem_map.mp hb
        obtain ⟨q, hq⟩ := List.mem_iff_getElem?.mp hz
        have hql : q < s + 1 := by
          have := (List.getElem?_eq_some_iff.mp hq).1
          rw [row_len] at this
          exact this
        rw [row_get hql] at hq
        refine ⟨q, by omega, ?_⟩
        rw [Option.some.inj hq]
        simpa using hb2
      · rintro ⟨q, hq, hne⟩
        exact ⟨true, List.mem_map.mpr ⟨needF rs D c q, List.mem_of_getElem? (row_get (by omega)), by simpa using hne⟩, rfl⟩
    have hpres : ∀ p ∈ c, 0 ≤ p ∧ p < rs.length := fun p hp => by
      have hb := (thL_mem.mp (hst.hs p hp)).1
      have := M.runs.len
      omega
    by_cases hany : ∃ q : Nat, q ≤ s ∧ needF rs D c q ≠ 0
    · refine iteT' (hanyT.mpr hany) (k _ _ e14 (.inl ⟨rfl, fun X hX hXs => ?_⟩))
      by_cases hp : ∃ q : Nat, q ≤ s ∧ 0 < needF rs D c q
      · obtain ⟨q, hq, h0⟩ := hp
        exact hst.none hq h0 hX hXs
      · obtain ⟨q, hq, hne⟩ := hany
        have := need_zero hD hF hpres fun q hq => Int.not_lt.mp fun z => hp ⟨q, hq, z⟩
        have := this q hq
        unfold needF at hne
        omega
    · refine iteF' (by rw [← Bool.not_eq_true, hanyT]; exact hany) ?_
      refine ⟨_, rfl, k _ _ e14 (.inr ⟨C, c, rfl, e4 _ _ hC, hst.hc, hst.hs, fun q hq => ?_⟩)⟩
      have : needF rs D c q = 0 := Decidable.byContradiction fun z => hany ⟨q, hq, z⟩
      unfold needF at this
      omega
end
end K05


set_option Elab.async false
set_option linter.all false
set_option maxRecDepth 100000
set_option maxHeartbeats 4000000
namespace K05
open PySem PySem.Spec PyProof.Rows L2 RZ StX
open Evl (Ex)
/-- a set is a stock as the law counts -/
def stOk (kd : Str) (s : Nat) (rs : List (Int × Int)) (D X : List Int) : Prop := (okRow kd (covL s rs X) D).all id = true
def FoundK (H' : Hp) (kd : Str) (s : Nat) (rs : List (Int × Int)) (pres D : List Int) (v : V) : Prop :=
  (v = .non ∧ ∀ X : List Int, X.Pairwise (· < ·) → (∀ p ∈ X, p ∈ pres) → ¬ stOk kd s rs D X) ∨ ∃ (C : Addr) (c : List Int), v = .ref C ∧ H' C = some (.tup (c.map V.int)) ∧ c.Pairwise (· < ·) ∧ (∀ p ∈ c, p ∈ pres) ∧ stOk kd s rs D c
theorem FoundK.ex {H H' : Hp} {kd : Str} {s : Nat} {rs : List (Int × Int)} {pres D : List Int} {v : V} (h : FoundK H kd s rs pres D v) (e : Ex H H') : FoundK H' kd s rs pres D v := by
  rcases h with h | ⟨C, c, h1, h2, h3⟩
  · exact .inl h
  · exact .inr ⟨C, c, h1, e _ _ h2, h3⟩
theorem Found.k {H' : Hp} {s : Nat} {rs : List (Int × Int)} {gs D : List Int} {v : V} (hD : D.length = s) (hF : ∀ r ∈ rs, Fits s r) (h : Found H' s rs (thL rs.length gs) D v) : FoundK H' "join" s rs (thL rs.length gs) D v := by
  have hb : ∀ {X : List Int}, (∀ p ∈ X, p ∈ thL rs.length gs) → ∀ p ∈ X, 0 ≤ p ∧ p < rs.length := fun hX p hp => (thL_mem.mp (hX p hp)).1
  rcases h with ⟨rfl, h⟩ | ⟨C, c, rfl, h1, h2, h3, h4⟩
  · exact .inl ⟨rfl, fun X hX hXs z => h X hX hXs ((joinOk_iff hD hF (hb hXs)).mp z)⟩
  · exact .inr ⟨C, c, rfl, h1, h2, h3, (joinOk_iff hD hF (hb h3)).mpr h4⟩
theorem lapOk_iff {s : Nat} {rs : List (Int × Int)} {D X : List Int} (hD : D.length = s) : stOk "lap" s rs D X ↔ ∀ j : Nat, j < s → D.getD j 0 ≤ covAt rs X j := by
  have hl : (covL s rs X).length = D.length := by unfold covL; rw [row_len, hD]
  have hg : ∀ j : Nat, j < s → (okRow "lap" (covL s rs X) D)[j]? = some (decide (D.getD j 0 ≤ covAt rs X j)) := fun j hj => by
    have h1 : (covL s rs X)[j]? = some (covAt rs X j) := row_get hj
    have h2 : D[j]? = some (D.getD j 0) := by rw [List.getD_eq_getElem?_getD, List.getElem?_eq_getElem (by omega)]; rfl
    rw [okRow_get "lap" _ _ j _ _ h1 h2]
    unfold okAt
    rw [if_pos rfl]
  unfold stOk
  constructor
  · intro h j hj
    have := List.all_eq_true.mp h _ (List.mem_of_getElem? (hg j hj))
    exact of_decide_eq_true this
  · intro h
    refine all_id_get fun j hj => ?_
    rw [okRow_len "lap" _ _ hl] at hj
    have hj' : j < s := by rw [hl, hD] at hj; exact hj
    rw [hg j hj', decide_eq_true (h j hj')]
theorem cov_mono {rs : List (Int × Int)} {X pres : List Int} (hX : X.Pairwise (· < ·)) (hp : pres.Pairwise (· < ·)) (hs : ∀ p ∈ X, p ∈ pres) (j : Int) : covAt rs X j ≤ covAt rs pres j := by
  unfold covAt
  have e : X.filter (fun p => decide ((rs.getD p.toNat (0, 0)).1 ≤ j ∧ j < (rs.getD p.toNat (0, 0)).2)) = (pres.filter fun p => decide ((rs.getD p.toNat (0, 0)).1 ≤ j ∧ j < (rs.getD p.toNat (0, 0)).2)).filter fun p => decide (p ∈ X) := by
    conv => lhs; rw [sub_filter hX hp hs]
    rw [List.filter_filter, List.filter_filter]
    exact List.filter_congr fun x _ => Bool.and_comm _ _
  rw [e]
  exact Int.ofNat_le.mpr (List.length_filter_le _ _)
section
variable {w : World} {K : PySem.W.Frag} {mg : Str → Option Value} {base : Heap}
theorem IsM.kd2 {C : Addr} {kd : Str} (h : IsM K C kd) : kd = "join" ∨ kd = "lap" := h.imp (fun z => z.2) (fun z => z.2)
theorem rep_zers (n : Nat) : (List.replicate n [V.int 0]).flatten = zers n := rep_one n _
def spAny (K : PySem.W.Frag) : Sp := fun vs H Q _ => ∃ (x A : Addr) (kd : Str) (s : Nat) (rs : List (Int × Int)) (gs D : List Int), vs = [.ref x, .ref A] ∧ GM K H x kd s rs gs ∧ D.length = s ∧ H A = some (.tup (D.map V.int)) ∧ ∀ (H' : Hp) (v : V), Ex H H' → FoundK H' kd s rs (thL rs.length gs) D v → Q v H'
theorem sc_An : FnScope ["market", "wanted", "there"] ["market", "wanted"] (defScope s_any_stock) := ⟨rfl, rfl, rfl, by decide +kernel, rfl, by decide +kernel, by decide +kernel⟩
theorem has_An (T : Ctx K mg) : Has w K mg base CX0 "any_stock" 6 ["market", "wanted"] (spAny K) := by
  obtain ⟨f1, fd1, m1, kp1, F1, b1⟩ := has_is_lap (w := w) (base := base) T
  obtain ⟨f2, fd2, m2, kp2, F2, b2⟩ := has_is_stock_of (w := w) (base := base) T
  obtain ⟨f3, fd3, m3, kp3, F3, b3⟩ := has_Ch (w := w) (base := base) T
  refine has_of (st := s_any_stock) (f := He.ga K "any_stock") T.d_any_stock T.g_any_stock (fun _ _ _ _ _ _ us hl => match us, hl with | [_, _], _ => rfl) fun fd F => ?_
  refine ok0 F sc_An (fun vs H Q E h => ?_) (fun cdv A0 outer s0 H vs Q E hr h => ?_)
  · obtain ⟨x, A, kd, s, rs, gs, D, rfl, _⟩ := h
    rfl
  · obtain ⟨x, A, kd, s, rs, gs, D, rfl, G, hD, hA, k⟩ := h
    have nd := sc_An.nd
    have r1 := hr.mono (show 1 ≤ 5 by decide)
    have r4 := hr.mono (show 4 ≤ 5 by decide)
    refine ⟨_, pss_cons (ps_if (pt_val (pe_call F1 r1 (by rfl) m1 kp1 b1 .nil pass0 (pa_cons (pv 0) pa_nil)))
        (pss_cons (ps_set (i := 2) nd rfl (.inl rfl) (pe_there T rfl rfl rfl rfl (pv 0) r1))
        (pss_one (ps_ret (pe_ifExp (pt_val (pe_call F2 r4 (by rfl) m2 kp2 b2 .nil pass0 (pa_cons (pv 0) (pa_cons (pv 1) (pa_cons (pv 2) pa_nil))))) (pv 2) pe_non)))) pss_nil)
      (pss_one (ps_ret (pe_call F3 hr (by rfl) m3 kp3 b3 .nil pass0 (pa_cons (pv 0) (pa_cons (pv 1) (pa_cons (pe_op op_rep (pe_lst (pa_cons pe_int pa_nil)) (pe_many T rfl rfl rfl rfl (pv 0) hr (by decide) rfl)) pa_nil)))))), ?_⟩
    obtain ⟨us, M⟩ := G.ob
    obtain ⟨C, dx, pr, pg, hM, h1, h2, h3⟩ := M.ob
    have hul := M.runs.len
    have few := G.few
    have sz := G.size
    refine ⟨_, rfl, x, kd, s, us, rs, gs, rfl, M, _, rfl, ?_⟩
    rcases hM.kd2 with rfl | rfl
    · refine iteF' (by decide +kernel) ?_
      refine ⟨_, rfl, _, rfl, (by show 1 ≤ sizeLine; decide), fun p hp => ?_⟩
      have e1 := Ex.new (o := .lst [V.int 0]) hp
      refine ⟨_, rfl, x, "join", s, us, rs, gs, rfl, M.ex e1, p, _, _, rfl, rfl, upd_same, by omega, by omega, sz1000 (by show 1 * _ ≤ 1000; omega), fun W hW => ?_⟩
      have e2 := e1.trans (Ex.new (o := .lst (List.replicate ((us.length : Int)).toNat [V.int 0]).flatten) hW)
      refine ⟨x, A, W, s, us, rs, gs, D, rfl, M.ex e2, by omega, by omega, G.fits, hD, e2 _ _ hA, by rw [upd_same, Int.toNat_natCast, rep_zers], fun H3 v e3 hf => ?_⟩
      rw [hul] at hf
      exact k H3 v (e2.trans e3) (hf.k hD G.fits)
    · refine iteT' (by decide +kernel) ?_
      refine ⟨_, rfl, x, "lap", s, us, rs, gs, rfl, M, x, "lap", s, us, rs, gs, rfl, M, by omega, fun H1 t e1 ht0 ht => ?_⟩
      rw [hul] at ht
      have th := thL_len rs.length gs
      refine ⟨_, rfl, _, rfl, _, rfl, x, A, t, "lap", s, us, rs, gs, D, thL rs.length gs, rfl, M.ex e1, by omega, G.fits, e1 _ _ hA, hD, ht, (fun n hn => (thL_mem.mp hn).1), by omega, fun H2 e2 => ?_⟩
      have e12 := e1.trans e2
      have hgone : ((thL rs.length gs).any fun p => decide (p ∈ gs)) = false := by
        rw [← Bool.not_eq_true, List.any_eq_true]
        rintro ⟨p, hp, hd⟩
        exact (thL_mem.mp hp).2 (of_decide_eq_true hd)
      have hst : stockB "lap" s rs gs D (thL rs.length gs) = (okRow "lap" (covL s rs (thL rs.length gs)) D).all id := by
        unfold stockB
        rw [hgone]
        rfl
      refine ⟨_, rfl, ?_⟩
      rw [hst]
      by_cases c : stOk "lap" s rs D (thL rs.length gs)
      · exact iteT' c ⟨_, rfl, k H2 _ e12 (.inr ⟨t, _, rfl, e2 _ _ ht, thL_asc _ _, (fun _ h => h), c⟩)⟩
      · refine iteF' (by rw [← Bool.not_eq_true]; exact c) (k H2 _ e12 (.inl ⟨rfl, fun X hX hXs z => c ((lapOk_iff hD).mpr fun j hj => ?_)⟩))
        exact Int.le_trans ((lapOk_iff hD).mp z j hj) (cov_mono hX (thL_asc _ _) hXs j)
def spSome (K : PySem.W.Frag) (R : Hp → Str → Nat → List (Int × Int) → List Int → List Int → V → Prop) : Sp := fun vs H Q E => ∃ (x : Addr) (v : V) (kd : Str) (s : Nat) (rs : List (Int × Int)) (gs : List Int), vs = [.ref x, v] ∧ GM K H x kd s rs gs ∧
  ((∃ D, Dem H s v D ∧ ∀ (H' : Hp) (u : V), Ex H H' → R H' kd s rs (thL rs.length gs) D u → Q u H') ∨ (∃ n, DemBad H s v n ∧ BadD K H E n))
theorem sc_So : FnScope ["market", "demand"] ["market", "demand"] (defScope s_some_stock) := ⟨rfl, rfl, rfl, by decide +kernel, rfl, by decide +kernel, by decide +kernel⟩
theorem has_So (T : Ctx K mg) : Has w K mg base (L2.CX PP w) "some_stock" 7 ["market", "demand"] (spSome K FoundK) := by
  obtain ⟨f1, fd1, m1, kp1, F1, b1⟩ := has_demand_of (w := w) (base := base) T
  obtain ⟨f2, fd2, m2, kp2, F2, b2⟩ := has_An (w := w) (base := base) T
  refine has_of (st := s_some_stock) (f := He.ga K "some_stock") T.d_some_stock T.g_some_stock (fun _ _ _ _ _ _ us hl => match us, hl with | [_, _], _ => rfl) fun fd F => ?_
  refine okX F sc_So (fun vs H Q E h => ?_) (fun cdv A0 outer s0 H vs Q E hr h => ?_)
  · obtain ⟨x, v, kd, s, rs, gs, rfl, _⟩ := h
    rfl
  · obtain ⟨x, v, kd, s, rs, gs, rfl, G, hc⟩ := h
    refine ⟨_, pss_one (ps_ret (pe_call F2 hr (by rfl) m2 kp2 b2 .nil pass0 (pa_cons (pv 0) (pa_cons (pe_call F1 (hr.mono (by decide)) (by rfl) m1 kp1 b1 .nil (E := E) (pE rfl rfl (takes_of rfl rfl rfl rfl)) (pa_cons (pv 0) (pa_cons (pv 1) pa_nil))) pa_nil)))), ?_⟩
    obtain ⟨us, M⟩ := G.ob
    have sz := G.size
    refine ⟨_, rfl, _, rfl, _, rfl, x, kd, s, us, rs, gs, v, rfl, M, by omega, ?_⟩
    rcases hc with ⟨D, hD, k⟩ | ⟨n, hn, hB⟩
    · refine .inl ⟨D, hD, fun H1 A e1 hA => ?_⟩
      exact ⟨x, A, kd, s, rs, gs, D, rfl, G.ex e1, hD.len, hA, fun H2 u e2 hf => k H2 u (e1.trans e2) hf⟩
    · exact .inr ⟨n, hn, hB⟩
/-- whether one is found -/
def HasK (_ : Hp) (kd : Str) (s : Nat) (rs : List (Int × Int)) (pres D : List Int) (u : V) : Prop := ∃ b : Bool, u = .bl b ∧ (b = true ↔ ∃ X : List Int, X.Pairwise (· < ·) ∧ (∀ p ∈ X, p ∈ pres) ∧ stOk kd s rs D X)
theorem sc_Hs : FnScope ["market", "demand"] ["market", "demand"] (defScope s_has_stock) := ⟨rfl, rfl, rfl, by decide +kernel, rfl, by decide +kernel, by decide +kernel⟩
theorem has_Hs (T : Ctx K mg) : Has w K mg base (L2.CX PP w) "has_stock" 8 ["market", "demand"] (spSome K HasK) := by
  obtain ⟨f1, fd1, m1, kp1, F1, b1⟩ := has_So (w := w) (base := base) T
  refine has_of (st := s_has_stock) (f := He.ga K "has_stock") T.d_has_stock T.g_has_stock (fun _ _ _ _ _ _ us hl => match us, hl with | [_, _], _ => rfl) fun fd F => ?_
  refine okX F sc_Hs (fun vs H Q E h => ?_) (fun cdv A0 outer s0 H vs Q E hr h => ?_)
  · obtain ⟨x, v, kd, s, rs, gs, rfl, _⟩ := h
    rfl
  · obtain ⟨x, v, kd, s, rs, gs, rfl, G, hc⟩ := h
    refine ⟨_, pss_one (ps_ret (pe_cmpR op_notN (pe_call F1 hr (by rfl) m1 kp1 b1 .nil (E := E) (pE rfl rfl (takes_of rfl rfl rfl rfl)) (pa_cons (pv 0) (pa_cons (pv 1) pa_nil))) pe_non (nomark _))), ?_⟩
    refine ⟨_, rfl, _, rfl, x, v, kd, s, rs, gs, rfl, G, ?_⟩
    rcases hc with ⟨D, hD, k⟩ | hB
    · refine .inl ⟨D, hD, fun H1 u e1 hf => ⟨rfl, ?_⟩⟩
      rcases hf with ⟨rfl, h⟩ | ⟨C, c, rfl, h1, h2, h3, h4⟩
      · exact k H1 _ e1 ⟨_, rfl, by simp; exact fun X hX hXs => h X hX hXs⟩
      · exact k H1 _ e1 ⟨_, rfl, by simp; exact ⟨c, h2, h3, h4⟩⟩
    · exact .inr hB
end
end K05


set_option Elab.async false
set_option linter.all false
set_option maxRecDepth 100000
set_option maxHeartbeats 4000000
namespace K05
open PySem PySem.Spec PyProof.Rows L2 RZ StX
open Evl (Ex)
def SeqAt2 (H : Hp) (t : Addr) (us : List V) : Prop := H t = some (.lst us) ∨ H t = some (.tup us)
theorem SeqAt2.ex {H H' : Hp} {t : Addr} {us : List V} (h : SeqAt2 H t us) (e : Ex H H') : SeqAt2 H' t us := h.imp (e _ _) (e _ _)
theorem SeqAt2.kd {H : Hp} {t : Addr} {us : List V} (h : SeqAt2 H t us) : Kd H (.ref t) := h.elim Kd.lst Kd.tup
/-- points of a row, each once -/
structure PtOk (s : Nat) (ns : List Int) : Prop where
  nd : ns.Nodup
  inn : ∀ n ∈ ns, 0 ≤ n ∧ n ≤ s
/-- no points; y is the first wrong one -/
def PtBad (H : Hp) (s : Nat) (v y : V) : Prop := (Kd H v ∧ isR v = false ∧ y = v) ∨ ∃ (a : Addr) (ns : List Int) (ys : List V), v = .ref a ∧ SeqAt2 H a (ns.map V.int ++ y :: ys) ∧ PtOk s ns ∧ Kd H y ∧ (inB y 0 s = false ∨ ∃ n ∈ ns, y = .int n)
theorem PtBad.ex {H H' : Hp} {s : Nat} {v y : V} (h : PtBad H s v y) (e : Ex H H') : PtBad H' s v y := by
  rcases h with ⟨a, b, c⟩ | ⟨a, ns, ys, rfl, h1, h2, h3, h4⟩
  · exact .inl ⟨a.ex e, b, c⟩
  · exact .inr ⟨a, ns, ys, rfl, h1.ex e, h2, h3.ex e, h4⟩
abbrev BadPt (K : PySem.W.Frag) (H : Hp) (E : XK) (y : V) : Prop := Err K "BadPoint" "point" H E y
theorem nodup_at {ns : List Int} {i : Nat} {z : Int} (hp : ns.Nodup) (h : ns[i]? = some z) : z ∉ ns.take i := nodup_new hp h
section
variable {w : World} {K : PySem.W.Frag} {mg : Str → Option Value} {base : Heap}
def spFlags (K : PySem.W.Frag) : Sp := fun vs H Q E => ∃ (x : Addr) (v : V) (kd : Str) (s : Nat) (us : List V) (rs : List (Int × Int)) (gs : List Int), vs = [.ref x, v] ∧ Mkt K H x kd s us rs gs ∧ s ≤ 30 ∧
  ((∃ a ns, v = .ref a ∧ SeqAt2 H a (ns.map V.int) ∧ PtOk s ns ∧ ∀ H' F, Ex H H' → H F = none → H' F = some (.lst (blV (s + 1) fun j => decide ((j : Int) ∈ ns))) → Q (.ref F) H') ∨ (∃ y, PtBad H s v y ∧ BadPt K H E y))
theorem sc_Pf : FnScope ["market", "points", "flags", "point"] ["market", "points"] (defScope s_point_flags) := ⟨rfl, rfl, rfl, by decide +kernel, rfl, by decide +kernel, by decide +kernel⟩
set_option maxHeartbeats 8000000 in
theorem has_Pf (T : Ctx K mg) : Has w K mg base (L2.CX PP w) "point_flags" 3 ["market", "points"] (spFlags K) := by
  obtain ⟨f1, fd1, m1, kp1, F1, b1⟩ := has_is_rowG (w := w) (base := base) T
  obtain ⟨f2, fd2, m2, kp2, F2, b2⟩ := has_is_withinG (w := w) (base := base) T
  refine has_of (st := s_point_flags) (f := He.ga K "point_flags") T.d_point_flags T.g_point_flags (fun _ _ _ _ _ _ us hl => match us, hl with | [_, _], _ => rfl) fun fd F => ?_
  refine okX F sc_Pf (fun vs H Q E h => ?_) (fun cdv A outer s0 H vs Q E hr h => ?_)
  · obtain ⟨x, v, kd, s, us, rs, gs, rfl, _⟩ := h
    rfl
  · obtain ⟨x, v, kd, s, us, rs, gs, rfl, M, hs, hcase⟩ := h
    have nd := sc_Pf.nd
    have r1 := hr.mono (show 1 ≤ 2 by decide)
    refine ⟨_, pss_cons (ps_if (pt_not (pt_val (pe_call F1 r1 (by rfl) m1 kp1 b1 .nil pass0 (pa_cons (pv 1) pa_nil)))) (pss_one (ps_raiseBadPoint (W := fun cls d _ H => E cls d H) rfl T.bo hr (takes_of rfl rfl rfl rfl) (pa_cons (pv 1) pa_nil))) pss_nil)
      (pss_cons (ps_set (i := 2) nd rfl (.inl rfl) (pe_op op_rep (pe_lst (pa_cons pe_bl pa_nil)) (pe_op op_add (pe_fld (pv 0) rfl) pe_int)))
      (pss_cons (ps_for (passes_of rfl) rfl (pi_or (pi_list (pv 1)) (pi_tup (pv 1))) (pg_name (i := 3) nd rfl (.inl rfl))
        (pss_cons (ps_if (PW.pt (pw_or (pt_not (pt_val (pe_call F2 hr (by rfl) m2 kp2 b2 .nil pass0 (pa_cons (pv 3) (pa_cons pe_int (pa_cons (pe_fld (pv 0) rfl) pa_nil)))))) (pw_or1 (pt_val (pe_ix ix_list (pv 2) (pv 3) (fun _ _ => rfl)))))) (pss_one (ps_raiseBadPoint (W := fun cls d _ H => E cls d H) rfl T.bo hr (takes_of rfl rfl rfl rfl) (pa_cons (pv 3) pa_nil))) pss_nil)
        (pss_one (ps_asg pe_bl (pg_sub (pv 2) (pv 3) set_list)))))
      (pss_one (ps_ret (pv 2))))), ?_⟩
    obtain ⟨C, dx, pr, pg, hM, h1, h2, h3⟩ := M.ob
    by_cases hn : isR v = false
    · rcases hcase with ⟨a, ns, rfl, _⟩ | ⟨y, hb, hB⟩
      · cases hn
      · rcases hb with ⟨hK, _, rfl⟩ | ⟨a, ns, ys, rfl, _⟩
        · refine ⟨_, rfl, _, rfl, hK, fun H1 e1 => ⟨isR y, rfl, ?_⟩⟩
          rw [hn]
          exact iteT ⟨_, rfl, _, rfl, fun d hd => hB.go e1 hd⟩
        · cases hn
    obtain ⟨a, ns, rest, rfl, hA, hP, hrest⟩ : ∃ (a : Addr) (ns : List Int) (rest : List V), v = .ref a ∧ SeqAt2 H a (ns.map V.int ++ rest) ∧ PtOk s ns ∧
        ((rest = [] ∧ ∀ H' F, Ex H H' → H F = none → H' F = some (.lst (blV (s + 1) fun j => decide ((j : Int) ∈ ns))) → Q (.ref F) H') ∨ (∃ y ys, rest = y :: ys ∧ Kd H y ∧ (inB y 0 s = false ∨ ∃ n ∈ ns, y = .int n) ∧ BadPt K H E y)) := by
      rcases hcase with ⟨a, ns, rfl, hA, hP, k⟩ | ⟨y, hb, hB⟩
      · exact ⟨a, ns, [], rfl, by rw [List.append_nil]; exact hA, hP, .inl ⟨rfl, k⟩⟩
      · rcases hb with ⟨_, h, _⟩ | ⟨a, ns, ys, rfl, hA, hP, hK, hb⟩
        · exact absurd h hn
        · exact ⟨a, ns, y :: ys, rfl, hA, hP, .inr ⟨y, ys, rfl, hK, hb, hB⟩⟩
    refine ⟨_, rfl, _, rfl, hA.kd, fun H1 e1 => ⟨true, rfl, iteF ?_⟩⟩
    refine ⟨(by show 1 ≤ sizeLine; decide), fun p1 hp1 => ?_⟩
    have e2 := e1.trans (Ex.new (o := .lst [V.bl false]) hp1)
    refine ⟨_, rfl, x, C, dx, _, _, rfl, e2 _ _ h1, hM.cl T, hM.nS T, mf_size _ _ _, _, _, rfl, rfl, p1, _, _, rfl, rfl, upd_same, by omega, by omega, sz1000 (by show 1 * ((s : Int) + 1).toNat ≤ 1000; omega), fun P hP3 => ?_⟩
    have e3 := e2.trans (Ex.new (o := .lst (List.replicate (((s : Int) + 1)).toNat [V.bl false]).flatten) hP3)
    have hP0 : H P = none := Evl.fresh_back e2 hP3
    have hF3 : upd (upd H1 p1 (.lst [V.bl false])) P (.lst (List.replicate (((s : Int) + 1)).toNat [V.bl false]).flatten) P = some (.lst (blV (s + 1) fun j => decide ((j : Int) ∈ ns.take 0))) := by
      rw [upd_same, rep_one, show ((s : Int) + 1).toNat = s + 1 by omega]
      congr 2
      apply List.ext_getElem?
      intro i
      by_cases c : i < s + 1
      · rw [blV_get c, List.getElem?_replicate, if_pos c]
        simp
      · rw [List.getElem?_eq_none (by rw [List.length_replicate]; omega), List.getElem?_eq_none (by rw [blV_len]; omega)]
    generalize upd (upd H1 p1 (.lst [V.bl false])) P (.lst (List.replicate (((s : Int) + 1)).toNat [V.bl false]).flatten) = H3 at *
    rcases hA with ha | ha
    · refine .inl ⟨_, rfl, a, rfl, ⟨_, SqL.of (e3 _ _ ha)⟩, for_it walk_list (fun i σ H' => i ≤ ns.length ∧ ∃ v3 : Option V, σ = [some (.ref x), some (.ref a), some (.ref P), v3] ∧ Ex H H' ∧ H' P = some (.lst (blV (s + 1) fun j => decide ((j : Int) ∈ ns.take i)))) ⟨Nat.zero_le _, _, rfl, e3, hF3⟩ (fun i σ H' _ ⟨_, _, _, e, _⟩ => SqL.of (e _ _ ha)) ?_ ?_⟩
      · rintro i u σ H5 H4 hi ⟨hin, v3, rfl, e4, hF4⟩ ⟨rfl, hu⟩
        by_cases ci : i < ns.length
        · have hy' : (ns.map V.int)[i]? = some u := by
            have hy2 : (ns.map V.int ++ rest)[i]? = some u := hu
            rw [List.getElem?_append_left (by rw [List.length_map]; exact ci)] at hy2
            exact hy2
          obtain ⟨z, hz, rfl⟩ := map_int_get hy'
          have hzb := hP.inn z (List.mem_of_getElem? hz)
          have hnew := nodup_at hP.nd hz
          obtain ⟨m, rfl⟩ : ∃ m : Nat, z = m := ⟨z.toNat, by omega⟩
          have hm : m < s + 1 := by omega
          refine ⟨_, rfl, _, rfl, x, C, dx, _, _, rfl, e4 _ _ h1, hM.cl T, hM.nS T, mf_size _ _ _, .int (m : Int), 0, s, rfl, .int _, inB (.int (m : Int)) 0 s, rfl, ?_⟩
          refine iteF' (by rw [show inB (.int (m : Int)) 0 s = true from decide_eq_true (by omega)]; rfl) ?_
          refine ⟨_, rfl, _, rfl, P, _, _, _, rfl, rfl, SqL.of hF4, atI_nat (blV_get hm), _, rfl, iteF' (decide_eq_false hnew) ?_⟩
          refine ⟨_, rfl, _, rfl, P, _, (m : Int), m, rfl, rfl, hF4, Evl.ixN_nat (by rw [blV_len]; exact hm), ?_⟩
          refine ⟨ci, _, rfl, Evl.Ex.mut e4 hP0, ?_⟩
          rw [upd_same, blV_set hm]
          congr 3
          funext j
          unfold addR
          apply Bool.eq_iff_iff.mpr
          rw [Bool.or_eq_true, decide_eq_true_iff, decide_eq_true_iff, decide_eq_true_iff, List.take_add_one, hz, List.mem_append]
          simp
          constructor
          · rintro (q | q)
            · exact .inl q
            · exact .inr (by omega)
          · rintro (q | q)
            · exact .inl q
            · exact .inr (by omega)
        · have hie : i = ns.length := by omega
          subst hie
          rcases hrest with ⟨rfl, _⟩ | ⟨y, ys, rfl, hK, hb, hB⟩
          · have hi2 : ns.length < (ns.map V.int ++ ([] : List V)).length := hi
            rw [List.length_append, List.length_map] at hi2
            exact absurd hi2 (by simp)
          have hyy : u = y := by
            have hy2 : (ns.map V.int ++ y :: ys)[ns.length]? = some u := hu
            rw [List.getElem?_append_right (by rw [List.length_map]; exact Nat.le_refl _), List.length_map, Nat.sub_self] at hy2
            exact (Option.some.inj hy2).symm
          subst hyy
          rw [List.take_length] at hF4
          refine ⟨_, rfl, _, rfl, x, C, dx, _, _, rfl, e4 _ _ h1, hM.cl T, hM.nS T, mf_size _ _ _, u, 0, s, rfl, hK.ex e4, inB u 0 s, rfl, ?_⟩
          cases cb : inB u 0 s with
          | false => exact iteT' rfl ⟨_, rfl, _, rfl, fun d hd => hB.go e4 hd⟩
          | true =>
            refine iteF' rfl ?_
            rcases hb with z | ⟨n, hn, rfl⟩
            · rw [cb] at z; cases z
            · have hnb := hP.inn n hn
              obtain ⟨m, rfl⟩ : ∃ m : Nat, n = m := ⟨n.toNat, by omega⟩
              exact ⟨_, rfl, _, rfl, P, _, _, _, rfl, rfl, SqL.of hF4, atI_nat (blV_get (by omega)), _, rfl, iteT' (decide_eq_true hn) ⟨_, rfl, _, rfl, fun d hd => hB.go e4 hd⟩⟩
      · rintro σ H4 ⟨hin, v3, rfl, e4, hF4⟩
        rcases hrest with ⟨rfl, k⟩ | ⟨y, ys, rfl, _⟩
        · rw [List.append_nil, List.length_map, List.take_length] at hF4
          exact ⟨_, rfl, k H4 P e4 hP0 hF4⟩
        · rw [List.length_append, List.length_map, List.length_cons] at hin
          omega
    · refine .inr ⟨_, rfl, a, rfl, ⟨_, SqT.of (e3 _ _ ha)⟩, for_it walk_tup (fun i σ H' => i ≤ ns.length ∧ ∃ v3 : Option V, σ = [some (.ref x), some (.ref a), some (.ref P), v3] ∧ Ex H H' ∧ H' P = some (.lst (blV (s + 1) fun j => decide ((j : Int) ∈ ns.take i)))) ⟨Nat.zero_le _, _, rfl, e3, hF3⟩ (fun i σ H' _ ⟨_, _, _, e, _⟩ => SqT.of (e _ _ ha)) ?_ ?_⟩
      · rintro i u σ H5 H4 hi ⟨hin, v3, rfl, e4, hF4⟩ ⟨rfl, hu⟩
        by_cases ci : i < ns.length
        · have hy' : (ns.map V.int)[i]? = some u := by
            have hy2 : (ns.map V.int ++ rest)[i]? = some u := hu
            rw [List.getElem?_append_left (by rw [List.length_map]; exact ci)] at hy2
            exact hy2
          obtain ⟨z, hz, rfl⟩ := map_int_get hy'
          have hzb := hP.inn z (List.mem_of_getElem? hz)
          have hnew := nodup_at hP.nd hz
          obtain ⟨m, rfl⟩ : ∃ m : Nat, z = m := ⟨z.toNat, by omega⟩
          have hm : m < s + 1 := by omega
          refine ⟨_, rfl, _, rfl, x, C, dx, _, _, rfl, e4 _ _ h1, hM.cl T, hM.nS T, mf_size _ _ _, .int (m : Int), 0, s, rfl, .int _, inB (.int (m : Int)) 0 s, rfl, ?_⟩
          refine iteF' (by rw [show inB (.int (m : Int)) 0 s = true from decide_eq_true (by omega)]; rfl) ?_
          refine ⟨_, rfl, _, rfl, P, _, _, _, rfl, rfl, SqL.of hF4, atI_nat (blV_get hm), _, rfl, iteF' (decide_eq_false hnew) ?_⟩
          refine ⟨_, rfl, _, rfl, P, _, (m : Int), m, rfl, rfl, hF4, Evl.ixN_nat (by rw [blV_len]; exact hm), ?_⟩
          refine ⟨ci, _, rfl, Evl.Ex.mut e4 hP0, ?_⟩
          rw [upd_same, blV_set hm]
          congr 3
          funext j
          unfold addR
          apply Bool.eq_iff_iff.mpr
          rw [Bool.or_eq_true, decide_eq_true_iff, decide_eq_true_iff, decide_eq_true_iff, List.take_add_one, hz, List.mem_append]
          simp
          constructor
          · rintro (q | q)
            · exact .inl q
            · exact .inr (by omega)
          · rintro (q | q)
            · exact .inl q
            · exact .inr (by omega)
        · have hie : i = ns.length := by omega
          subst hie
          rcases hrest with ⟨rfl, _⟩ | ⟨y, ys, rfl, hK, hb, hB⟩
          · have hi2 : ns.length < (ns.map V.int ++ ([] : List V)).length := hi
            rw [List.length_append, List.length_map] at hi2
            exact absurd hi2 (by simp)
          have hyy : u = y := by
            have hy2 : (ns.map V.int ++ y :: ys)[ns.length]? = some u := hu
            rw [List.getElem?_append_right (by rw [List.length_map]; exact Nat.le_refl _), List.length_map, Nat.sub_self] at hy2
            exact (Option.some.inj hy2).symm
          subst hyy
          rw [List.take_length] at hF4
          refine ⟨_, rfl, _, rfl, x, C, dx, _, _, rfl, e4 _ _ h1, hM.cl T, hM.nS T, mf_size _ _ _, u, 0, s, rfl, hK.ex e4, inB u 0 s, rfl, ?_⟩
          cases cb : inB u 0 s with
          | false => exact iteT' rfl ⟨_, rfl, _, rfl, fun d hd => hB.go e4 hd⟩
          | true =>
            refine iteF' rfl ?_
            rcases hb with z | ⟨n, hn, rfl⟩
            · rw [cb] at z; cases z
            · have hnb := hP.inn n hn
              obtain ⟨m, rfl⟩ : ∃ m : Nat, n = m := ⟨n.toNat, by omega⟩
              exact ⟨_, rfl, _, rfl, P, _, _, _, rfl, rfl, SqL.of hF4, atI_nat (blV_get (by omega)), _, rfl, iteT' (decide_eq_true hn) ⟨_, rfl, _, rfl, fun d hd => hB.go e4 hd⟩⟩
      · rintro σ H4 ⟨hin, v3, rfl, e4, hF4⟩
        rcases hrest with ⟨rfl, k⟩ | ⟨y, ys, rfl, _⟩
        · rw [List.append_nil, List.length_map, List.take_length] at hF4
          exact ⟨_, rfl, k H4 P e4 hP0 hF4⟩
        · rw [List.length_append, List.length_map, List.length_cons] at hin
          omega
end
end K05


set_option Elab.async false
set_option linter.all false
set_option maxRecDepth 100000
set_option maxHeartbeats 4000000
namespace K05
open PySem PySem.Spec PyProof.Rows L2 RZ StX
open Evl (Ex)
theorem rgV_upto (n : Nat) : rgV 0 (n : Int) = (upto n).map V.int := by
  unfold rgV upto
  rw [show ((n : Int) - 0).toNat = n by omega, List.map_map]
  apply List.map_congr_left
  intro i _
  show V.int (0 + (i : Int)) = V.int i
  rw [Int.zero_add]
/-- parts with their runs -/
structure EndsL (H : Hp) (ws : List V) (qs : List (Int × Int × Int)) : Prop where
  len : ws.length = qs.length
  at_ : ∀ (i : Nat) (q : Int × Int × Int), qs[i]? = some q → ∃ (t tr : Addr), ws[i]? = some (V.ref t) ∧ H t = some (.tup [.int q.1, .ref tr]) ∧ H tr = some (.tup [.int q.2.1, .int q.2.2])
theorem EndsL.nil {H : Hp} : EndsL H [] [] := ⟨rfl, fun i r h => by simp at h⟩
theorem EndsL.mono {H H' : Hp} {ws : List V} {qs : List (Int × Int × Int)} (h : EndsL H ws qs) (e : ∀ t xs, H t = some (.tup xs) → H' t = some (.tup xs)) : EndsL H' ws qs :=
  ⟨h.len, fun i r hi => let ⟨t, tr, a, b, c⟩ := h.at_ i r hi; ⟨t, tr, a, e _ _ b, e _ _ c⟩⟩
theorem EndsL.ex {H H' : Hp} {ws : List V} {qs : List (Int × Int × Int)} (h : EndsL H ws qs) (e : Ex H H') : EndsL H' ws qs := h.mono fun _ _ q => e _ _ q
theorem EndsL.snoc {H : Hp} {ws : List V} {qs : List (Int × Int × Int)} {t tr : Addr} {q : Int × Int × Int} (h : EndsL H ws qs) (ht : H t = some (.tup [.int q.1, .ref tr])) (hr : H tr = some (.tup [.int q.2.1, .int q.2.2])) : EndsL H (ws ++ [.ref t]) (qs ++ [q]) := by
  refine ⟨by simp [h.len], fun i r hi => ?_⟩
  by_cases c : i < qs.length
  · rw [List.getElem?_append_left c] at hi
    obtain ⟨t', tr', a, b, d⟩ := h.at_ i r hi
    exact ⟨t', tr', by rw [List.getElem?_append_left (by rw [h.len]; exact c)]; exact a, b, d⟩
  · rw [List.getElem?_append_right (by omega)] at hi
    have hz : i - qs.length = 0 := by
      have := (List.getElem?_eq_some_iff.mp hi).1
      simp at this
      omega
    rw [hz] at hi
    cases hi
    exact ⟨t, tr, by rw [List.getElem?_append_right (by rw [h.len]; omega), h.len, hz]; rfl, ht, hr⟩
theorem EndsL.get {H : Hp} {ws : List V} {qs : List (Int × Int × Int)} (h : EndsL H ws qs) {i : Nat} {v : V} (hv : ws[i]? = some v) : ∃ t tr q, qs[i]? = some q ∧ v = .ref t ∧ H t = some (.tup [.int q.1, .ref tr]) ∧ H tr = some (.tup [.int q.2.1, .int q.2.2]) := by
  have hi : i < qs.length := by
    rw [← h.len]
    exact (List.getElem?_eq_some_iff.mp hv).1
  obtain ⟨t, tr, a, b, c⟩ := h.at_ i _ (List.getElem?_eq_getElem hi)
  rw [hv] at a
  exact ⟨t, tr, _, List.getElem?_eq_getElem hi, Option.some.inj a, b, c⟩
theorem rn_mem {rs : List (Int × Int)} {p : Int} (h0 : 0 ≤ p) (h1 : p < rs.length) : rn rs p ∈ rs := by
  unfold rn
  rw [List.getD_eq_getElem?_getD, List.getElem?_eq_getElem (show p.toNat < rs.length by omega)]
  exact List.getElem_mem _
def endQ (rs : List (Int × Int)) (p : Int) : Int × Int × Int := (p, rn rs p)
section
variable {w : World} {K : PySem.W.Frag} {mg : Str → Option Value} {base : Heap}
def spUpTo : Sp := fun vs H Q _ => ∃ n : Nat, vs = [.int n] ∧ n ≤ 1000 ∧ ∀ (H' : Hp) (q : Addr), Ex H H' → H q = none → H' q = some (.tup ((upto (n + 1)).map V.int)) → Q (.ref q) H'
theorem sc_Up : FnScope ["place"] ["place"] (defScope s_points_up_to) := ⟨rfl, rfl, rfl, by decide +kernel, rfl, by decide +kernel, by decide +kernel⟩
theorem has_Up (T : Ctx K mg) : Has w K mg base CX0 "points_up_to" 1 ["place"] spUpTo := by
  refine has_of (st := s_points_up_to) (f := He.ga K "points_up_to") T.d_points_up_to T.g_points_up_to (fun _ _ _ _ _ _ us hl => match us, hl with | [_], _ => rfl) fun fd F => ?_
  refine ok0 F sc_Up (fun vs H Q E h => ?_) (fun cdv A outer s0 H vs Q E hr h => ?_)
  · obtain ⟨n, rfl, _⟩ := h
    rfl
  · obtain ⟨n, rfl, hn, k⟩ := h
    refine ⟨_, pss_one (ps_ret (pe_tupRg (by rfl) (by rfl) T.b_tuple (prg_1 (by rfl) T.b_range (pe_op op_add (pv 0) pe_int)))), ?_⟩
    refine ⟨_, rfl, _, _, rfl, rfl, _, rfl, RgOk.of_le (by omega) (by omega) (by omega) (by omega), fun q hq => ?_⟩
    refine k _ q (Ex.new hq) hq ?_
    rw [upd_same, show ((n : Int) + 1) = ((n + 1 : Nat) : Int) by omega, rgV_upto]
abbrev nLv : List Str := ["market", "points", "flags", "ends", "part", "begin", "end"]
def spLeave (K : PySem.W.Frag) : Sp := fun vs H Q E => ∃ (x : Addr) (v : V) (kd : Str) (s : Nat) (us : List V) (rs : List (Int × Int)) (gs : List Int), vs = [.ref x, v] ∧ Mkt K H x kd s us rs gs ∧ s ≤ 30 ∧ us.length ≤ 50 ∧ (∀ r ∈ rs, Fits s r) ∧
  ((∃ a ns, v = .ref a ∧ SeqAt2 H a (ns.map V.int) ∧ PtOk s ns ∧ ∀ H' F, Ex H H' → H' F = some (.tup (((thL us.length gs).filter (lvB rs ns)).map V.int)) → Q (.ref F) H') ∨ (∃ y, PtBad H s v y ∧ BadPt K H E y))
theorem sc_Lv : FnScope nLv ["market", "points"] (defScope s_leaving) := ⟨rfl, rfl, rfl, by decide +kernel, rfl, by decide +kernel, by decide +kernel⟩
set_option maxHeartbeats 8000000 in
theorem has_Lv (T : Ctx K mg) : Has w K mg base (L2.CX PP w) "leaving" 4 ["market", "points"] (spLeave K) := by
  obtain ⟨f1, fd1, m1, kp1, F1, b1⟩ := has_Pf (w := w) (base := base) T
  refine has_of (st := s_leaving) (f := He.ga K "leaving") T.d_leaving T.g_leaving (fun _ _ _ _ _ _ us hl => match us, hl with | [_, _], _ => rfl) fun fd F => ?_
  refine okX F sc_Lv (fun vs H Q E h => ?_) (fun cdv A outer s0 H vs Q E hr h => ?_)
  · obtain ⟨x, v, kd, s, us, rs, gs, rfl, _⟩ := h
    rfl
  · obtain ⟨x, v, kd, s, us, rs, gs, rfl, M, hs, hus, hF, hcase⟩ := h
    have nd := sc_Lv.nd
    have r1 := hr.mono (show 1 ≤ 3 by decide)
    refine ⟨_, pss_cons (ps_set (i := 2) nd rfl (.inr rfl) (pe_call F1 hr (by rfl) m1 kp1 b1 .nil (E := E) (pE rfl rfl (takes_of rfl rfl rfl rfl)) (pa_cons (pv 0) (pa_cons (pv 1) pa_nil))))
      (pss_cons (ps_setLc (i := 3) (own := [("part", 4)]) (g := gName 4) (tt := tYes) rfl nd rfl rfl (by rfl) (pi_tup (pe_there T rfl rfl rfl rfl (pv 0) r1)) (blkOk_by (own := [("part", 4)]) (N := nLv) (sc := defScope s_leaving) (by decide +kernel))
          (fun _ _ _ _ _ => pg_name (i := 4) nd rfl (Or.inl rfl)) (fun _ _ _ _ _ => pts_nil) (fun _ _ _ _ _ => pe_tup (pa_cons (pv 4) (pa_cons (pe_ix (ix_tupK (K := K) rfl) (pe_fldK (K := K) rfl (pv 0) rfl) (pv 4) (fun _ _ => rfl)) pa_nil))))
      (pss_one (ps_ret (pe_callTy call_tuple_of (by rfl) T.b_tuple (by decide +kernel) (pa_cons
        (pe_lc (own := [("part", 4), ("begin", 5), ("end", 6)]) (g := gTup K 2 (gCons (gName 4) (gCons (gTup K 2 (gCons (gName 5) (gCons (gName 6) gNil))) gNil))) rfl nd (pi_list (pv 3)) (blkOk_by (own := [("part", 4), ("begin", 5), ("end", 6)]) (N := nLv) (sc := defScope s_leaving) (by decide +kernel))
          (fun _ _ _ _ _ => gTupK rfl (pg_tup (by rfl) (pgs_cons (pg_name (i := 4) nd rfl (.inl rfl)) (pgs_cons (gTupK rfl (pg_tup (by rfl) (pgs_cons (pg_name (i := 5) nd rfl (.inl rfl)) (pgs_cons (pg_name (i := 6) nd rfl (.inl rfl)) pgs_nil)))) pgs_nil))))
          (fun _ _ _ _ _ => pts_one (PW.pt (pw_and (pt_val (pe_ix (ix_listK (K := K) rfl) (pv 2) (pv 5) (fun _ _ => rfl))) (pw_and1 (pt_not (pt_val (pe_ix (ix_listK (K := K) rfl) (pv 2) (pv 6) (fun _ _ => rfl))))))))
          (fun _ _ _ _ _ => pv 4)) pa_nil))))), ?_⟩
    obtain ⟨C, dx, pr, pg, hM, h1, h2, h3⟩ := M.ob
    have thl := thL_len us.length gs
    refine ⟨_, rfl, _, rfl, x, v, kd, s, us, rs, gs, rfl, M, hs, ?_⟩
    rcases hcase with ⟨a, ns, rfl, hA, hP, k⟩ | hb
    · refine .inl ⟨a, ns, rfl, hA, hP, fun H1 F e1 hF0 hF1 => ?_⟩
      refine ⟨_, rfl, x, kd, s, us, rs, gs, rfl, M.ex e1, x, kd, s, us, rs, gs, rfl, M.ex e1, by omega, fun H2 p e2 hp hp2 => ?_⟩
      have e12 := e1.trans e2
      have hF2 := e2 _ _ hF1
      refine ⟨p, rfl, ⟨_, SqT.of hp2⟩, fun L hL => lc_it walk_tup (fun i H' => Ex H H' ∧ H' p = some (.tup ((thL us.length gs).map V.int)) ∧ H' F = some (.lst (blV (s + 1) fun j => decide ((j : Int) ∈ ns))) ∧ ∃ ws, H' L = some (.lst ws) ∧ EndsL H' ws (((thL us.length gs).take i).map (endQ rs))) ⟨e12.trans (Ex.new hL), (Ex.new hL) _ _ hp2, (Ex.new hL) _ _ hF2, [], upd_same, EndsL.nil⟩ (fun i H' _ q => SqT.of q.2.1) ?_ ?_⟩
      · rintro i u H3 H4 hi ⟨e4, hp4, hF4, ws, hL4, hT⟩ ⟨rfl, hx⟩
        have hL0 : H L = none := Evl.fresh_back e12 hL
        obtain ⟨z, hz, rfl⟩ := map_int_get hx
        have hzm := thL_mem.mp (List.mem_of_getElem? hz)
        obtain ⟨m, rfl⟩ : ∃ m : Nat, z = m := ⟨z.toNat, by omega⟩
        have hn1 : m < us.length := by omega
        obtain ⟨t, r, hr', ev, ht⟩ := (M.runs.ex e4).get (List.getElem?_eq_getElem hn1)
        have hix : atI us (m : Int) = some (.ref t) := by
          have := List.getElem?_eq_getElem hn1
          rw [ev] at this
          exact atI_nat this
        have hrn : rn rs (m : Int) = r := by
          unfold rn
          rw [Int.toNat_natCast, List.getD_eq_getElem?_getD, hr']
          rfl
        have hil : i < (thL us.length gs).length := (List.getElem?_eq_some_iff.mp hz).1
        have hwl : ws.length < 60 := by
          rw [hT.len, List.length_map, List.length_take]
          omega
        have hLp : L ≠ p := fun y => by rw [← y, hL4] at hp4; cases hp4
        have hLF : L ≠ F := Ne.symm (ne_of_none hF2 hL)
        refine ⟨rfl, tYesI ?_⟩
        refine ⟨_, rfl, _, rfl, x, C, dx, _, _, rfl, e4 _ _ h1, hM.cl T, hM.nR T, mf_runs _ _ _, _, rfl, pr, us, _, _, rfl, rfl, SqT.of (e4 _ _ h2), hix, (by show 2 ≤ sizeLine; decide), fun tt htt => ?_⟩
        have e5 := Ex.new (o := .tup [.int (m : Int), .ref t]) htt
        refine ⟨_, e5 _ _ hL4, small1000 (by omega), Evl.Ex.mut (e4.trans e5) hL0, by rw [upd_ne (Ne.symm hLp)]; exact e5 _ _ hp4, by rw [upd_ne (Ne.symm hLF)]; exact e5 _ _ hF4, _, upd_same, ?_⟩
        rw [List.take_add_one, hz, List.map_append]
        refine EndsL.snoc (q := endQ rs (m : Int)) (tr := t) (hT.mono fun t' xs h' => ?_) ?_ ?_
        · rw [upd_ne (ne_of h' hL4 (by intro y; cases y))]
          exact e5 _ _ h'
        · rw [upd_ne (fun y => by rw [y, hL4] at htt; cases htt), upd_same]
          rfl
        · rw [upd_ne (ne_of ht hL4 (by intro y; cases y)), e5 _ _ ht]
          unfold endQ
          rw [hrn]
      rintro H3 ⟨e3, hp3, hF3, ws, hL3, hT3⟩
      rw [List.length_map, List.take_length] at hT3
      have hwl3 := hT3.len
      rw [List.length_map] at hwl3
      refine ⟨_, rfl, L, rfl, ⟨_, SqL.of hL3⟩, fun P hP => lc_it walk_list (fun i H' => Ex H H' ∧ H' L = some (.lst ws) ∧ EndsL H' ws ((thL us.length gs).map (endQ rs)) ∧ H' F = some (.lst (blV (s + 1) fun j => decide ((j : Int) ∈ ns))) ∧ H' P = some (.lst ((((thL us.length gs).take i).filter (lvB rs ns)).map V.int))) ⟨e3.trans (Ex.new hP), (Ex.new hP) _ _ hL3, hT3.ex (Ex.new hP), (Ex.new hP) _ _ hF3, upd_same⟩ (fun i H' _ q => SqL.of q.2.1) ?_ ?_⟩
      · rintro i u H5 H4 hi ⟨e4, hL4, hT4, hF4, hP4⟩ ⟨rfl, hx⟩
        have hP0 : H P = none := Evl.fresh_back e3 hP
        have hPL : P ≠ L := Ne.symm (ne_of_none hL3 hP)
        have hPF : P ≠ F := Ne.symm (ne_of_none hF3 hP)
        obtain ⟨t, tr, q, hq, rfl, ht, htr⟩ := hT4.get hx
        rw [List.getElem?_map] at hq
        obtain ⟨z, hz, rfl⟩ : ∃ z, (thL us.length gs)[i]? = some z ∧ endQ rs z = q := by
          cases y : (thL us.length gs)[i]? with
          | none => rw [y] at hq; cases hq
          | some a => rw [y] at hq; exact ⟨a, rfl, Option.some.inj hq⟩
        have hzm := thL_mem.mp (List.mem_of_getElem? hz)
        have hil : i < (thL us.length gs).length := (List.getElem?_eq_some_iff.mp hz).1
        have hfit : Fits s (rn rs z) := hF _ (rn_mem hzm.1.1 (by have := M.runs.len; omega))
        obtain ⟨f0, f1, f2⟩ := hfit
        obtain ⟨b, hb⟩ : ∃ b : Nat, (rn rs z).1 = (b : Int) := ⟨(rn rs z).1.toNat, by omega⟩
        obtain ⟨e, he⟩ : ∃ e : Nat, (rn rs z).2 = (e : Int) := ⟨(rn rs z).2.toNat, by omega⟩
        have hbs : b < s + 1 := by omega
        have hes : e < s + 1 := by omega
        have gb := atI_nat (blV_get (R := fun j => decide ((j : Int) ∈ ns)) hbs)
        have ge := atI_nat (blV_get (R := fun j => decide ((j : Int) ∈ ns)) hes)
        refine ⟨t, _, rfl, SqT.of ht, rfl, _, _, rfl, _, _, rfl, tr, _, rfl, SqT.of htr, rfl, _, _, rfl, _, _, rfl, rfl, rfl, rfl, ?_⟩
        have fin : ∀ b' : Bool, lvB rs ns z = b' → (if b' = true then (Ex H (upd H4 P (.lst ((((thL us.length gs).take i).filter (lvB rs ns)).map V.int ++ [V.int z]))) ∧ upd H4 P (.lst ((((thL us.length gs).take i).filter (lvB rs ns)).map V.int ++ [V.int z])) L = some (.lst ws) ∧ EndsL (upd H4 P (.lst ((((thL us.length gs).take i).filter (lvB rs ns)).map V.int ++ [V.int z]))) ws ((thL us.length gs).map (endQ rs)) ∧ upd H4 P (.lst ((((thL us.length gs).take i).filter (lvB rs ns)).map V.int ++ [V.int z])) F = some (.lst (blV (s + 1) fun j => decide ((j : Int) ∈ ns))) ∧ upd H4 P (.lst ((((thL us.length gs).take i).filter (lvB rs ns)).map V.int ++ [V.int z])) P = some (.lst ((((thL us.length gs).take (i + 1)).filter (lvB rs ns)).map V.int))) else H4 P = some (.lst ((((thL us.length gs).take (i + 1)).filter (lvB rs ns)).map V.int))) := by
          rintro b' rfl
          have tk : ((thL us.length gs).take (i + 1)).filter (lvB rs ns) = ((thL us.length gs).take i).filter (lvB rs ns) ++ (if lvB rs ns z = true then [z] else []) := by
            rw [List.take_add_one, hz, List.filter_append]
            congr 1
            show [z].filter _ = _
            rw [List.filter_cons, List.filter_nil]
          rw [tk]
          by_cases c : lvB rs ns z = true
          · rw [if_pos c, if_pos c]
            refine ⟨Evl.Ex.mut e4 hP0, by rw [upd_ne (Ne.symm hPL)]; exact hL4, hT4.mono fun t' xs h' => ?_, by rw [upd_ne (Ne.symm hPF)]; exact hF4, ?_⟩
            · rw [upd_ne (ne_of h' hP4 (by intro y; cases y))]
              exact h'
            · rw [upd_same, List.map_append]
              rfl
          · rw [if_neg c, if_neg c, List.append_nil]
            exact hP4
        have hsz : (((thL us.length gs).take i).filter (lvB rs ns)).length < 900 := Nat.lt_of_le_of_lt (List.length_filter_le _ _) (by rw [List.length_take]; omega)
        have hB : lvB rs ns z = (decide ((b : Int) ∈ ns) && !decide ((e : Int) ∈ ns)) := by
          unfold lvB
          rw [hb, he]
        refine ⟨_, rfl, _, rfl, F, _, _, _, rfl, congrArg V.int hb, SqL.of hF4, gb, _, rfl, ?_⟩
        cases c1 : decide ((b : Int) ∈ ns) with
        | false =>
          have := fin false (by rw [hB, c1]; rfl)
          exact iteF' rfl ⟨e4, hL4, hT4, hF4, this⟩
        | true =>
          refine iteT' rfl ?_
          refine ⟨_, rfl, _, rfl, F, _, _, _, rfl, congrArg V.int he, SqL.of hF4, ge, _, rfl, ?_⟩
          cases c2 : decide ((e : Int) ∈ ns) with
          | true =>
            have := fin false (by rw [hB, c1, c2]; rfl)
            exact iteF' rfl ⟨e4, hL4, hT4, hF4, this⟩
          | false =>
            have := fin true (by rw [hB, c1, c2]; rfl)
            exact iteT' rfl ⟨_, rfl, _, hP4, by rw [List.length_map]; exact small1000 (by omega), this⟩
      rintro H4 ⟨e4, hL4, hT4, hF4, hP4⟩
      rw [hwl3, List.take_length] at hP4
      exact ⟨P, _, rfl, .inl ⟨SqL.of hP4, fun l hl2 => k _ l (e4.trans (Ex.new hl2)) upd_same⟩⟩
    · exact .inr hb
abbrev nEn : List Str := ["market", "points", "flags", "ends", "part", "begin", "end"]
def spEnter (K : PySem.W.Frag) : Sp := fun vs H Q E => ∃ (x : Addr) (v : V) (kd : Str) (s : Nat) (us : List V) (rs : List (Int × Int)) (gs : List Int), vs = [.ref x, v] ∧ Mkt K H x kd s us rs gs ∧ s ≤ 30 ∧ us.length ≤ 50 ∧ (∀ r ∈ rs, Fits s r) ∧
  ((∃ a ns, v = .ref a ∧ SeqAt2 H a (ns.map V.int) ∧ PtOk s ns ∧ ∀ H' F, Ex H H' → H' F = some (.tup (((thL us.length gs).filter (enB rs ns)).map V.int)) → Q (.ref F) H') ∨ (∃ y, PtBad H s v y ∧ BadPt K H E y))
theorem sc_En : FnScope nEn ["market", "points"] (defScope s_entering) := ⟨rfl, rfl, rfl, by decide +kernel, rfl, by decide +kernel, by decide +kernel⟩
set_option maxHeartbeats 8000000 in
theorem has_En (T : Ctx K mg) : Has w K mg base (L2.CX PP w) "entering" 4 ["market", "points"] (spEnter K) := by
  obtain ⟨f1, fd1, m1, kp1, F1, b1⟩ := has_Pf (w := w) (base := base) T
  refine has_of (st := s_entering) (f := He.ga K "entering") T.d_entering T.g_entering (fun _ _ _ _ _ _ us hl => match us, hl with | [_, _], _ => rfl) fun fd F => ?_
  refine okX F sc_En (fun vs H Q E h => ?_) (fun cdv A outer s0 H vs Q E hr h => ?_)
  · obtain ⟨x, v, kd, s, us, rs, gs, rfl, _⟩ := h
    rfl
  · obtain ⟨x, v, kd, s, us, rs, gs, rfl, M, hs, hus, hF, hcase⟩ := h
    have nd := sc_En.nd
    have r1 := hr.mono (show 1 ≤ 3 by decide)
    refine ⟨_, pss_cons (ps_set (i := 2) nd rfl (.inr rfl) (pe_call F1 hr (by rfl) m1 kp1 b1 .nil (E := E) (pE rfl rfl (takes_of rfl rfl rfl rfl)) (pa_cons (pv 0) (pa_cons (pv 1) pa_nil))))
      (pss_cons (ps_setLc (i := 3) (own := [("part", 4)]) (g := gName 4) (tt := tYes) rfl nd rfl rfl (by rfl) (pi_tup (pe_there T rfl rfl rfl rfl (pv 0) r1)) (blkOk_by (own := [("part", 4)]) (N := nEn) (sc := defScope s_entering) (by decide +kernel))
          (fun _ _ _ _ _ => pg_name (i := 4) nd rfl (Or.inl rfl)) (fun _ _ _ _ _ => pts_nil) (fun _ _ _ _ _ => pe_tup (pa_cons (pv 4) (pa_cons (pe_ix (ix_tupK (K := K) rfl) (pe_fldK (K := K) rfl (pv 0) rfl) (pv 4) (fun _ _ => rfl)) pa_nil))))
      (pss_one (ps_ret (pe_callTy call_tuple_of (by rfl) T.b_tuple (by decide +kernel) (pa_cons
        (pe_lc (own := [("part", 4), ("begin", 5), ("end", 6)]) (g := gTup K 2 (gCons (gName 4) (gCons (gTup K 2 (gCons (gName 5) (gCons (gName 6) gNil))) gNil))) rfl nd (pi_list (pv 3)) (blkOk_by (own := [("part", 4), ("begin", 5), ("end", 6)]) (N := nEn) (sc := defScope s_entering) (by decide +kernel))
          (fun _ _ _ _ _ => gTupK rfl (pg_tup (by rfl) (pgs_cons (pg_name (i := 4) nd rfl (.inl rfl)) (pgs_cons (gTupK rfl (pg_tup (by rfl) (pgs_cons (pg_name (i := 5) nd rfl (.inl rfl)) (pgs_cons (pg_name (i := 6) nd rfl (.inl rfl)) pgs_nil)))) pgs_nil))))
          (fun _ _ _ _ _ => pts_one (PW.pt (pw_and (pt_val (pe_ix (ix_listK (K := K) rfl) (pv 2) (pv 6) (fun _ _ => rfl))) (pw_and1 (pt_not (pt_val (pe_ix (ix_listK (K := K) rfl) (pv 2) (pv 5) (fun _ _ => rfl))))))))
          (fun _ _ _ _ _ => pv 4)) pa_nil))))), ?_⟩
    obtain ⟨C, dx, pr, pg, hM, h1, h2, h3⟩ := M.ob
    have thl := thL_len us.length gs
    refine ⟨_, rfl, _, rfl, x, v, kd, s, us, rs, gs, rfl, M, hs, ?_⟩
    rcases hcase with ⟨a, ns, rfl, hA, hP, k⟩ | hb
    · refine .inl ⟨a, ns, rfl, hA, hP, fun H1 F e1 hF0 hF1 => ?_⟩
      refine ⟨_, rfl, x, kd, s, us, rs, gs, rfl, M.ex e1, x, kd, s, us, rs, gs, rfl, M.ex e1, by omega, fun H2 p e2 hp hp2 => ?_⟩
      have e12 := e1.trans e2
      have hF2 := e2 _ _ hF1
      refine ⟨p, rfl, ⟨_, SqT.of hp2⟩, fun L hL => lc_it walk_tup (fun i H' => Ex H H' ∧ H' p = some (.tup ((thL us.length gs).map V.int)) ∧ H' F = some (.lst (blV (s + 1) fun j => decide ((j : Int) ∈ ns))) ∧ ∃ ws, H' L = some (.lst ws) ∧ EndsL H' ws (((thL us.length gs).take i).map (endQ rs))) ⟨e12.trans (Ex.new hL), (Ex.new hL) _ _ hp2, (Ex.new hL) _ _ hF2, [], upd_same, EndsL.nil⟩ (fun i H' _ q => SqT.of q.2.1) ?_ ?_⟩
      · rintro i u H3 H4 hi ⟨e4, hp4, hF4, ws, hL4, hT⟩ ⟨rfl, hx⟩
        have hL0 : H L = none := Evl.fresh_back e12 hL
        obtain ⟨z, hz, rfl⟩ := map_int_get hx
        have hzm := thL_mem.mp (List.mem_of_getElem? hz)
        obtain ⟨m, rfl⟩ : ∃ m : Nat, z = m := ⟨z.toNat, by omega⟩
        have hn1 : m < us.length := by omega
        obtain ⟨t, r, hr', ev, ht⟩ := (M.runs.ex e4).get (List.getElem?_eq_getElem hn1)
        have hix : atI us (m : Int) = some (.ref t) := by
          have := List.getElem?_eq_getElem hn1
          rw [ev] at this
          exact atI_nat this
        have hrn : rn rs (m : Int) = r := by
          unfold rn
          rw [Int.toNat_natCast, List.getD_eq_getElem?_getD, hr']
          rfl
        have hil : i < (thL us.length gs).length := (List.getElem?_eq_some_iff.mp hz).1
        have hwl : ws.length < 60 := by
          rw [hT.len, List.length_map, List.length_take]
          omega
        have hLp : L ≠ p := fun y => by rw [← y, hL4] at hp4; cases hp4
        have hLF : L ≠ F := Ne.symm (ne_of_none hF2 hL)
        refine ⟨rfl, tYesI ?_⟩
        refine ⟨_, rfl, _, rfl, x, C, dx, _, _, rfl, e4 _ _ h1, hM.cl T, hM.nR T, mf_runs _ _ _, _, rfl, pr, us, _, _, rfl, rfl, SqT.of (e4 _ _ h2), hix, (by show 2 ≤ sizeLine; decide), fun tt htt => ?_⟩
        have e5 := Ex.new (o := .tup [.int (m : Int), .ref t]) htt
        refine ⟨_, e5 _ _ hL4, small1000 (by omega), Evl.Ex.mut (e4.trans e5) hL0, by rw [upd_ne (Ne.symm hLp)]; exact e5 _ _ hp4, by rw [upd_ne (Ne.symm hLF)]; exact e5 _ _ hF4, _, upd_same, ?_⟩
        rw [List.take_add_one, hz, List.map_append]
        refine EndsL.snoc (q := endQ rs (m : Int)) (tr := t) (hT.mono fun t' xs h' => ?_) ?_ ?_
        · rw [upd_ne (ne_of h' hL4 (by intro y; cases y))]
          exact e5 _ _ h'
        · rw [upd_ne (fun y => by rw [y, hL4] at htt; cases htt), upd_same]
          rfl
        · rw [upd_ne (ne_of ht hL4 (by intro y; cases y)), e5 _ _ ht]
          unfold endQ
          rw [hrn]
      rintro H3 ⟨e3, hp3, hF3, ws, hL3, hT3⟩
      rw [List.length_map, List.take_length] at hT3
      have hwl3 := hT3.len
      rw [List.length_map] at hwl3
      refine ⟨_, rfl, L, rfl, ⟨_, SqL.of hL3⟩, fun P hP => lc_it walk_list (fun i H' => Ex H H' ∧ H' L = some (.lst ws) ∧ EndsL H' ws ((thL us.length gs).map (endQ rs)) ∧ H' F = some (.lst (blV (s + 1) fun j => decide ((j : Int) ∈ ns))) ∧ H' P = some (.lst ((((thL us.length gs).take i).filter (enB rs ns)).map V.int))) ⟨e3.trans (Ex.new hP), (Ex.new hP) _ _ hL3, hT3.ex (Ex.new hP), (Ex.new hP) _ _ hF3, upd_same⟩ (fun i H' _ q => SqL.of q.2.1) ?_ ?_⟩
      · rintro i u H5 H4 hi ⟨e4, hL4, hT4, hF4, hP4⟩ ⟨rfl, hx⟩
        have hP0 : H P = none := Evl.fresh_back e3 hP
        have hPL : P ≠ L := Ne.symm (ne_of_none hL3 hP)
        have hPF : P ≠ F := Ne.symm (ne_of_none hF3 hP)
        obtain ⟨t, tr, q, hq, rfl, ht, htr⟩ := hT4.get hx
        rw [List.getElem?_map] at hq
        obtain ⟨z, hz, rfl⟩ : ∃ z, (thL us.length gs)[i]? = some z ∧ endQ rs z = q := by
          cases y : (thL us.length gs)[i]? with
          | none => rw [y] at hq; cases hq
          | some a => rw [y] at hq; exact ⟨a, rfl, Option.some.inj hq⟩
        have hzm := thL_mem.mp (List.mem_of_getElem? hz)
        have hil : i < (thL us.length gs).length := (List.getElem?_eq_some_iff.mp hz).1
        have hfit : Fits s (rn rs z) := hF _ (rn_mem hzm.1.1 (by have := M.runs.len; omega))
        obtain ⟨f0, f1, f2⟩ := hfit
        obtain ⟨b, hb⟩ : ∃ b : Nat, (rn rs z).1 = (b : Int) := ⟨(rn rs z).1.toNat, by omega⟩
        obtain ⟨e, he⟩ : ∃ e : Nat, (rn rs z).2 = (e : Int) := ⟨(rn rs z).2.toNat, by omega⟩
        have hbs : b < s + 1 := by omega
        have hes : e < s + 1 := by omega
        have gb := atI_nat (blV_get (R := fun j => decide ((j : Int) ∈ ns)) hbs)
        have ge := atI_nat (blV_get (R := fun j => decide ((j : Int) ∈ ns)) hes)
        refine ⟨t, _, rfl, SqT.of ht, rfl, _, _, rfl, _, _, rfl, tr, _, rfl, SqT.of htr, rfl, _, _, rfl, _, _, rfl, rfl, rfl, rfl, ?_⟩
        have fin : ∀ b' : Bool, enB rs ns z = b' → (if b' = true then (Ex H (upd H4 P (.lst ((((thL us.length gs).take i).filter (enB rs ns)).map V.int ++ [V.int z]))) ∧ upd H4 P (.lst ((((thL us.length gs).take i).filter (enB rs ns)).map V.int ++ [V.int z])) L = some (.lst ws) ∧ EndsL (upd H4 P (.lst ((((thL us.length gs).take i).filter (enB rs ns)).map V.int ++ [V.int z]))) ws ((thL us.length gs).map (endQ rs)) ∧ upd H4 P (.lst ((((thL us.length gs).take i).filter (enB rs ns)).map V.int ++ [V.int z])) F = some (.lst (blV (s + 1) fun j => decide ((j : Int) ∈ ns))) ∧ upd H4 P (.lst ((((thL us.length gs).take i).filter (enB rs ns)).map V.int ++ [V.int z])) P = some (.lst ((((thL us.length gs).take (i + 1)).filter (enB rs ns)).map V.int))) else H4 P = some (.lst ((((thL us.length gs).take (i + 1)).filter (enB rs ns)).map V.int))) := by
          rintro b' rfl
          have tk : ((thL us.length gs).take (i + 1)).filter (enB rs ns) = ((thL us.length gs).take i).filter (enB rs ns) ++ (if enB rs ns z = true then [z] else []) := by
            rw [List.take_add_one, hz, List.filter_append]
            congr 1
            show [z].filter _ = _
            rw [List.filter_cons, List.filter_nil]
          rw [tk]
          by_cases c : enB rs ns z = true
          · rw [if_pos c, if_pos c]
            refine ⟨Evl.Ex.mut e4 hP0, by rw [upd_ne (Ne.symm hPL)]; exact hL4, hT4.mono fun t' xs h' => ?_, by rw [upd_ne (Ne.symm hPF)]; exact hF4, ?_⟩
            · rw [upd_ne (ne_of h' hP4 (by intro y; cases y))]
              exact h'
            · rw [upd_same, List.map_append]
              rfl
          · rw [if_neg c, if_neg c, List.append_nil]
            exact hP4
        have hsz : (((thL us.length gs).take i).filter (enB rs ns)).length < 900 := Nat.lt_of_le_of_lt (List.length_filter_le _ _) (by rw [List.length_take]; omega)
        have hB : enB rs ns z = (decide ((e : Int) ∈ ns) && !decide ((b : Int) ∈ ns)) := by
          unfold enB
          rw [he, hb]
        refine ⟨_, rfl, _, rfl, F, _, _, _, rfl, congrArg V.int he, SqL.of hF4, ge, _, rfl, ?_⟩
        cases c1 : decide ((e : Int) ∈ ns) with
        | false =>
          have := fin false (by rw [hB, c1]; rfl)
          exact iteF' rfl ⟨e4, hL4, hT4, hF4, this⟩
        | true =>
          refine iteT' rfl ?_
          refine ⟨_, rfl, _, rfl, F, _, _, _, rfl, congrArg V.int hb, SqL.of hF4, gb, _, rfl, ?_⟩
          cases c2 : decide ((b : Int) ∈ ns) with
          | true =>
            have := fin false (by rw [hB, c1, c2]; rfl)
            exact iteF' rfl ⟨e4, hL4, hT4, hF4, this⟩
          | false =>
            have := fin true (by rw [hB, c1, c2]; rfl)
            exact iteT' rfl ⟨_, rfl, _, hP4, by rw [List.length_map]; exact small1000 (by omega), this⟩
      rintro H4 ⟨e4, hL4, hT4, hF4, hP4⟩
      rw [hwl3, List.take_length] at hP4
      exact ⟨P, _, rfl, .inl ⟨SqL.of hP4, fun l hl2 => k _ l (e4.trans (Ex.new hl2)) upd_same⟩⟩
    · exact .inr hb
end
end K05


set_option Elab.async false
set_option linter.all false
set_option maxRecDepth 100000
set_option maxHeartbeats 4000000
/-! for a, b in zip(t, u), t a tuple and u a list. -/
namespace L2
open PySem PySem.Spec PyProof.Rows
def ItzX (K : PySem.W.Frag) (a b : Addr) : It :=
  ⟨fun i H => ∃ t u x y, SqT K H a t ∧ SqL K H b u ∧ t[i]? = some x ∧ u[i]? = some y,
   fun i H v H' => ∃ T x y, v = .ref T ∧ H T = none ∧ H' = upd H T (.tup [x, y]) ∧ (∀ t, SqT K H a t → t[i]? = some x) ∧ (∀ u, SqL K H b u → u[i]? = some y),
   fun i H => ∃ t u, SqT K H a t ∧ SqL K H b u ∧ i ≤ t.length ∧ i ≤ u.length ∧ (i = t.length ∨ i = u.length)⟩
def ZipAt (a b z TI TO i1 i2 : Addr) (i : Nat) (h : Heap) : Prop :=
  IsZip h z TI TO .none ∧ IsTupOf2 h TI (.ref i1) (.ref i2) ∧ (∃ x y, IsTupOf2 h TO x y) ∧ h.IsTupleIter i1 a i ∧ h.IsListIter i2 b i
theorem five {z TI TO i1 i2 c : Addr} {P : Addr → Prop} (h : c ∈ [z, TI, TO, i1, i2]) (p1 : P z) (p2 : P TI) (p3 : P TO) (p4 : P i1) (p5 : P i2) : P c := by
  simp only [List.mem_cons, List.not_mem_nil, or_false] at h
  rcases h with rfl | rfl | rfl | rfl | rfl <;> assumption
theorem turn_zipX {P : Program} {w : World} {K : PySem.W.Frag} {elts : List Expr} {kk : Nat} {tpos : Pos} {a b z TI TO i1 i2 : Addr} (S : ZipSep2 z TI TO i1 i2 [i1, a] [i2, b]) :
    Turn P w K (.Tuple elts kk tpos) (ItzX K a b) [z, TI, TO, i1, i2] z (ZipAt a b z TI TO i1 i2) where
  mem := List.mem_cons_self
  obj := by
    rintro i h ⟨hz, hI, ⟨x, y, hO⟩, ⟨o1, e1, _, d1⟩, ⟨o2, e2, _, d2⟩⟩ c hc
    refine five (P := fun c => ∃ o, h.get? c = some o ∧ ∀ v, o.data ≠ .cell v) hc ⟨_, hz, nofun⟩ ⟨_, hI, nofun⟩ ⟨_, hO, nofun⟩ ⟨o1, e1, ?_⟩ ⟨o2, e2, ?_⟩
    · rw [d1]; exact nofun
    · rw [d2]; exact nofun
  keep := by
    rintro i h h' ⟨hz, hI, ⟨x, y, hO⟩, q1, q2⟩ k
    have m : ∀ c, c ∈ [z, TI, TO, i1, i2] → ∀ o, h.get? c = some o → h'.get? c = some o := k
    exact ⟨m z (by simp) _ hz, m TI (by simp) _ hI, ⟨x, y, m TO (by simp) _ hO⟩, q1.at (m i1 (by simp)), q2.at (m i2 (by simp))⟩
  item := by
    rintro X rfl rfl rfl hc i pins s σ H E I hf ⟨hz, hI, ⟨x0, y0, hO⟩, q1, q2⟩ ⟨t, u, x, y, ht, hu, hx, hy⟩
    obtain ⟨ti, rt, pt, _⟩ := I.tuple ht
    obtain ⟨ui, ru, pu, _⟩ := I.list hu
    obtain ⟨vx, gx, rx⟩ := rt.get hx
    obtain ⟨vy, gy, ry⟩ := ru.get hy
    have hd : X.A.handled = none := I.ok.hd hc
    have na : a ≠ i1 := fun e => by
      obtain ⟨o, e1, c1, _⟩ := q1
      obtain ⟨o2, e2, c2, _⟩ := pt
      rw [e, e1] at e2
      cases e2
      exact absurd (Value.type.inj (c1.symm.trans c2)) (by decide)
    have nb : b ≠ i2 := fun e => by
      obtain ⟨o, e1, c1, _⟩ := q2
      obtain ⟨o2, e2, c2, _⟩ := pu.isList
      rw [e, e1] at e2
      cases e2
      exact absurd (Value.type.inj (c1.symm.trans c2)) (by decide)
    have l1 := (List.getElem?_eq_some_iff.mp gx).1
    have l2 := (List.getElem?_eq_some_iff.mp gy).1
    have zl : z < s.heap.objs.size := Heap.lt_size hz
    refine wpAny_pyNext_zipD2_item S (Draws.tuple (A := X.A.in1) hd i1 a na ti.toArray) (Draws.list (A := X.A.in1) hd i2 b nb ui.toArray) hz hI hO ⟨q1, pt⟩ ⟨q2, pu.isList⟩ (by simpa using l1) (by simpa using l2) ?_
    rintro x1 x2 h' tk p1 p2 hz' hO' ⟨q1', _⟩ ⟨q2', _⟩ hT hs hk
    have ex1 : x1 = vx := by
      have e : ti.toArray[i]? = some vx := by simpa using gx
      rw [e] at p1
      exact (Option.some.inj p1).symm
    have ex2 : x2 = vy := by
      have e : ui.toArray[i]? = some vy := by simpa using gy
      rw [e] at p2
      exact (Option.some.inj p2).symm
    subst ex1 ex2
    refine ⟨_, rfl, wpAny_letOwnedTupleGo_zip (s := { s with heap := h', toks := tk }) hz' fun h2 hz2 sb => ?_⟩
    have off : ∀ c o, c ≠ z → h'.get? c = some o → h2.get? c = some o := fun c o n e => (sb.2 c n).trans e
    have hT2 := off _ _ (Nat.ne_of_gt zl) hT
    have I2 : Inv X pins σ (upd H s.heap.objs.size (.tup [x, y])) { s with heap := h2, toks := tk } := by
      refine I.turnedNew (ch := [z, TI, TO, i1, i2]) (fun c o n e => ?_) hf (Nat.le_refl _) ⟨(by show 2 ≤ sizeLine; decide), [x1, x2], .cons rx (.cons ry .nil), ⟨_, hT2, rfl, _, rfl⟩⟩
      have nz : c ≠ z := fun q => n (by simp [q])
      exact off c o nz (hk c o nz (fun q => n (by simp [q])) (fun q => n (by simp [q])) (fun q => n (by simp [q])) e)
    have old : ∀ c, c ∈ [z, TI, TO, i1, i2] → c < s.heap.objs.size := fun c hcm =>
      five (P := fun c => c < s.heap.objs.size) hcm zl (Heap.lt_size hI) (Heap.lt_size hO) (let ⟨_, e, _⟩ := q1; Heap.lt_size e) (let ⟨_, e, _⟩ := q2; Heap.lt_size e)
    refine ⟨.ref s.heap.objs.size, _, I2, rfl, ⟨_, x, y, rfl, I.hok.fresh (Nat.le_refl _), rfl, fun t' h => ?_, fun u' h => ?_⟩, ⟨hz2, off _ _ S.TIz (hk _ _ S.TIz S.TITO S.TIi1 S.TIi2 hI), ⟨x1, x2, off _ _ S.TOz hO'⟩, q1'.at fun o e => off _ _ (Ne.symm S.zi1) e, q2'.at fun o e => off _ _ (Ne.symm S.zi2) e⟩, fun c hcm => ?_⟩
    · rw [I.tuple_inj h ht]; exact hx
    · rw [I.list_inj h hu]; exact hy
    · rw [upd_ne (Nat.ne_of_lt (old c hcm))]
      exact (hf c hcm).1
  done := by
    rintro X rfl rfl rfl hc i pins s σ H E I hf ⟨hz, hI, ⟨x0, y0, hO⟩, q1, q2⟩ ⟨t, u, ht, hu, c1, c2, c3⟩
    obtain ⟨ti, rt, pt, _⟩ := I.tuple ht
    obtain ⟨ui, ru, pu, _⟩ := I.list hu
    have hd : X.A.handled = none := I.ok.hd hc
    have n1 := rt.length
    have n2 := ru.length
    have na : a ≠ i1 := fun e => by
      obtain ⟨o, e1, c1, _⟩ := q1
      obtain ⟨o2, e2, c2, _⟩ := pt
      rw [e, e1] at e2
      cases e2
      exact absurd (Value.type.inj (c1.symm.trans c2)) (by decide)
    have nb : b ≠ i2 := fun e => by
      obtain ⟨o, e1, c1, _⟩ := q2
      obtain ⟨o2, e2, c2, _⟩ := pu.isList
      rw [e, e1] at e2
      cases e2
      exact absurd (Value.type.inj (c1.symm.trans c2)) (by decide)
    refine wpAny_pyNext_zipD2_end S (Draws.tuple (A := X.A.in1) hd i1 a na ti.toArray) (Draws.list (A := X.A.in1) hd i2 b nb ui.toArray) hz hI hO ⟨q1, pt⟩ ⟨q2, pu.isList⟩ (by simp; omega) (by simp; omega) (by simp; omega) ?_
    refine fun h' tk hk => ⟨rfl, I.turnedL (ch := [z, TI, TO, i1, i2]) (fun c o n e => ?_) hf⟩
    exact hk c o (fun q => n (by simp [q])) (fun q => n (by simp [q])) (fun q => n (by simp [q])) (fun q => n (by simp [q])) e
  self := fun A i s Q E st h => wpAny_pyIter_zip st.1 h
def iZipX (K : PySem.W.Frag) (ta : TA) : TI := fun σ H R => ta σ H fun vs H1 => ∃ a b t u, vs = [.ref a, .ref b] ∧ SqT K H1 a t ∧ SqL K H1 b u ∧ R (ItzX K a b) H1
theorem sep_new {n a b : Nat} (ha : a < n) (hb : b < n) : ZipSep2 (n + 4) (n + 2) (n + 3) n (n + 1) [n, a] [n + 1, b] := by
  have h : ∀ {x y : Nat}, x < y → x ≠ y := fun z => Nat.ne_of_lt z
  have g : ∀ {x y : Nat}, y < x → x ≠ y := fun z => Nat.ne_of_gt z
  have m : ∀ {x y z : Nat}, x ≠ y → x ≠ z → x ∉ [y, z] := fun p q r => by
    rcases List.mem_cons.mp r with e | r
    · exact p e
    · exact q (List.mem_singleton.mp r)
  exact ⟨h (by omega), h (by omega), h (by omega), g (by omega), List.mem_cons_self, m (g (by omega)) (g (by omega)), m (g (by omega)) (g (by omega)), g (by omega), List.mem_cons_self, m (g (by omega)) (g (by omega)), m (g (by omega)) (g (by omega)), m (h (by omega)) (g (by omega)), m (g (by omega)) (g (by omega))⟩
theorem pi_zipX {X : Cx} {e e2 : Expr} {ta : TA} {p pos tpos : Pos} {elts : List Expr} {kk : Nat} (hg : Gl X "zip") (hm : X.mg "zip" = none) (ha : PA X [e, e2] ta)
    (hs : starEach [e, e2] X.env = (false, eval e X.env) :: starEach [e2] X.env := by rfl) (hpl : (backTo pos (starEach [e2] X.env)).any (·.1) = false := by rfl) :
    PI X (.Tuple elts kk tpos) (.Call (.Name "zip" p) [e, e2] [] pos) (iZipX X.K ta) := by
  constructor
  intro pins s σ H R I h
  refine Call_ (ld_blt I hg hm PyProof.Rows.boot_zip (PyProof.Rows.callWith_type1 (thn (ha.run pos pins s σ H _ I h) ?_) hs hpl))
  rintro us s1 ⟨vs, H1, I1, r1, a, b, t, u, rfl, ht, hu, q⟩
  rcases r1 with _ | ⟨ra, r1⟩
  rcases r1 with _ | ⟨rb, r1⟩
  rcases r1 with _ | _
  cases ra
  cases rb
  obtain ⟨ti, rt, pt, _⟩ := I1.tuple ht
  obtain ⟨ui, ru, pu, _⟩ := I1.list hu
  have la : a < s1.heap.objs.size := let ⟨_, e, _⟩ := pt; Heap.lt_size e
  have lb : b < s1.heap.objs.size := pu.lt
  refine zip_begins2 (begins_tuple a ti.toArray) (begins_list b ui.toArray) pt pu.isList ?_
  intro h' hz hI hO h1 h2 _ hk
  have I2 : Inv X pins σ H1 { s1 with heap := h' } := I1.kept (t' := s1.toks) hk
  refine wpAny_pyIter_zip hz ⟨_, _, _, _, H1, rfl, I2, turn_zipX (sep_new la lb), ⟨hz, hI, ⟨_, _, hO⟩, ⟨_, h1, rfl, rfl⟩, ⟨_, h2, rfl, rfl⟩⟩, fun c hcm => ?_, q⟩
  have le : s1.heap.objs.size ≤ c := five (P := fun c => s1.heap.objs.size ≤ c) hcm (Nat.le_add_right _ _) (Nat.le_add_right _ _) (Nat.le_add_right _ _) (Nat.le_refl _) (Nat.le_add_right _ _)
  exact I1.fpOk le (I1.hok.fresh le)
theorem walk_zipX {K : PySem.W.Frag} {a b : Addr} {t u : List V} (hl : t.length = u.length) : Walk (ItzX K a b) t.length (fun H => SqT K H a t ∧ SqL K H b u) (YPair (fun i => t[i]?) (fun i => u[i]?)) := by
  constructor
  · intro i H hi q
    exact ⟨t, u, t[i], u[i]'(by omega), q.1, q.2, List.getElem?_eq_getElem hi, List.getElem?_eq_getElem (by omega)⟩
  · intro H q
    exact ⟨t, u, q.1, q.2, Nat.le_refl _, by omega, .inl rfl⟩
  · rintro i H v H' hi q ⟨T, x, y, e1, e2, e3, f1, f2⟩
    exact ⟨T, x, y, e1, e2, e3, f1 t q.1, f2 u q.2⟩
end L2


set_option Elab.async false
set_option linter.all false
set_option maxRecDepth 100000
set_option maxHeartbeats 4000000
namespace K05
open PySem PySem.Spec PyProof.Rows L2 RZ StX
open Evl (Ex)
theorem sum_sm (f : Int → Int) : ∀ l : List Int, (l.map f).sum = sm f l
  | [] => rfl
  | x :: l => by simp only [List.map_cons, List.sum_cons, sm, sum_sm f l]
theorem sm_filter (f : Int → Int) (P : Int → Bool) : ∀ l : List Int, sm f (l.filter P) = sm (fun q => if P q = true then f q else 0) l
  | [] => rfl
  | x :: l => by
    rw [List.filter_cons]
    by_cases c : P x = true
    · rw [if_pos c]
      simp only [sm, sm_filter f P l, if_pos c]
    · rw [if_neg c]
      simp only [sm, sm_filter f P l, if_neg c]
      omega
theorem sm_one {l : List Int} (f : Int → Int) (h : l.Nodup) {x : Int} (hx : x ∈ l) : sm (fun q => if q = x then f q else 0) l = f x := by
  induction l with
  | nil => cases hx
  | cons y l ih =>
    have hn := List.nodup_cons.mp h
    by_cases c : y = x
    · subst c
      simp only [sm, if_pos]
      rw [sm_congr (g := fun _ => 0) fun q hq => if_neg (fun z : q = y => hn.1 (z ▸ hq)), sm_zero]
      omega
    · simp only [sm, if_neg c]
      rw [ih hn.2 ((List.mem_cons.mp hx).resolve_left (Ne.symm c))]
      omega
theorem sm_sub_all {U : List Int} (hU : U.Nodup) (f : Int → Int) : ∀ {ns : List Int}, ns.Nodup → (∀ q ∈ ns, q ∈ U) → sm (fun q => if q ∈ ns then f q else 0) U = sm f ns
  | [], _, _ => by
    rw [sm_congr (g := fun _ => 0) fun q _ => if_neg (by intro z; cases z), sm_zero]
    rfl
  | x :: ns, h, hs => by
    have hn := List.nodup_cons.mp h
    rw [sm_congr (g := fun q => (if q = x then f q else 0) + (if q ∈ ns then f q else 0)) fun q _ => ?_, sm_add, sm_one f hU (hs x (List.mem_cons_self ..)), sm_sub_all hU f hn.2 fun q hq => hs q (List.mem_cons_of_mem _ hq)]
    · rfl
    · by_cases c : q = x
      · subst c
        rw [if_pos (List.mem_cons_self ..), if_pos rfl, if_neg hn.1]
        omega
      · rw [if_neg c]
        by_cases d : q ∈ ns
        · rw [if_pos (List.mem_cons_of_mem _ d), if_pos d]; omega
        · rw [if_neg (fun z => (List.mem_cons.mp z).elim c d), if_neg d]; omega
theorem upto_nodup (n : Nat) : (upto n).Nodup := by
  unfold upto
  unfold List.Nodup
  rw [List.pairwise_map]
  exact List.Pairwise.imp (fun h z => h (Int.ofNat.inj z)) (List.nodup_range (n := n))
/-- the numbers of the row at the points -/
def atPts (D ns : List Int) (n : Nat) : List Int := ((upto n).filter fun q => decide (q ∈ ns)).map (begD D)
theorem atPts_sum {D ns : List Int} {s : Nat} (h : PtOk s ns) : (atPts D ns (s + 1)).sum = sm (begD D) ns := by
  unfold atPts
  rw [sum_sm, sm_filter, ← sm_sub_all (upto_nodup (s + 1)) (begD D) h.nd fun q hq => upto_mem.mpr (by have := h.inn q hq; omega)]
  exact sm_congr fun q _ => by
    by_cases c : q ∈ ns
    · rw [if_pos c, if_pos (decide_eq_true c)]
    · rw [if_neg c, if_neg (by rw [decide_eq_false c]; decide)]
theorem atPts_succ (D ns : List Int) (n : Nat) : atPts D ns (n + 1) = atPts D ns n ++ (if decide ((n : Int) ∈ ns) = true then [begD D n] else []) := by
  unfold atPts
  rw [show upto (n + 1) = upto n ++ [(n : Int)] by unfold upto; rw [List.range_succ, List.map_append]; rfl, List.filter_append, List.map_append]
  congr 1
  by_cases c : decide ((n : Int) ∈ ns) = true
  · rw [if_pos c, List.filter_cons, if_pos c]; rfl
  · rw [if_neg c, List.filter_cons, if_neg c]; rfl
theorem atPts_len (D ns : List Int) (n : Nat) : (atPts D ns n).length ≤ n := by
  unfold atPts
  rw [List.length_map]
  refine Nat.le_trans (List.length_filter_le _ _) ?_
  unfold upto
  simp
section
variable {w : World} {K : PySem.W.Frag} {mg : Str → Option Value} {base : Heap}
abbrev nOf : List Str := ["market", "demand", "points", "wanted", "flags", "number", "flag"]
theorem sc_Of : FnScope nOf ["market", "demand", "points"] (defScope s_outflow) := ⟨rfl, rfl, rfl, by decide +kernel, rfl, by decide +kernel, by decide +kernel⟩
def spOutflow (K : PySem.W.Frag) : Sp := fun vs H Q E => ∃ (x : Addr) (v u : V) (kd : Str) (s : Nat) (us : List V) (rs : List (Int × Int)) (gs : List Int), vs = [.ref x, v, u] ∧ Mkt K H x kd s us rs gs ∧ s ≤ 30 ∧
  ((∃ n, DemBad H s v n ∧ BadD K H E n) ∨ ∃ D, Dem H s v D ∧
  ((∃ a ns, u = .ref a ∧ SeqAt2 H a (ns.map V.int) ∧ PtOk s ns ∧ ∀ H', Ex H H' → Q (.int (sm (begD D) ns)) H') ∨ (∃ y, PtBad H s u y ∧ BadPt K H E y)))
set_option maxHeartbeats 8000000 in
theorem has_Of (T : Ctx K mg) : Has w K mg base (L2.CX PP w) "outflow" 4 ["market", "demand", "points"] (spOutflow K) := by
  obtain ⟨f1, fd1, m1, kp1, F1, b1⟩ := has_demand_of (w := w) (base := base) T
  obtain ⟨f2, fd2, m2, kp2, F2, b2⟩ := has_Pf (w := w) (base := base) T
  obtain ⟨f3, fd3, m3, kp3, F3, b3⟩ := has_begins_of (w := w) (base := base) T
  refine has_of (st := s_outflow) (f := He.ga K "outflow") T.d_outflow T.g_outflow (fun _ _ _ _ _ _ us hl => match us, hl with | [_, _, _], _ => rfl) fun fd F => ?_
  refine okX F sc_Of (fun vs H Q E h => ?_) (fun cdv A outer s0 H vs Q E hr h => ?_)
  · obtain ⟨x, v, u, kd, s, us, rs, gs, rfl, _⟩ := h
    rfl
  · obtain ⟨x, v, u, kd, s, us, rs, gs, rfl, M, hs, hcase⟩ := h
    have nd := sc_Of.nd
    have r1 := hr.mono (show 1 ≤ 3 by decide)
    have r2 := hr.mono (show 2 ≤ 3 by decide)
    refine ⟨_, pss_cons (ps_set (i := 3) nd rfl (.inl rfl) (pe_call F1 r2 (by rfl) m1 kp1 b1 .nil (E := E) (pE rfl rfl (takes_of rfl rfl rfl rfl)) (pa_cons (pv 0) (pa_cons (pv 1) pa_nil))))
      (pss_cons (ps_set (i := 4) nd rfl (.inl rfl) (pe_call F2 hr (by rfl) m2 kp2 b2 .nil (E := E) (pE rfl rfl (takes_of rfl rfl rfl rfl)) (pa_cons (pv 0) (pa_cons (pv 2) pa_nil))))
      (pss_one (ps_ret (pe_callB (cr_sum rfl) (by rfl) T.b_sum (by decide +kernel) (pa_cons
        (pe_lc (own := [("number", 5), ("flag", 6)]) (g := gTup K 2 (gCons (gName 5) (gCons (gName 6) gNil))) rfl nd (pi_zipX (by rfl) T.b_zip (pa_cons (pe_call F3 r1 (by rfl) m3 kp3 b3 .nil pass0 (pa_cons (pv 3) pa_nil)) (pa_cons (pv 4) pa_nil))) (blkOk_by (own := [("number", 5), ("flag", 6)]) (N := nOf) (sc := defScope s_outflow) (by decide +kernel))
          (fun _ _ _ _ _ => gTupK rfl (pg_tup (by rfl) (pgs_cons (pg_name (i := 5) nd rfl (.inl rfl)) (pgs_cons (pg_name (i := 6) nd rfl (.inl rfl)) pgs_nil))))
          (fun _ _ _ _ _ => pts_one (pt_val (pv 6)))
          (fun _ _ _ _ _ => pv 5)) pa_nil))))), ?_⟩
    refine ⟨_, rfl, _, rfl, x, kd, s, us, rs, gs, v, rfl, M, by omega, ?_⟩
    rcases hcase with ⟨n, hb⟩ | ⟨D, hD, hcase⟩
    · exact .inr ⟨n, hb⟩
    have hDl := hD.len
    refine .inl ⟨D, hD, fun H1 A e1 hA => ?_⟩
    refine ⟨_, rfl, _, rfl, x, u, kd, s, us, rs, gs, rfl, M.ex e1, hs, ?_⟩
    rcases hcase with ⟨a, ns, rfl, hS, hP, k⟩ | ⟨y, hy, hE⟩
    · refine .inl ⟨a, ns, rfl, hS.ex e1, hP, fun H2 F e2 hF0 hF => ?_⟩
      have e12 := e1.trans e2
      refine ⟨_, rfl, A, D, rfl, e2 _ _ hA, by omega, fun H3 B e3 hB => ?_⟩
      have e13 := e12.trans e3
      have hF3 := e3 _ _ hF
      have hln : ((begL D).map V.int).length = (blV (s + 1) fun j => decide ((j : Int) ∈ ns)).length := by rw [List.length_map, begL_len, blV_len, hDl]
      refine ⟨_, rfl, B, F, _, _, rfl, SqT.of hB, SqL.of hF3, fun P hP' => lc_it (walk_zipX hln) (fun i H' => Ex H H' ∧ H' B = some (.tup ((begL D).map V.int)) ∧ H' F = some (.lst (blV (s + 1) fun j => decide ((j : Int) ∈ ns))) ∧ H' P = some (.lst ((atPts D ns i).map V.int))) ⟨e13.trans (Ex.new hP'), (Ex.new hP') _ _ hB, (Ex.new hP') _ _ hF3, upd_same⟩ (fun i H' _ q => ⟨SqT.of q.2.1, SqL.of q.2.2.1⟩) ?_ ?_⟩
      · rintro i y H4 H5 hi ⟨e4, hB4, hF4, hP4⟩ ⟨t, x1, y1, rfl, ht, rfl, hx1, hy1⟩
        have hP0 : H P = none := Evl.fresh_back e13 hP'
        have hPB : B ≠ P := ne_of_none hB hP'
        have hPF : F ≠ P := ne_of_none hF3 hP'
        rw [List.length_map, begL_len, hDl] at hi
        have hx2 : ((begL D).map V.int)[i]? = some x1 := hx1
        rw [begL_row, hDl, List.getElem?_map, row_get hi] at hx2
        cases hx2
        have hy2 : (blV (s + 1) fun j => decide ((j : Int) ∈ ns))[i]? = some y1 := hy1
        rw [blV_get hi] at hy2
        cases hy2
        have e5 : Ex H4 (upd H4 t (.tup [.int (begD D i), .bl (decide ((i : Int) ∈ ns))])) := Ex.new ht
        have hal := atPts_len D ns i
        refine ⟨t, _, rfl, SqT.of upd_same, rfl, _, _, rfl, _, _, rfl, rfl, rfl, _, rfl, _, rfl, ?_⟩
        have tk := atPts_succ D ns i
        by_cases c : decide ((i : Int) ∈ ns) = true
        · rw [if_pos c] at tk
          refine iteT' c ⟨_, rfl, _, e5 _ _ hP4, by rw [List.length_map]; exact small1000 (by omega), Evl.Ex.mut (e4.trans e5) hP0, by rw [upd_ne hPB]; exact e5 _ _ hB4, by rw [upd_ne hPF]; exact e5 _ _ hF4, ?_⟩
          rw [upd_same, tk, List.map_append]
          rfl
        · rw [if_neg c, List.append_nil] at tk
          refine iteF' (by simpa using c) ⟨e4.trans e5, e5 _ _ hB4, e5 _ _ hF4, ?_⟩
          rw [tk]
          exact e5 _ _ hP4
      rintro H4 ⟨e4, hB4, hF4, hP4⟩
      rw [List.length_map, begL_len, hDl] at hP4
      have := k H4 e4
      rw [← atPts_sum hP] at this
      exact ⟨P, _, rfl, SqL.of hP4, this⟩
    · exact .inr ⟨y, hy.ex e1, hE.ex e1⟩
end
end K05


set_option Elab.async false
set_option linter.all false
set_option maxRecDepth 100000
set_option maxHeartbeats 4000000
namespace K05
open PySem PySem.Spec PyProof.Rows L2 RZ StX
open Evl (Ex)
/-- what lacking hands out -/
def LackR (H' : Hp) (kd : Str) (s : Nat) (rs : List (Int × Int)) (pres D : List Int) (u : V) : Prop :=
  (u = .non ∧ ∃ X : List Int, X.Pairwise (· < ·) ∧ (∀ p ∈ X, p ∈ pres) ∧ stOk kd s rs D X) ∨
  ∃ (C : Addr) (pts : List Int), u = .ref C ∧ H' C = some (.tup (pts.map V.int)) ∧ pts.Pairwise (· < ·) ∧ pts ≠ [] ∧ (∀ q ∈ pts, 0 ≤ q ∧ q ≤ s) ∧ ((pres.filter (lvB rs pts)).length : Int) < sm (begD D) pts ∧
    (kd = "lap" → ∃ j : Nat, j < s ∧ pts = upto (j + 1) ∧ covAt rs pres j < D.getD j 0) ∧ ∀ X : List Int, X.Pairwise (· < ·) → (∀ p ∈ X, p ∈ pres) → ¬ stOk kd s rs D X
theorem LackR.ex {H H' : Hp} {kd : Str} {s : Nat} {rs : List (Int × Int)} {pres D : List Int} {v : V} (h : LackR H kd s rs pres D v) (e : Ex H H') : LackR H' kd s rs pres D v := by
  rcases h with h | ⟨C, c, h1, h2, h3⟩
  · exact .inl h
  · exact .inr ⟨C, c, h1, e _ _ h2, h3⟩
theorem lv_upto {rs : List (Int × Int)} {s : Nat} {pres : List Int} (hF : ∀ r ∈ rs, Fits s r) (hp : ∀ p ∈ pres, 0 ≤ p ∧ p < rs.length) (j : Nat) : ((pres.filter (lvB rs (upto (j + 1)))).length : Int) = covAt rs pres j := by
  unfold covAt
  congr 2
  refine List.filter_congr fun p hpp => ?_
  obtain ⟨f0, f1, f2⟩ := hF _ (rn_mem (hp p hpp).1 (hp p hpp).2)
  unfold lvB
  show _ = decide ((rn rs p).1 ≤ (j : Int) ∧ (j : Int) < (rn rs p).2)
  apply Bool.eq_iff_iff.mpr
  rw [Bool.and_eq_true, decide_eq_true_iff, decide_eq_true_iff, Bool.not_eq_true', decide_eq_false_iff_not, upto_mem, upto_mem]
  omega
theorem upto_flow {s : Nat} {D : List Int} (hD : D.length = s) {j : Nat} (hj : j < s) : sm (begD D) (upto (j + 1)) = D.getD j 0 := by
  rw [sm_upto, pre_begD D (j + 1) (by omega)]
  rfl
section
variable {w : World} {K : PySem.W.Frag} {mg : Str → Option Value} {base : Heap}
abbrev nLk : List Str := ["market", "demand", "wanted", "counts", "short", "place", "chosen", "needs", "starts", "point"]
theorem sc_Lk : FnScope nLk ["market", "demand"] (defScope s_lacking) := ⟨rfl, rfl, rfl, by decide +kernel, rfl, by decide +kernel, by decide +kernel⟩
set_option maxHeartbeats 8000000 in
theorem has_Lk (T : Ctx K mg) : Has w K mg base (L2.CX PP w) "lacking" 5 ["market", "demand"] (spSome K LackR) := by
  obtain ⟨f1, fd1, m1, kp1, F1, b1⟩ := has_demand_of (w := w) (base := base) T
  obtain ⟨f2, fd2, m2, kp2, F2, b2⟩ := has_is_lap (w := w) (base := base) T
  obtain ⟨f3, fd3, m3, kp3, F3, b3⟩ := has_covered (w := w) (base := base) T
  obtain ⟨f4, fd4, m4, kp4, F4, b4⟩ := has_Up (w := w) (base := base) T
  obtain ⟨f5, fd5, m5, kp5, F5, b5⟩ := has_Ca (w := w) (base := base) T
  obtain ⟨f6, fd6, m6, kp6, F6, b6⟩ := has_begins_of (w := w) (base := base) T
  obtain ⟨f7, fd7, m7, kp7, F7, b7⟩ := has_Rp (w := w) (base := base) T
  obtain ⟨f8, fd8, m8, kp8, F8, b8⟩ := has_Sf (w := w) (base := base) T
  refine has_of (st := s_lacking) (f := He.ga K "lacking") T.d_lacking T.g_lacking (fun _ _ _ _ _ _ us hl => match us, hl with | [_, _], _ => rfl) fun fd F => ?_
  refine okX F sc_Lk (fun vs H Q E h => ?_) (fun cdv A0 outer s0 H vs Q E hr h => ?_)
  · obtain ⟨x, v, kd, s, rs, gs, rfl, _⟩ := h
    rfl
  · obtain ⟨x, v, kd, s, rs, gs, rfl, G, hcase⟩ := h
    have nd := sc_Lk.nd
    have r1 := hr.mono (show 1 ≤ 4 by decide)
    have r2 := hr.mono (show 2 ≤ 4 by decide)
    refine ⟨_, pss_cons (ps_set (i := 2) nd rfl (.inr rfl) (pe_call F1 r2 (by rfl) m1 kp1 b1 .nil (E := E) (pE rfl rfl (takes_of rfl rfl rfl rfl)) (pa_cons (pv 0) (pa_cons (pv 1) pa_nil))))
      (pss_cons (ps_if (pt_val (pe_call F2 r1 (by rfl) m2 kp2 b2 .nil pass0 (pa_cons (pv 0) pa_nil)))
        (pss_cons (ps_set (i := 3) nd rfl (.inr rfl) (pe_call F3 r1 (by rfl) m3 kp3 b3 .nil pass0 (pa_cons (pv 0) (pa_cons (pe_there T rfl rfl rfl rfl (pv 0) r1) pa_nil))))
        (pss_cons (ps_setLc (i := 4) (own := [("place", 5)]) (g := gName 5) rfl nd rfl rfl (by rfl) (pi_range1 (by rfl) T.b_range (pa_cons (pe_fld (pv 0) rfl) pa_nil)) (blkOk_by (own := [("place", 5)]) (N := nLk) (sc := defScope s_lacking) (by decide +kernel)) (fun _ _ _ _ _ => pg_name (i := 5) nd rfl (Or.inl rfl))
          (fun _ _ _ _ _ => pts_one (pt_cmpR op_lt (pe_ix (ix_tupK (K := K) rfl) (pv 3) (pv 5) (fun _ _ => rfl)) (pe_ix (ix_tupK (K := K) rfl) (pv 2) (pv 5) (fun _ _ => rfl)) (nomark _))) (fun _ _ _ _ _ => pv 5))
        (pss_one (ps_ret (pe_ifExp (pt_truth (pv 4) (fun _ => rfl)) (pe_call F4 r1 (by rfl) m4 kp4 b4 .nil pass0 (pa_cons (pe_ix ix_list (pv 4) pe_int (fun _ _ => rfl)) pa_nil)) pe_non))))) pss_nil)
      (pss_cons (ps_asg (pe_call F5 hr (by rfl) m5 kp5 b5 .nil pass0 (pa_cons (pv 0) (pa_cons (pe_call F6 r1 (by rfl) m6 kp6 b6 .nil pass0 (pa_cons (pv 2) pa_nil)) (pa_cons (pe_op op_rep (pe_lst (pa_cons pe_int pa_nil)) (pe_fld (pv 0) rfl)) (pa_cons (pe_op op_rep (pe_lst (pa_cons pe_int pa_nil)) (pe_many T rfl rfl rfl rfl (pv 0) hr (by decide) rfl)) pa_nil)))))
          (pg_tup (by rfl) (pgs_cons (pg_name (i := 6) nd rfl (.inl rfl)) (pgs_cons (pg_name (i := 7) nd rfl (.inr rfl)) pgs_nil))))
      (pss_cons (ps_setLc (i := 8) (own := [("point", 9)]) (g := gName 9) rfl nd rfl rfl (by rfl) (pi_range1 (by rfl) T.b_range (pa_cons (pe_op op_add (pe_fld (pv 0) rfl) pe_int) pa_nil)) (blkOk_by (own := [("point", 9)]) (N := nLk) (sc := defScope s_lacking) (by decide +kernel)) (fun _ _ _ _ _ => pg_name (i := 9) nd rfl (Or.inl rfl))
          (fun _ _ _ _ _ => pts_one (pt_cmpR op_gt (pe_ix (ix_listK (K := K) rfl) (pv 7) (pv 9) (fun _ _ => rfl)) pe_int (nomark _))) (fun _ _ _ _ _ => pv 9))
      (pss_cons (ps_if (pt_not (pt_truth (pv 8) (fun _ => rfl))) (pss_one (ps_ret pe_non)) pss_nil)
      (pss_one (ps_ret (pe_call F7 r1 (by rfl) m7 kp7 b7 .nil pass0 (pa_cons (pe_op op_add (pe_fld (pv 0) rfl) pe_int) (pa_cons (pe_call F8 r2 (by rfl) m8 kp8 b8 .nil pass0 (pa_cons (pv 0) (pa_cons (pv 6) (pa_cons (pe_tup pa_nil) pa_nil)))) (pa_cons (pv 8) pa_nil)))))))))), ?_⟩
    obtain ⟨us, M⟩ := G.ob
    obtain ⟨Cl, dx, pr, pg, hM, h1, h2, h3⟩ := M.ob
    have hul := M.runs.len
    have few := G.few
    have sz := G.size
    have hF := G.fits
    refine ⟨_, rfl, _, rfl, x, kd, s, us, rs, gs, v, rfl, M, by omega, ?_⟩
    rcases hcase with ⟨D, hD, k⟩ | hb
    rotate_left
    · exact .inr hb
    have hDl := hD.len
    refine .inl ⟨D, hD, fun H1 A e1 hA => ?_⟩
    have hDg : ∀ {z : Nat}, z < s → atI (D.map V.int) (z : Int) = some (.int (D.getD z 0)) := fun {z} hz => atI_nat (by
      rw [List.getElem?_map, List.getElem?_eq_getElem (by omega), List.getD_eq_getElem?_getD, List.getElem?_eq_getElem (by omega)]
      rfl)
    refine ⟨_, rfl, x, kd, s, us, rs, gs, rfl, M.ex e1, _, rfl, ?_⟩
    rcases hM.kd2 with rfl | rfl
    · refine iteF' (by decide +kernel) ?_
      refine ⟨_, rfl, _, rfl, A, D, rfl, hA, by omega, fun H2 N e2 hN => ?_⟩
      have e12 := e1.trans e2
      rw [begL_row, hDl] at hN
      refine ⟨(by show 1 ≤ sizeLine; decide), fun p1 hp1 => ?_⟩
      have e3 := e12.trans (Ex.new (o := .lst [V.int 0]) hp1)
      refine ⟨_, rfl, x, Cl, dx, _, _, rfl, e3 _ _ h1, hM.cl T, hM.nS T, mf_size _ _ _, p1, _, _, rfl, rfl, upd_same, by omega, by omega, sz1000 (by show 1 * _ ≤ 1000; omega), fun Sp hSp => ?_⟩
      have e4 := e3.trans (Ex.new (o := .lst (List.replicate ((s : Int)).toNat [V.int 0]).flatten) hSp)
      have hSp4 : upd (upd H2 p1 (.lst [V.int 0])) Sp (.lst (List.replicate ((s : Int)).toNat [V.int 0]).flatten) Sp = some (.lst (zers s)) := by rw [upd_same, Int.toNat_natCast, rep_zers]
      have hN4 := (Ex.new (o := .lst (List.replicate ((s : Int)).toNat [V.int 0]).flatten) hSp) _ _ ((Ex.new (o := .lst [V.int 0]) hp1) _ _ hN)
      generalize upd (upd H2 p1 (.lst [V.int 0])) Sp (.lst (List.replicate ((s : Int)).toNat [V.int 0]).flatten) = H4 at *
      refine ⟨(by show 1 ≤ sizeLine; decide), fun p5 hp5 => ?_⟩
      have e45 : Ex H4 (upd H4 p5 (.lst [V.int 0])) := Ex.new hp5
      have e5 := e4.trans e45
      refine ⟨_, rfl, x, "join", s, us, rs, gs, rfl, M.ex e5, p5, _, _, rfl, rfl, upd_same, by omega, by omega, sz1000 (by show 1 * _ ≤ 1000; omega), fun W hW => ?_⟩
      have e56 := Ex.new (H := upd H4 p5 (.lst [V.int 0])) (o := .lst (List.replicate ((us.length : Int)).toNat [V.int 0]).flatten) hW
      have e6 := e5.trans e56
      refine ⟨x, N, Sp, W, s, us, rs, gs, D, rfl, M.ex e6, by omega, by omega, hF, hDl, e56 _ _ (e45 _ _ hN4), e56 _ _ (e45 _ _ hSp4), by rw [upd_same, Int.toNat_natCast, rep_zers], fun H7 t C N2 c S e7 ht hC hN2 hst => ?_⟩
      have e17 := e6.trans e7
      refine ⟨t, _, rfl, SqT.of ht, rfl, _, _, rfl, _, _, rfl, rfl, ?_⟩
      have s1 : (s : Int) + 1 = ((s + 1 : Nat) : Int) := by omega
      have hN' : ∀ {q : Nat}, q < s + 1 → ((rowOf (s + 1) (needF rs D c)).map V.int)[q]? = some (V.int (needF rs D c q)) := fun {q} hq => by
        rw [List.getElem?_map, row_get hq]
        rfl
      refine ⟨_, rfl, x, Cl, dx, _, _, rfl, e17 _ _ h1, hM.cl T, hM.nS T, mf_size _ _ _, _, _, rfl, rfl, ?_⟩
      refine ⟨((s + 1 : Nat) : Int), congrArg (fun z => [V.int z]) s1, by omega, by omega, fun St hSt => lcf (n := s + 1) (fun q => decide (needF rs D c q > 0)) (by omega) (fun _ => rfl) (fun z H' R hz e r => ?_) (fun z H' R hz e r => ⟨_, rfl, r⟩) hSt (fun H8 e8 hSt8 => ?_)⟩
      · exact ⟨_, rfl, _, rfl, N2, _, _, _, rfl, rfl, SqL.of (e _ _ hN2), atI_nat (hN' hz), _, _, rfl, rfl, _, rfl, r⟩
      have e18 := e17.trans e8
      rw [hul] at hst
      have hpres : ∀ p ∈ c, 0 ≤ p ∧ p < rs.length := fun p hp => (thL_mem.mp (hst.hs p hp)).1
      refine ⟨_, rfl, !(((upto (s + 1)).filter fun q => decide (needF rs D c q > 0)).map V.int).isEmpty, .inl ⟨_, SqL.of hSt8, rfl⟩, ?_⟩
      by_cases hany : ∃ q : Nat, q ≤ s ∧ 0 < needF rs D c q
      rotate_left
      · have hnil : (upto (s + 1)).filter (fun q => decide (needF rs D c q > 0)) = [] := List.filter_eq_nil_iff.mpr fun q hq => by
          have hb := upto_mem.mp hq
          obtain ⟨n, rfl⟩ : ∃ n : Nat, q = n := ⟨q.toNat, by omega⟩
          rw [decide_eq_true_iff]
          exact fun z => hany ⟨n, by omega, z⟩
        rw [hnil]
        refine iteT' rfl (k H8 _ e18 (.inl ⟨rfl, c, hst.hc, hst.hs, (joinOk_iff hDl hF hpres).mpr (need_zero hDl hF hpres fun q hq => Int.not_lt.mp fun z => hany ⟨q, hq, z⟩)⟩))
      obtain ⟨q0, hq0, hn0⟩ := hany
      have hmem : (q0 : Int) ∈ (upto (s + 1)).filter (fun q => decide (needF rs D c q > 0)) := List.mem_filter.mpr ⟨upto_mem.mpr (by omega), decide_eq_true hn0⟩
      have hne : (((upto (s + 1)).filter fun q => decide (needF rs D c q > 0)).map V.int).isEmpty = false := by
        cases hz : (upto (s + 1)).filter fun q => decide (needF rs D c q > 0) with
        | nil => rw [hz] at hmem; cases hmem
        | cons a l => rfl
      rw [hne]
      refine iteF' rfl ?_
      have hthl := thL_len us.length gs
      have lowc : Low c := ⟨fun p hp => by have := hpres p hp; omega⟩
      have clen : c.length < 60 := by
        have := nodup_few (n := rs.length) (asc_nodup hst.hc) hpres
        omega
      refine ⟨_, rfl, x, Cl, dx, _, _, rfl, e18 _ _ h1, hM.cl T, hM.nS T, mf_size _ _ _, _, _, rfl, rfl, ?_⟩
      refine ⟨_, rfl, _, rfl, (by show 0 ≤ sizeLine; decide), fun p9 hp9 => ?_⟩
      have e89 := Ex.new (o := .tup []) hp9
      have e19 := e18.trans e89
      refine ⟨x, C, .ref p9, s, us, rs, gs, c, rfl, M.ex e19, by omega, e89 _ _ (e8 _ _ hC), lowc, clen, fun H10 L ws e10 hL0 hL hT => ?_⟩
      have e110 := e19.trans e10
      have lenA : (arcsL rs (thL us.length gs) c).length < 60 := by
        unfold arcsL
        rw [List.length_map]
        omega
      have inA : ArcsIn (s + 1) (arcsL rs (thL us.length gs) c) := fun a ha => by
        obtain ⟨p, hp, rfl⟩ := List.mem_map.mp ha
        have hb := (thL_mem.mp hp).1
        obtain ⟨f0, f1, f2⟩ := hF _ (rn_mem (rs := rs) (p := p) hb.1 (by omega))
        unfold arcOf
        split
        · exact ⟨⟨by show 0 ≤ (rn rs p).2; omega, by show (rn rs p).2 < _; omega⟩, by show 0 ≤ (rn rs p).1; omega, by show (rn rs p).1 < _; omega⟩
        · exact ⟨⟨by show 0 ≤ (rn rs p).1; omega, by show (rn rs p).1 < _; omega⟩, by show 0 ≤ (rn rs p).2; omega, by show (rn rs p).2 < _; omega⟩
      refine ⟨_, rfl, s + 1, L, St, ws, _, _, congrArg (fun z => [V.int z, V.ref L, V.ref St]) s1, by omega, hL, hT, lenA, inA, e10 _ _ (e89 _ _ hSt8), ?_, fun q hq => ?_, fun H11 t2 pts e11 ht2 hasc hinn hsub hcl hmin => ?_⟩
      · refine Nat.le_trans (List.length_filter_le _ _) ?_
        rw [upto_len]
        omega
      · exact upto_mem.mp (List.mem_filter.mp hq).1
      rw [hul] at hcl hmin
      have hold : ∀ q ∈ pts, q ∈ S := hmin S hst.cl fun q hq => by
        have hm := List.mem_filter.mp hq
        have hb := upto_mem.mp hm.1
        obtain ⟨n, rfl⟩ : ∃ n : Nat, q = n := ⟨q.toNat, by omega⟩
        exact hst.pos n (by omega) (of_decide_eq_true hm.2)
      have hst2 : Stops s rs (thL rs.length gs) D c pts := ⟨hst.hc, hst.hp, hst.hs, asc_nodup hasc, hcl, fun q hq h => hsub _ (List.mem_filter.mpr ⟨upto_mem.mpr (by omega), decide_eq_true h⟩), fun q hq => by have := hinn q hq; omega, fun q hq => hst.neg q (hold q hq)⟩
      refine k H11 _ (e110.trans e11) (.inr ⟨t2, pts, rfl, ht2, hasc, fun z => ?_, hst2.inn, hst2.lack hq0 hn0, fun z => ?_, fun X hX hXs z => hst2.none hq0 hn0 hX hXs ((joinOk_iff hDl hF fun p hp => (thL_mem.mp (hXs p hp)).1).mp z)⟩)
      · have := hst2.pos q0 hq0 hn0
        rw [z] at this
        cases this
      · exact absurd z (by decide +kernel)
    · refine iteT' (by decide +kernel) ?_
      refine ⟨_, rfl, _, rfl, x, "lap", s, us, rs, gs, rfl, M.ex e1, x, "lap", s, us, rs, gs, rfl, M.ex e1, by omega, fun H2 t e2 ht0 ht => ?_⟩
      have e12 := e1.trans e2
      rw [hul] at ht
      have hthl := thL_len rs.length gs
      have hpb : ∀ p ∈ thL rs.length gs, 0 ≤ p ∧ p < rs.length := fun p hp => (thL_mem.mp hp).1
      refine ⟨x, t, "lap", s, us, rs, gs, thL rs.length gs, rfl, M.ex e12, by omega, hF, ht, hpb, fun H3 Cv e3 hC0 hC => ?_⟩
      have e13 := e12.trans e3
      have hCg : ∀ {z : Nat}, z < s → atI ((covL s rs (thL rs.length gs)).map V.int) (z : Int) = some (.int (covAt rs (thL rs.length gs) z)) := fun {z} hz => atI_nat (by
        rw [List.getElem?_map]
        unfold covL
        rw [row_get hz]
        rfl)
      have hA3 := e3 _ _ (e2 _ _ hA)
      refine ⟨_, rfl, x, Cl, dx, _, _, rfl, e13 _ _ h1, hM.cl T, hM.nS T, mf_size _ _ _, _, rfl, by omega, by omega, fun Sh hSh => lcf (n := s) (fun q => decide (covAt rs (thL rs.length gs) q < D.getD q.toNat 0)) (by omega) (fun _ => rfl) (fun z H' R hz e r => ?_) (fun z H' R hz e r => ⟨_, rfl, r⟩) hSh (fun H4 e4 hSh4 => ?_)⟩
      · exact ⟨_, rfl, _, rfl, Cv, _, _, _, rfl, rfl, SqT.of (e _ _ hC), hCg hz, _, rfl, _, rfl, A, _, _, _, rfl, rfl, SqT.of (e _ _ hA3), hDg hz, _, _, rfl, rfl, _, rfl, r⟩
      have e14 := e13.trans e4
      refine ⟨_, rfl, !(((upto s).filter fun q => decide (covAt rs (thL rs.length gs) q < D.getD q.toNat 0)).map V.int).isEmpty, .inl ⟨_, SqL.of hSh4, rfl⟩, ?_⟩
      cases hz : (upto s).filter fun q => decide (covAt rs (thL rs.length gs) q < D.getD q.toNat 0) with
      | nil =>
        refine iteF' rfl (k H4 _ e14 (.inl ⟨rfl, thL rs.length gs, thL_asc _ _, fun _ h => h, (lapOk_iff hDl).mpr fun j hj => ?_⟩))
        have := List.filter_eq_nil_iff.mp hz j (upto_mem.mpr (by omega))
        rw [decide_eq_true_iff, Int.toNat_natCast] at this
        omega
      | cons q0 l =>
        rw [hz] at hSh4
        have hm := List.mem_filter.mp (show q0 ∈ (upto s).filter fun q => decide (covAt rs (thL rs.length gs) q < D.getD q.toNat 0) by rw [hz]; exact List.mem_cons_self ..)
        have hb := upto_mem.mp hm.1
        obtain ⟨j, rfl⟩ : ∃ j : Nat, q0 = j := ⟨q0.toNat, by omega⟩
        have hlt : covAt rs (thL rs.length gs) j < D.getD j 0 := by
          have := of_decide_eq_true hm.2
          rw [Int.toNat_natCast] at this
          exact this
        have hjs : j < s := by omega
        refine iteT' rfl ?_
        refine ⟨_, rfl, Sh, _, _, _, rfl, rfl, SqL.of hSh4, atI_nat (j := 0) rfl, j, rfl, by omega, fun H5 t5 e5 ht50 ht5 => ?_⟩
        refine k H5 _ (e14.trans e5) (.inr ⟨t5, upto (j + 1), rfl, ht5, upto_asc _, fun z => ?_, fun q hq => ?_, ?_, fun _ => ⟨j, hjs, rfl, hlt⟩, fun X hX hXs z => ?_⟩)
        · have : (0 : Int) ∈ upto (j + 1) := upto_mem.mpr (by omega)
          rw [z] at this
          cases this
        · have := upto_mem.mp hq
          omega
        · rw [lv_upto hF hpb, upto_flow hDl hjs]
          exact hlt
        · have h5 := (lapOk_iff hDl).mp z j hjs
          have h6 := cov_mono (rs := rs) hX (thL_asc _ _) hXs (j : Int)
          omega
end
end K05


set_option Elab.async false
set_option linter.all false
set_option maxRecDepth 100000
set_option maxHeartbeats 4000000
namespace K05
open PySem PySem.Spec PyProof.Rows L2 RZ StX
open Evl (Ex)
/-- lists of ints in a list, none of them at P -/
structure SetsL (H : Hp) (P : Addr) (ws : List V) (Xs : List (List Int)) : Prop where
  len : ws.length = Xs.length
  at_ : ∀ (i : Nat) (X : List Int), Xs[i]? = some X → ∃ t : Addr, ws[i]? = some (V.ref t) ∧ H t = some (.lst (X.map V.int)) ∧ t ≠ P
theorem SetsL.mono {H H' : Hp} {P P' : Addr} {ws : List V} {Xs : List (List Int)} (h : SetsL H P ws Xs) (e : ∀ (t : Addr) (xs : List V), t ≠ P → H t = some (.lst xs) → H' t = some (.lst xs) ∧ t ≠ P') : SetsL H' P' ws Xs :=
  ⟨h.len, fun i X hi => let ⟨t, a, b, c⟩ := h.at_ i X hi; ⟨t, a, (e t _ c b).1, (e t _ c b).2⟩⟩
theorem SetsL.ex {H H' : Hp} {P : Addr} {ws : List V} {Xs : List (List Int)} (h : SetsL H P ws Xs) (e : Ex H H') : SetsL H' P ws Xs := h.mono fun t xs hn h' => ⟨e _ _ h', hn⟩
theorem SetsL.snoc {H : Hp} {P : Addr} {ws : List V} {Xs : List (List Int)} {t : Addr} {X : List Int} (h : SetsL H P ws Xs) (ht : H t = some (.lst (X.map V.int))) (hn : t ≠ P) : SetsL H P (ws ++ [.ref t]) (Xs ++ [X]) := by
  refine ⟨by simp [h.len], fun i r hi => ?_⟩
  by_cases c : i < Xs.length
  · rw [List.getElem?_append_left c] at hi
    obtain ⟨t', a, b, d⟩ := h.at_ i r hi
    exact ⟨t', by rw [List.getElem?_append_left (by rw [h.len]; exact c)]; exact a, b, d⟩
  · rw [List.getElem?_append_right (by omega)] at hi
    have hz : i - Xs.length = 0 := by
      have := (List.getElem?_eq_some_iff.mp hi).1
      simp at this
      omega
    rw [hz] at hi
    cases hi
    exact ⟨t, by rw [List.getElem?_append_right (by rw [h.len]; omega), h.len, hz]; rfl, ht, hn⟩
theorem SetsL.append {H : Hp} {P : Addr} {ws ws' : List V} {Xs Xs' : List (List Int)} (h : SetsL H P ws Xs) (h' : SetsL H P ws' Xs') : SetsL H P (ws ++ ws') (Xs ++ Xs') := by
  refine ⟨by simp [h.len, h'.len], fun i r hi => ?_⟩
  by_cases c : i < Xs.length
  · rw [List.getElem?_append_left c] at hi
    obtain ⟨t', a, b, d⟩ := h.at_ i r hi
    exact ⟨t', by rw [List.getElem?_append_left (by rw [h.len]; exact c)]; exact a, b, d⟩
  · rw [List.getElem?_append_right (by omega)] at hi
    obtain ⟨t', a, b, d⟩ := h'.at_ _ r hi
    exact ⟨t', by rw [List.getElem?_append_right (by rw [h.len]; omega), h.len]; exact a, b, d⟩
theorem SetsL.get {H : Hp} {P : Addr} {ws : List V} {Xs : List (List Int)} (h : SetsL H P ws Xs) {i : Nat} {v : V} (hv : ws[i]? = some v) : ∃ (t : Addr) (X : List Int), Xs[i]? = some X ∧ v = .ref t ∧ H t = some (.lst (X.map V.int)) ∧ t ≠ P := by
  have hi : i < Xs.length := by
    rw [← h.len]
    exact (List.getElem?_eq_some_iff.mp hv).1
  obtain ⟨t, a, b, c⟩ := h.at_ i _ (List.getElem?_eq_getElem hi)
  rw [hv] at a
  exact ⟨t, _, List.getElem?_eq_getElem hi, Option.some.inj a, b, c⟩
/-- all sets of the parts, and only these -/
structure Subs (ps : List Int) (Xs : List (List Int)) : Prop where
  all : ∀ X : List Int, X.Pairwise (· < ·) → (∀ p ∈ X, p ∈ ps) → X ∈ Xs
  only : ∀ X ∈ Xs, X.Pairwise (· < ·) ∧ ∀ p ∈ X, p ∈ ps
theorem Subs.nil : Subs [] [[]] := by
  refine ⟨fun X _ h => ?_, fun X h => ?_⟩
  · cases X with
    | nil => exact List.mem_cons_self ..
    | cons a l => exact absurd (h a (List.mem_cons_self ..)) (by intro z; cases z)
  · rw [List.mem_singleton] at h
    subst h
    exact ⟨.nil, fun p hp => by cases hp⟩
theorem Subs.step {ps : List Int} {Xs : List (List Int)} {z : Int} (h : Subs ps Xs) (hz : ∀ p ∈ ps, p < z) : Subs (ps ++ [z]) (Xs ++ Xs.map (· ++ [z])) := by
  refine ⟨fun X hX hs => ?_, fun X hX => ?_⟩
  · rw [List.mem_append, List.mem_map]
    by_cases c : z ∈ X
    · refine .inr ⟨X.filter fun p => decide (p ≠ z), h.all _ (hX.filter _) fun p hp => ?_, ?_⟩
      · have hm := List.mem_filter.mp hp
        have hne := of_decide_eq_true hm.2
        exact (List.mem_append.mp (hs p hm.1)).resolve_right fun y => hne (List.mem_singleton.mp y)
      · refine asc_eq ?_ hX fun k => ?_
        · rw [List.pairwise_append]
          refine ⟨hX.filter _, List.pairwise_singleton _ _, fun a ha b hb => ?_⟩
          rw [List.mem_singleton] at hb
          subst hb
          have hm := List.mem_filter.mp ha
          have hne := of_decide_eq_true hm.2
          exact hz a ((List.mem_append.mp (hs a hm.1)).resolve_right fun y => hne (List.mem_singleton.mp y))
        · rw [List.mem_append, List.mem_filter, List.mem_singleton, decide_eq_true_iff]
          constructor
          · rintro (y | rfl)
            · exact y.1
            · exact c
          · intro y
            by_cases d : k = z
            · exact .inr d
            · exact .inl ⟨y, d⟩
    · exact .inl (h.all X hX fun p hp => (List.mem_append.mp (hs p hp)).resolve_right fun y => c (List.mem_singleton.mp y ▸ hp))
  · rw [List.mem_append, List.mem_map] at hX
    rcases hX with hX | ⟨Y, hY, rfl⟩
    · exact ⟨(h.only X hX).1, fun p hp => List.mem_append_left _ ((h.only X hX).2 p hp)⟩
    · obtain ⟨y1, y2⟩ := h.only Y hY
      refine ⟨?_, fun p hp => ?_⟩
      · rw [List.pairwise_append]
        refine ⟨y1, List.pairwise_singleton _ _, fun a ha b hb => ?_⟩
        rw [List.mem_singleton] at hb
        subst hb
        exact hz a (y2 a ha)
      · rcases List.mem_append.mp hp with y | y
        · exact List.mem_append_left _ (y2 p y)
        · exact List.mem_append_right _ y
theorem asc_lt {ns : List Int} {i : Nat} {z : Int} (hp : ns.Pairwise (· < ·)) (h : ns[i]? = some z) : ∀ p ∈ ns.take i, p < z := by
  intro p q
  obtain ⟨j, hj, e⟩ := List.mem_iff_getElem.mp q
  obtain ⟨hil, hie⟩ := List.getElem?_eq_some_iff.mp h
  rw [List.length_take] at hj
  have := List.pairwise_iff_getElem.mp hp j i (by omega) hil (by omega)
  rw [List.getElem_take] at e
  rw [e, hie] at this
  exact this
section
variable {w : World} {K : PySem.W.Frag} {mg : Str → Option Value} {base : Heap}
abbrev nSs : List Str := ["_law_parts_here", "_law_sets_here", "_law_part", "_law_one"]
theorem sc_Ss : FnScope nSs ["_law_parts_here"] (defScope s__law_sets) := ⟨rfl, rfl, rfl, by decide +kernel, rfl, by decide +kernel, by decide +kernel⟩
def spSets : Sp := fun vs H Q _ => ∃ (A : Addr) (ps : List Int), vs = [.ref A] ∧ H A = some (.lst (ps.map V.int)) ∧ ps.Pairwise (· < ·) ∧ ps.length ≤ 9 ∧ ∀ (H' : Hp) (S : Addr) (ws : List V) (Xs : List (List Int)), Ex H H' → H' S = some (.lst ws) → SetsL H' A ws Xs → Subs ps Xs → Q (.ref S) H'
theorem pow8 {i : Nat} (h : i ≤ 8) : 2 ^ i ≤ 256 := Nat.pow_le_pow_right (by decide) h
set_option maxHeartbeats 8000000 in
theorem has_Ss (T : Ctx K mg) : Has w K mg base CX0 "_law_sets" 1 ["_law_parts_here"] spSets := by
  refine has_of (st := s__law_sets) (f := He.ga K "_law_sets") T.d__law_sets T.g__law_sets (fun _ _ _ _ _ _ us hl => match us, hl with | [_], _ => rfl) fun fd F => ?_
  refine ok0 F sc_Ss (fun vs H Q E h => ?_) (fun cdv A0 outer s0 H vs Q E hr h => ?_)
  · obtain ⟨A, ps, rfl, _⟩ := h
    rfl
  · obtain ⟨A, ps, rfl, hA, hasc, hl8, k⟩ := h
    have nd := sc_Ss.nd
    refine ⟨_, pss_cons (ps_set (i := 1) nd rfl (.inl rfl) (pe_lst (pa_cons (pe_lst pa_nil) pa_nil)))
      (pss_cons (ps_for PassesOwn.never rfl (pi_list (pv 0)) (pg_name (i := 2) nd rfl (.inr rfl))
        (pss_one (ps_set (i := 1) nd rfl (.inl rfl) (pe_op op_cat (pv 1)
          (pe_lc (own := [("_law_one", 3)]) (g := gName 3) (tt := tYes) rfl nd (pi_list (pv 1)) (blkOk_by (own := [("_law_one", 3)]) (N := nSs) (sc := defScope s__law_sets) (by decide +kernel)) (fun _ _ _ _ _ => pg_name (i := 3) nd rfl (Or.inl rfl)) (fun _ _ _ _ _ => pts_nil)
            (fun _ _ _ _ _ => pe_op op_cat (pv 3) (pe_lst (pa_cons (pv 2) pa_nil))))))))
      (pss_one (ps_ret (pv 1)))), ?_⟩
    refine ⟨(by show 0 ≤ sizeLine; decide), fun p0 hp0 => ?_⟩
    have e0 := Ex.new (o := .lst []) hp0
    refine ⟨(by show 1 ≤ sizeLine; decide), fun S0 hS0 => ?_⟩
    have e1 := Ex.new (o := .lst [V.ref p0]) hS0
    have e01 := e0.trans e1
    refine ⟨_, rfl, A, rfl, ⟨_, SqL.of (e01 _ _ hA)⟩, for_it walk_list (fun i σ H' => ∃ (S : Addr) (v2 : Option V) (ws : List V) (Xs : List (List Int)), σ = [some (.ref A), some (.ref S), v2, none] ∧ Ex H H' ∧ H' S = some (.lst ws) ∧ SetsL H' A ws Xs ∧ Xs.length = 2 ^ i ∧ Subs (ps.take i) Xs) ⟨S0, none, [.ref p0], [[]], rfl, e01, upd_same, ?_, rfl, Subs.nil⟩ (fun i σ H' _ ⟨_, _, _, _, _, e, _⟩ => SqL.of (e _ _ hA)) ?_ ?_⟩
    · refine ⟨rfl, fun i X hi => ?_⟩
      cases i with
      | zero =>
        cases hi
        exact ⟨p0, rfl, e1 _ _ upd_same, Ne.symm (ne_of_none hA hp0)⟩
      | succ i => simp at hi
    · rintro i v σ H3 H2 hi ⟨S, v2, ws, Xs, rfl, e2, hS, hW, hlen, hsub⟩ ⟨rfl, hx⟩
      obtain ⟨z, hz, rfl⟩ := map_int_get hx
      have hil : i < ps.length := (List.getElem?_eq_some_iff.mp hz).1
      have h256 := pow8 (i := i) (by omega)
      refine ⟨_, rfl, _, rfl, S, rfl, ⟨_, SqL.of hS⟩, fun P hP => lc_it walk_list (fun j H' => Ex H2 H' ∧ ∃ zs, H' P = some (.lst zs) ∧ SetsL H' P zs ((Xs.take j).map (· ++ [z])) ∧ SetsL H' A zs ((Xs.take j).map (· ++ [z]))) ⟨Ex.new hP, [], upd_same, ⟨rfl, fun i X h => by simp at h⟩, ⟨rfl, fun i X h => by simp at h⟩⟩ (fun j H' _ q => Ex.lst q.1 hS) ?_ ?_⟩
      · rintro j y H4 H5 hj ⟨e4, zs, hP4, hZ, hZA⟩ ⟨rfl, hy⟩
        obtain ⟨t, X, hX, rfl, ht, _⟩ := (hW.ex e4).get hy
        have hjl : j < Xs.length := (List.getElem?_eq_some_iff.mp hX).1
        have hXl : X.length ≤ 8 := by
          have ho := hsub.only X (List.mem_of_getElem? hX)
          have h1 : X.length ≤ (ps.take i).length := by
            rw [sub_filter ho.1 (hasc.sublist (List.take_sublist i ps)) ho.2]
            exact List.length_filter_le _ _
          rw [List.length_take] at h1
          omega
        refine ⟨rfl, tYesI ?_⟩
        refine ⟨_, rfl, _, rfl, (by show 1 ≤ sizeLine; decide), fun q hq => ?_⟩
        have e5 := Ex.new (o := .lst [V.int z]) hq
        refine ⟨t, q, _, _, rfl, rfl, e5 _ _ ht, upd_same, ?_, fun n hn => ?_⟩
        · rw [List.length_map]
          exact Nat.le_of_lt (small1000 (show X.length + 1 ≤ 1000 by omega))
        have e6 := Ex.new (o := .lst (X.map V.int ++ [V.int z])) hn
        have e56 := e5.trans e6
        have hnP : n ≠ P := Ne.symm (ne_of_none (e5 _ _ hP4) hn)
        have hnA : n ≠ A := Ne.symm (ne_of_none (e5 _ _ (e4 _ _ (e2 _ _ hA))) hn)
        have hPA : A ≠ P := ne_of_none (e2 _ _ hA) hP
        refine ⟨zs, e56 _ _ hP4, ?_, Evl.Ex.mut (e4.trans e56) hP, _, upd_same, ?_, ?_⟩
        · rw [hZ.len, List.length_map, List.length_take]
          exact small1000 (by omega)
        · rw [List.take_add_one, hX, List.map_append]
          refine SetsL.snoc (hZ.mono fun t' xs hn' h' => ⟨?_, hn'⟩) ?_ hnP
          · rw [upd_ne hn']
            exact e56 _ _ h'
          · rw [upd_ne hnP, upd_same, List.map_append]
            rfl
        · rw [List.take_add_one, hX, List.map_append]
          refine SetsL.snoc ⟨hZ.len, fun i' X' h' => ?_⟩ ?_ hnA
          · obtain ⟨t', a1, a2, a3⟩ := hZ.at_ i' X' h'
            obtain ⟨t2, b1, b2, b3⟩ := hZA.at_ i' X' h'
            have : t' = t2 := V.ref.inj (Option.some.inj (a1.symm.trans b1))
            subst this
            exact ⟨t', a1, by rw [upd_ne a3]; exact e56 _ _ a2, b3⟩
          · rw [upd_ne hnP, upd_same, List.map_append]
            rfl
      rintro H4 ⟨e4, zs, hP4, hZ, hZA⟩
      rw [hW.len, List.take_length] at hZA
      have hzl : zs.length = Xs.length := by rw [hZA.len, List.length_map]
      have hwl := hW.len
      refine ⟨S, P, _, _, rfl, rfl, e4 _ _ hS, hP4, ?_, fun R hR => ?_⟩
      · rw [hwl, hzl]
        exact Nat.le_of_lt (small1000 (by omega))
      have e5 := Ex.new (o := .lst (ws ++ zs)) hR
      refine ⟨R, _, _, Xs ++ Xs.map (· ++ [z]), rfl, e2.trans (e4.trans e5), upd_same, ((hW.ex e4).append hZA).ex e5, ?_, ?_⟩
      · rw [List.length_append, List.length_map, hlen, Nat.pow_succ]
        omega
      · rw [List.take_add_one, hz]
        exact hsub.step (asc_lt hasc hz)
    · rintro σ H2 ⟨S, v2, ws, Xs, rfl, e2, hS, hW, hlen, hsub⟩
      rw [List.length_map, List.take_length] at hsub
      exact ⟨_, rfl, k H2 S ws Xs e2 hS hW hsub⟩
end
end K05


set_option Elab.async false
set_option linter.all false
set_option maxRecDepth 100000
set_option maxHeartbeats 4000000
namespace K05
open PySem PySem.Spec PyProof.Rows L2 RZ StX
open Evl (Ex)
theorem begD_two (D : List Int) {q : Int} (h0 : 0 ≤ q) (h1 : q ≤ D.length) : begD D q = (if q < D.length then D.getD q.toNat 0 else 0) - (if 0 < q then D.getD (q - 1).toNat 0 else 0) := by
  obtain ⟨n, rfl⟩ : ∃ n : Nat, q = n := ⟨q.toNat, by omega⟩
  unfold begD
  rw [Int.toNat_natCast]
  have a : (D ++ [0]).getD n 0 = if (n : Int) < D.length then D.getD n 0 else 0 := by
    rw [List.getD_eq_getElem?_getD, List.getD_eq_getElem?_getD]
    by_cases c : (n : Int) < D.length
    · rw [if_pos c, List.getElem?_append_left (by omega)]
    · rw [if_neg c, List.getElem?_append_right (by omega), show n - D.length = 0 by omega]
      rfl
  have b : (0 :: D).getD n 0 = if 0 < (n : Int) then D.getD ((n : Int) - 1).toNat 0 else 0 := by
    cases n with
    | zero => rfl
    | succ m =>
      rw [if_pos (by omega), show (((m + 1 : Nat) : Int) - 1).toNat = m by omega]
      rfl
  rw [a, b]
section
variable {w : World} {K : PySem.W.Frag} {mg : Str → Option Value} {base : Heap}
abbrev nLo : List Str := ["_law_row", "_law_points_here", "_law_total", "_law_point"]
theorem sc_Lo : FnScope nLo ["_law_row", "_law_points_here"] (defScope s__law_outflow) := ⟨rfl, rfl, rfl, by decide +kernel, rfl, by decide +kernel, by decide +kernel⟩
def spLOut : Sp := fun vs H Q _ => ∃ (R P : Addr) (D ns : List Int), vs = [.ref R, .ref P] ∧ H R = some (.lst (D.map V.int)) ∧ D.length ≤ 50 ∧ SeqAt2 H P (ns.map V.int) ∧ (∀ n ∈ ns, 0 ≤ n ∧ n ≤ D.length) ∧ Q (.int (sm (begD D) ns)) H
set_option maxHeartbeats 8000000 in
theorem has_Lo (T : Ctx K mg) : Has w K mg base CX0 "_law_outflow" 1 ["_law_row", "_law_points_here"] spLOut := by
  refine has_of (st := s__law_outflow) (f := He.ga K "_law_outflow") T.d__law_outflow T.g__law_outflow (fun _ _ _ _ _ _ us hl => match us, hl with | [_, _], _ => rfl) fun fd F => ?_
  refine ok0 F sc_Lo (fun vs H Q E h => ?_) (fun cdv A0 outer s0 H vs Q E hr h => ?_)
  · obtain ⟨R, P, D, ns, rfl, _⟩ := h
    rfl
  · obtain ⟨R, P, D, ns, rfl, hR, hD, hP, hn, k⟩ := h
    have nd := sc_Lo.nd
    refine ⟨_, pss_cons (ps_set (i := 2) nd rfl (.inl rfl) pe_int)
      (pss_cons (ps_for PassesOwn.never rfl (pi_or (pi_list (pv 1)) (pi_tup (pv 1))) (pg_name (i := 3) nd rfl (.inl rfl))
        (pss_cons (ps_if (pt_cmpR op_lt (pv 3) (pe_callB call_len_seq (by rfl) T.b_len PySem.boot_len (pa_cons (pv 0) pa_nil)) (nomark _)) (pss_one (ps_aug (i := 2) nd rfl (.inl rfl) (pe_ix ix_list (pv 0) (pv 3) (fun _ _ => rfl)) ip_add)) pss_nil)
        (pss_one (ps_if (pt_cmpR op_gt (pv 3) pe_int (nomark _)) (pss_one (ps_aug (i := 2) nd rfl (.inl rfl) (pe_ix ix_list (pv 0) (pe_op op_sub (pv 3) pe_int) (fun _ _ => rfl)) ip_sub)) pss_nil))))
      (pss_one (ps_ret (pv 2)))), ?_⟩
    have hDg : ∀ {z : Int}, 0 ≤ z → z < D.length → atI (D.map V.int) z = some (.int (D.getD z.toNat 0)) := fun {z} h0 hz => by
      obtain ⟨n, rfl⟩ : ∃ n : Nat, z = n := ⟨z.toNat, by omega⟩
      refine atI_nat ?_
      rw [Int.toNat_natCast, List.getElem?_map, List.getElem?_eq_getElem (by omega), List.getD_eq_getElem?_getD, List.getElem?_eq_getElem (by omega)]
      rfl
    have tk : ∀ {i : Nat} {z : Int}, ns[i]? = some z → sm (begD D) (ns.take (i + 1)) = sm (begD D) (ns.take i) + begD D z := fun {i z} hz => by
      rw [List.take_add_one, hz, sm_append]
      show _ + (begD D z + 0) = _
      omega
    rcases hP with hP | hP
    · refine .inl ⟨_, rfl, P, rfl, ⟨_, SqL.of hP⟩, for_it walk_list (fun i σ H' => ∃ v3 : Option V, σ = [some (.ref R), some (.ref P), some (.int (sm (begD D) (ns.take i))), v3] ∧ H' = H) ⟨none, rfl, rfl⟩ (fun i σ H' _ ⟨_, _, e⟩ => by rw [e]; exact SqL.of hP) ?_ ?_⟩
      · rintro i v σ H2 H3 hi ⟨v3, rfl, rfl⟩ ⟨rfl, hx⟩
        obtain ⟨z, hz, rfl⟩ := map_int_get hx
        have hb := hn z (List.mem_of_getElem? hz)
        have t1 := tk hz
        rw [begD_two D hb.1 hb.2] at t1
        have lenr : (((D.map V.int).length : Nat) : Int) = (D.length : Nat) := by rw [List.length_map]
        refine ⟨_, rfl, _, rfl, R, _, rfl, .inl (SqL.of hR), _, _, rfl, rfl, _, rfl, ?_⟩
        rw [lenr]
        by_cases c1 : z < (D.length : Int)
        · rw [if_pos c1] at t1
          refine iteT' (decide_eq_true c1) ?_
          refine ⟨_, rfl, _, rfl, _, rfl, R, _, _, _, rfl, rfl, SqL.of hR, hDg hb.1 c1, _, _, rfl, rfl, ?_⟩
          by_cases c2 : 0 < z
          · rw [if_pos c2] at t1
            refine ⟨_, rfl, _, _, rfl, rfl, _, rfl, iteT' (decide_eq_true c2) ?_⟩
            refine ⟨_, rfl, _, rfl, _, rfl, _, _, rfl, rfl, R, _, _, _, rfl, rfl, SqL.of hR, hDg (by omega) (by omega), _, _, rfl, rfl, some (.int z), ?_, rfl⟩
            rw [t1]
            refine congrArg (fun q => [some (V.ref R), some (V.ref P), some (V.int q), some (V.int z)]) ?_
            try dsimp only
            omega
          · rw [if_neg c2] at t1
            refine ⟨_, rfl, _, _, rfl, rfl, _, rfl, iteF' (decide_eq_false c2) ⟨some (.int z), ?_, rfl⟩⟩
            rw [t1]
            refine congrArg (fun q => [some (V.ref R), some (V.ref P), some (V.int q), some (V.int z)]) ?_
            try dsimp only
            omega
        · rw [if_neg c1] at t1
          refine iteF' (decide_eq_false c1) ?_
          by_cases c2 : 0 < z
          · rw [if_pos c2] at t1
            refine ⟨_, rfl, _, _, rfl, rfl, _, rfl, iteT' (decide_eq_true c2) ?_⟩
            refine ⟨_, rfl, _, rfl, _, rfl, _, _, rfl, rfl, R, _, _, _, rfl, rfl, SqL.of hR, hDg (by omega) (by omega), _, _, rfl, rfl, some (.int z), ?_, rfl⟩
            rw [t1]
            refine congrArg (fun q => [some (V.ref R), some (V.ref P), some (V.int q), some (V.int z)]) ?_
            try dsimp only
            omega
          · rw [if_neg c2] at t1
            refine ⟨_, rfl, _, _, rfl, rfl, _, rfl, iteF' (decide_eq_false c2) ⟨some (.int z), ?_, rfl⟩⟩
            rw [t1]
            refine congrArg (fun q => [some (V.ref R), some (V.ref P), some (V.int q), some (V.int z)]) ?_
            try dsimp only
            omega
      · rintro σ H2 ⟨v3, rfl, rfl⟩
        rw [List.length_map, List.take_length]
        exact ⟨_, rfl, k⟩
    · refine .inr ⟨_, rfl, P, rfl, ⟨_, SqT.of hP⟩, for_it walk_tup (fun i σ H' => ∃ v3 : Option V, σ = [some (.ref R), some (.ref P), some (.int (sm (begD D) (ns.take i))), v3] ∧ H' = H) ⟨none, rfl, rfl⟩ (fun i σ H' _ ⟨_, _, e⟩ => by rw [e]; exact SqT.of hP) ?_ ?_⟩
      · rintro i v σ H2 H3 hi ⟨v3, rfl, rfl⟩ ⟨rfl, hx⟩
        obtain ⟨z, hz, rfl⟩ := map_int_get hx
        have hb := hn z (List.mem_of_getElem? hz)
        have t1 := tk hz
        rw [begD_two D hb.1 hb.2] at t1
        have lenr : (((D.map V.int).length : Nat) : Int) = (D.length : Nat) := by rw [List.length_map]
        refine ⟨_, rfl, _, rfl, R, _, rfl, .inl (SqL.of hR), _, _, rfl, rfl, _, rfl, ?_⟩
        rw [lenr]
        by_cases c1 : z < (D.length : Int)
        · rw [if_pos c1] at t1
          refine iteT' (decide_eq_true c1) ?_
          refine ⟨_, rfl, _, rfl, _, rfl, R, _, _, _, rfl, rfl, SqL.of hR, hDg hb.1 c1, _, _, rfl, rfl, ?_⟩
          by_cases c2 : 0 < z
          · rw [if_pos c2] at t1
            refine ⟨_, rfl, _, _, rfl, rfl, _, rfl, iteT' (decide_eq_true c2) ?_⟩
            refine ⟨_, rfl, _, rfl, _, rfl, _, _, rfl, rfl, R, _, _, _, rfl, rfl, SqL.of hR, hDg (by omega) (by omega), _, _, rfl, rfl, some (.int z), ?_, rfl⟩
            rw [t1]
            refine congrArg (fun q => [some (V.ref R), some (V.ref P), some (V.int q), some (V.int z)]) ?_
            try dsimp only
            omega
          · rw [if_neg c2] at t1
            refine ⟨_, rfl, _, _, rfl, rfl, _, rfl, iteF' (decide_eq_false c2) ⟨some (.int z), ?_, rfl⟩⟩
            rw [t1]
            refine congrArg (fun q => [some (V.ref R), some (V.ref P), some (V.int q), some (V.int z)]) ?_
            try dsimp only
            omega
        · rw [if_neg c1] at t1
          refine iteF' (decide_eq_false c1) ?_
          by_cases c2 : 0 < z
          · rw [if_pos c2] at t1
            refine ⟨_, rfl, _, _, rfl, rfl, _, rfl, iteT' (decide_eq_true c2) ?_⟩
            refine ⟨_, rfl, _, rfl, _, rfl, _, _, rfl, rfl, R, _, _, _, rfl, rfl, SqL.of hR, hDg (by omega) (by omega), _, _, rfl, rfl, some (.int z), ?_, rfl⟩
            rw [t1]
            refine congrArg (fun q => [some (V.ref R), some (V.ref P), some (V.int q), some (V.int z)]) ?_
            try dsimp only
            omega
          · rw [if_neg c2] at t1
            refine ⟨_, rfl, _, _, rfl, rfl, _, rfl, iteF' (decide_eq_false c2) ⟨some (.int z), ?_, rfl⟩⟩
            rw [t1]
            refine congrArg (fun q => [some (V.ref R), some (V.ref P), some (V.int q), some (V.int z)]) ?_
            try dsimp only
            omega
      · rintro σ H2 ⟨v3, rfl, rfl⟩
        rw [List.length_map, List.take_length]
        exact ⟨_, rfl, k⟩
abbrev nOe : List Str := ["_law_runs", "_law_present", "_law_points_here", "_law_inward", "_law_found", "_law_part", "_law_begins_in", "_law_ends_in"]
theorem sc_Oe : FnScope nOe ["_law_runs", "_law_present", "_law_points_here", "_law_inward"] (defScope s__law_over_edge) := ⟨rfl, rfl, rfl, by decide +kernel, rfl, by decide +kernel, by decide +kernel⟩
def ovB (inw : Bool) (rs : List (Int × Int)) (ns : List Int) (p : Int) : Bool := if inw then enB rs ns p else lvB rs ns p
def spOver : Sp := fun vs H Q _ => ∃ (R A P : Addr) (us : List V) (rs : List (Int × Int)) (pres ns : List Int) (inw : Bool), vs = [.ref R, .ref A, .ref P, .bl inw] ∧ H R = some (.lst us) ∧ Runs H us rs ∧ H A = some (.lst (pres.map V.int)) ∧ (∀ p ∈ pres, 0 ≤ p ∧ p < rs.length) ∧ pres.length ≤ 50 ∧ SeqAt2 H P (ns.map V.int) ∧
  ∀ (H' : Hp) (F : Addr), Ex H H' → H' F = some (.tup ((pres.filter (ovB inw rs ns)).map V.int)) → Q (.ref F) H'
set_option maxHeartbeats 8000000 in
theorem has_Oe (T : Ctx K mg) : Has w K mg base CX0 "_law_over_edge" 1 ["_law_runs", "_law_present", "_law_points_here", "_law_inward"] spOver := by
  refine has_of (st := s__law_over_edge) (f := He.ga K "_law_over_edge") T.d__law_over_edge T.g__law_over_edge (fun _ _ _ _ _ _ us hl => match us, hl with | [_, _, _, _], _ => rfl) fun fd F => ?_
  refine ok0 F sc_Oe (fun vs H Q E h => ?_) (fun cdv A0 outer s0 H vs Q E hr h => ?_)
  · obtain ⟨R, A, P, us, rs, pres, ns, inw, rfl, _⟩ := h
    rfl
  · obtain ⟨R, A, P, us, rs, pres, ns, inw, rfl, hR, hU, hA, hp, hl, hP, k⟩ := h
    have nd := sc_Oe.nd
    refine ⟨_, pss_cons (ps_set (i := 4) nd rfl (.inl rfl) (pe_lst pa_nil))
      (pss_cons (ps_for PassesOwn.never rfl (pi_list (pv 1)) (pg_name (i := 5) nd rfl (.inl rfl))
        (pss_cons (ps_set (i := 6) nd rfl (.inl rfl) (pe_cmpR op_in_seq (pe_ix ix_tup (pe_ix ix_list (pv 0) (pv 5) (fun _ _ => rfl)) pe_int (fun _ _ => rfl)) (pv 2) (by rfl)))
        (pss_cons (ps_set (i := 7) nd rfl (.inl rfl) (pe_cmpR op_in_seq (pe_ix ix_tup (pe_ix ix_list (pv 0) (pv 5) (fun _ _ => rfl)) pe_int (fun _ _ => rfl)) (pv 2) (by rfl)))
        (pss_one (ps_if (PW.pt (pw_or (PW.pt (pw_and (pt_val (pv 3)) (pw_and (pt_val (pv 7)) (pw_and1 (pt_not (pt_val (pv 6))))))) (pw_or1 (PW.pt (pw_and (pt_not (pt_val (pv 3))) (pw_and (pt_val (pv 6)) (pw_and1 (pt_not (pt_val (pv 7))))))))))
          (pss_one (ps_expr (pe_bm PySem.F.plainAttrs_list PySem.F.slot_list_append PySem.F.type_list_append mt_append (pv 4) (pa_cons (pv 5) pa_nil)))) pss_nil)))))
      (pss_one (ps_ret (pe_callTy call_tuple_of (by rfl) T.b_tuple (by decide +kernel) (pa_cons (pv 4) pa_nil))))), ?_⟩
    refine ⟨(by show 0 ≤ sizeLine; decide), fun L hL => ?_⟩
    have e0 := Ex.new (o := .lst []) hL
    refine ⟨_, rfl, A, rfl, ⟨_, SqL.of (e0 _ _ hA)⟩, for_it walk_list (fun i σ H' => ∃ v5 v6 v7 : Option V, σ = [some (.ref R), some (.ref A), some (.ref P), some (.bl inw), some (.ref L), v5, v6, v7] ∧ Ex H H' ∧ H' L = some (.lst (((pres.take i).filter (ovB inw rs ns)).map V.int))) ⟨_, _, _, rfl, e0, upd_same⟩ (fun i σ H' _ ⟨_, _, _, _, e, _⟩ => SqL.of (e _ _ hA)) ?_ ?_⟩
    · rintro i v σ H3 H2 hi ⟨v5, v6, v7, rfl, e2, hL2⟩ ⟨rfl, hx⟩
      obtain ⟨z, hz, rfl⟩ := map_int_get hx
      have hil : i < pres.length := (List.getElem?_eq_some_iff.mp hz).1
      have hb := hp z (List.mem_of_getElem? hz)
      obtain ⟨m, rfl⟩ : ∃ m : Nat, z = m := ⟨z.toNat, by omega⟩
      have hn : m < rs.length := by omega
      obtain ⟨t, ht, htt⟩ := (hU.ex e2).at_ m _ (List.getElem?_eq_getElem hn)
      have hrn : rn rs (m : Int) = rs[m] := by
        unfold rn
        rw [Int.toNat_natCast, List.getD_eq_getElem?_getD, List.getElem?_eq_getElem hn]
        rfl
      have hix : atI us (m : Int) = some (.ref t) := atI_nat ht
      have hPs := (hP.ex e2).imp (SqL.of (K := K)) (SqT.of (K := K))
      refine ⟨_, rfl, _, rfl, R, us, _, _, rfl, rfl, SqL.of (e2 _ _ hR), hix, t, _, 0, _, rfl, rfl, SqT.of htt, atI_nat (j := 0) rfl, _, rfl, P, _, rfl, hPs, rfl, flat_ints _, ?_⟩
      rw [inV_ints]
      refine ⟨_, rfl, _, rfl, R, us, _, _, rfl, rfl, SqL.of (e2 _ _ hR), hix, t, _, 1, _, rfl, rfl, SqT.of htt, atI_nat (j := 1) rfl, _, rfl, P, _, rfl, hPs, rfl, flat_ints _, ?_⟩
      rw [inV_ints]
      have tk : (pres.take (i + 1)).filter (ovB inw rs ns) = (pres.take i).filter (ovB inw rs ns) ++ (if ovB inw rs ns (m : Int) = true then [(m : Int)] else []) := by
        rw [List.take_add_one, hz, List.filter_append]
        congr 1
        show [(m : Int)].filter _ = _
        rw [List.filter_cons, List.filter_nil]
      have hov : ovB inw rs ns (m : Int) = (if inw then (decide (rs[m].2 ∈ ns) && !decide (rs[m].1 ∈ ns)) else (decide (rs[m].1 ∈ ns) && !decide (rs[m].2 ∈ ns))) := by
        unfold ovB enB lvB
        rw [hrn]
      rw [hov] at tk
      have hsz : ((pres.take i).filter (ovB inw rs ns)).length ≤ 50 := Nat.le_trans (List.length_filter_le _ _) (by rw [List.length_take]; omega)
      generalize decide (rs[m].1 ∈ ns) = B at *
      generalize decide (rs[m].2 ∈ ns) = C at *
      have no : (pres.take (i + 1)).filter (ovB inw rs ns) = (pres.take i).filter (ovB inw rs ns) → H2 L = some (.lst (((pres.take (i + 1)).filter (ovB inw rs ns)).map V.int)) := fun z => by rw [z]; exact hL2
      have yes : (pres.take (i + 1)).filter (ovB inw rs ns) = (pres.take i).filter (ovB inw rs ns) ++ [(m : Int)] → upd H2 L (.lst (((pres.take i).filter (ovB inw rs ns)).map V.int ++ [V.int m])) L = some (.lst (((pres.take (i + 1)).filter (ovB inw rs ns)).map V.int)) := fun z => by rw [z, upd_same, List.map_append]; rfl
      cases inw <;> cases B <;> cases C
      · exact ⟨_, rfl, false, rfl, iteF' rfl (iteF' rfl ⟨_, rfl, false, rfl, iteT' rfl ⟨_, rfl, false, rfl, iteF' rfl (iteF' rfl ⟨_, _, _, rfl, e2, no (by simpa using tk)⟩)⟩⟩)⟩
      · exact ⟨_, rfl, false, rfl, iteF' rfl (iteF' rfl ⟨_, rfl, false, rfl, iteT' rfl ⟨_, rfl, false, rfl, iteF' rfl (iteF' rfl ⟨_, _, _, rfl, e2, no (by simpa using tk)⟩)⟩⟩)⟩
      · exact ⟨_, rfl, false, rfl, iteF' rfl (iteF' rfl ⟨_, rfl, false, rfl, iteT' rfl ⟨_, rfl, true, rfl, iteT' rfl ⟨_, rfl, false, rfl, iteT' rfl ⟨_, rfl, .inl ⟨rfl, _, SqL.of hL2⟩, _, rfl, L, _, _, rfl, rfl, hL2, by rw [List.length_map]; exact small1000 (by omega), _, _, _, rfl, Evl.Ex.mut e2 hL, yes (by simpa using tk)⟩⟩⟩⟩)⟩
      · exact ⟨_, rfl, false, rfl, iteF' rfl (iteF' rfl ⟨_, rfl, false, rfl, iteT' rfl ⟨_, rfl, true, rfl, iteT' rfl ⟨_, rfl, true, rfl, iteF' rfl ⟨_, _, _, rfl, e2, no (by simpa using tk)⟩⟩⟩⟩)⟩
      · exact ⟨_, rfl, true, rfl, iteT' rfl ⟨_, rfl, false, rfl, iteF' rfl (iteF' rfl ⟨_, rfl, true, rfl, iteF' rfl (iteF' rfl ⟨_, _, _, rfl, e2, no (by simpa using tk)⟩)⟩)⟩⟩
      · exact ⟨_, rfl, true, rfl, iteT' rfl ⟨_, rfl, true, rfl, iteT' rfl ⟨_, rfl, false, rfl, iteT' rfl (iteT' rfl ⟨_, rfl, .inl ⟨rfl, _, SqL.of hL2⟩, _, rfl, L, _, _, rfl, rfl, hL2, by rw [List.length_map]; exact small1000 (by omega), _, _, _, rfl, Evl.Ex.mut e2 hL, yes (by simpa using tk)⟩)⟩⟩⟩
      · exact ⟨_, rfl, true, rfl, iteT' rfl ⟨_, rfl, false, rfl, iteF' rfl (iteF' rfl ⟨_, rfl, true, rfl, iteF' rfl (iteF' rfl ⟨_, _, _, rfl, e2, no (by simpa using tk)⟩)⟩)⟩⟩
      · exact ⟨_, rfl, true, rfl, iteT' rfl ⟨_, rfl, true, rfl, iteT' rfl ⟨_, rfl, true, rfl, iteF' rfl ⟨_, rfl, true, rfl, iteF' rfl (iteF' rfl ⟨_, _, _, rfl, e2, no (by simpa using tk)⟩)⟩⟩⟩⟩
    · rintro σ H2 ⟨v5, v6, v7, rfl, e2, hL2⟩
      rw [List.length_map, List.take_length] at hL2
      exact ⟨_, rfl, L, _, rfl, .inl ⟨SqL.of hL2, fun l hl2 => k _ l (e2.trans (Ex.new hl2)) upd_same⟩⟩
end
end K05


set_option Elab.async false
set_option linter.all false
set_option maxRecDepth 100000
set_option maxHeartbeats 4000000
namespace K05
open PySem PySem.Spec PyProof.Rows L2 RZ StX
open Evl (Ex)
/-! ### equality of rows of ints -/
theorem eqvAll_map {α : Type} [DecidableEq α] (f : α → PyData) (hf : ∀ a b, PyData.eqv (f a) (f b) = decide (a = b)) : ∀ xs ys : List α, PyData.eqvAll (xs.map f) (ys.map f) = decide (xs = ys)
  | [], [] => rfl
  | [], y :: ys => by simp [PyData.eqvAll]
  | x :: xs, [] => by simp [PyData.eqvAll]
  | x :: xs, y :: ys => by
    rw [List.map_cons, List.map_cons, PyData.eqvAll, hf, eqvAll_map f hf xs ys]
    by_cases h1 : x = y <;> by_cases h2 : xs = ys <;> simp [h1, h2]
theorem canLayAll_map {α : Type} (f : α → PyData) (hf : ∀ a, (f a).canLay0 = true) : ∀ xs : List α, PyData.canLayAll0 (xs.map f) = true
  | [] => by simp [PyData.canLayAll0]
  | x :: xs => by
    rw [List.map_cons, PyData.canLayAll0, hf, canLayAll_map f hf xs]
    rfl
theorem depthAll_map {α : Type} (f : α → PyData) (k : Nat) (hf : ∀ a, (f a).depth ≤ k) : ∀ xs : List α, PyData.depthAll (xs.map f) ≤ k
  | [] => by simp [PyData.depthAll]
  | x :: xs => by
    rw [List.map_cons, PyData.depthAll]
    have := hf x
    have := depthAll_map f k hf xs
    omega
theorem eqv_int (a b : Int) : PyData.eqv (.int a) (.int b) = decide (a = b) := by
  rw [PyData.eqv]
  by_cases h : a = b <;> simp [h]
theorem dp_ints {K : PySem.W.Frag} {H : Hp} : ∀ ns : List Int, DpAll K H (ns.map V.int) (ns.map PyData.int)
  | [] => .nil
  | n :: ns => .cons (.int n) (dp_ints ns)
def ilD (ns : List Int) : PyData := .list (ns.map PyData.int)
def itD (ns : List Int) : PyData := .tuple (ns.map PyData.int)
theorem eqv_il (a : List Int) : PyData.eqv (ilD a) (ilD a) = true := by
  unfold ilD
  rw [PyData.eqv, eqvAll_map PyData.int eqv_int]
  simp
theorem eqv_itB (a b : List Int) : PyData.eqv (itD a) (itD b) = decide (a = b) := by
  unfold itD
  rw [PyData.eqv, eqvAll_map PyData.int eqv_int]
theorem shaped_il (a : List Int) : SeqAt.shaped (ilD a) = true := by
  unfold SeqAt.shaped ilD
  rw [PyData.canLay0, canLayAll_map _ (fun _ => by simp [PyData.canLay0]), PyData.depth]
  have := depthAll_map PyData.int 0 (fun _ => by simp [PyData.depth]) a
  simp; omega
theorem shaped_it (a : List Int) : SeqAt.shaped (itD a) = true := by
  unfold SeqAt.shaped itD
  rw [PyData.canLay0, canLayAll_map _ (fun _ => by simp [PyData.canLay0]), PyData.depth]
  have := depthAll_map PyData.int 0 (fun _ => by simp [PyData.depth]) a
  simp; omega
theorem dp_il {K : PySem.W.Frag} {H : Hp} {p : Addr} {ns : List Int} (hp : H p = some (.lst (ns.map V.int))) : Dp K H (.ref p) (ilD ns) := .lst (SqL.of hp) (dp_ints ns)
theorem dp_it {K : PySem.W.Frag} {H : Hp} {p : Addr} {ns : List Int} (hp : H p = some (.tup (ns.map V.int))) : Dp K H (.ref p) (itD ns) := .tup (SqT.of hp) (dp_ints ns)
/-! ### rows of plain values -/
def scD : V → PyData
  | .bl b => .bool b
  | .int n => .int n
  | .str z => .str z
  | _ => .none
theorem eqv_sc (v : V) : PyData.eqv (scD v) (scD v) = true := by
  cases v <;> simp [scD, PyData.eqv]
theorem eqv_scs : ∀ vs : List V, PyData.eqvAll (vs.map scD) (vs.map scD) = true
  | [] => by simp [PyData.eqvAll]
  | v :: vs => by
    rw [List.map_cons, PyData.eqvAll, eqv_sc, eqv_scs vs]
    rfl
def flD (vs : List V) : PyData := .list (vs.map scD)
theorem eqv_fl (vs : List V) : PyData.eqv (flD vs) (flD vs) = true := by
  unfold flD
  rw [PyData.eqv]
  exact eqv_scs vs
def okV : V → Bool
  | .str z => PyData.strOk z
  | _ => true
theorem lay_scs : ∀ {vs : List V}, vs.all okV = true → PyData.canLayAll0 (vs.map scD) = true
  | [], _ => by simp [PyData.canLayAll0]
  | v :: vs, h => by
    rw [List.all_cons, Bool.and_eq_true] at h
    rw [List.map_cons, PyData.canLayAll0, lay_scs h.2]
    have h1 := h.1
    cases v <;> simp [scD, PyData.canLay0]
    exact h1
theorem shaped_fl (vs : List V) (h : vs.all okV = true := by kernel_rfl) : SeqAt.shaped (flD vs) = true := by
  unfold SeqAt.shaped flD
  rw [PyData.canLay0, lay_scs h, PyData.depth]
  have := depthAll_map scD 0 (fun v => by cases v <;> simp [scD, PyData.depth]) vs
  simp; omega
theorem dp_sc {K : PySem.W.Frag} {H : Hp} {v : V} (h : flatV v = true) : Dp K H v (scD v) := by
  cases v with
  | non => exact .non
  | bl b => exact .bl b
  | int n => exact .int n
  | str z => exact .str z
  | _ => cases h
theorem dp_scs {K : PySem.W.Frag} {H : Hp} : ∀ {vs : List V}, vs.all flatV = true → DpAll K H vs (vs.map scD)
  | [], _ => .nil
  | v :: vs, h => by
    rw [List.all_cons, Bool.and_eq_true] at h
    exact .cons (dp_sc h.1) (dp_scs h.2)
theorem dp_fl {K : PySem.W.Frag} {H : Hp} {p : Addr} {vs : List V} (hp : H p = some (.lst vs)) (h : vs.all flatV = true) : Dp K H (.ref p) (flD vs) := .lst (SqL.of hp) (dp_scs h)
end K05


set_option Elab.async false
set_option linter.all false
set_option maxRecDepth 100000
set_option maxHeartbeats 4000000
namespace K05
open PySem PySem.Spec PyProof.Rows L2 RZ StX
open Evl (Ex)
section
variable {w : World} {K : PySem.W.Frag} {mg : Str → Option Value} {base : Heap}
abbrev nLr : List Str := ["_law_kind_here", "_law_size", "_law_runs", "_law_present", "_law_row", "_law_points_here", "_law_last", "_law_point", "_law_place", "_law_covers"]
theorem sc_Lr : FnScope nLr ["_law_kind_here", "_law_size", "_law_runs", "_law_present", "_law_row", "_law_points_here"] (defScope s__law_lack_right) := ⟨rfl, rfl, rfl, by decide +kernel, rfl, by decide +kernel, by decide +kernel⟩
theorem ov_false (rs : List (Int × Int)) (ns : List Int) : ovB false rs ns = lvB rs ns := rfl
def spLackR : Sp := fun vs H Q _ => ∃ (kd : Str) (s : Nat) (R A W P : Addr) (us : List V) (rs : List (Int × Int)) (pres D pts : List Int), vs = [.str kd, .int s, .ref R, .ref A, .ref W, .ref P] ∧ (kd = "join" ∨ kd = "lap") ∧ s ≤ 30 ∧ H R = some (.lst us) ∧ Runs H us rs ∧ (∀ r ∈ rs, Fits s r) ∧ H A = some (.lst (pres.map V.int)) ∧ (∀ p ∈ pres, 0 ≤ p ∧ p < rs.length) ∧ pres.length ≤ 50 ∧
  H W = some (.lst (D.map V.int)) ∧ D.length = s ∧ H P = some (.tup (pts.map V.int)) ∧ pts.Pairwise (· < ·) ∧ pts ≠ [] ∧ (∀ q ∈ pts, 0 ≤ q ∧ q ≤ s) ∧ ((pres.filter (lvB rs pts)).length : Int) < sm (begD D) pts ∧ (kd = "lap" → ∃ j : Nat, j < s ∧ pts = upto (j + 1) ∧ covAt rs pres j < D.getD j 0) ∧ ∀ H', Ex H H' → Q (.bl true) H'
set_option maxHeartbeats 8000000 in
theorem has_Lr (T : Ctx K mg) : Has w K mg base CX0 "_law_lack_right" 2 ["_law_kind_here", "_law_size", "_law_runs", "_law_present", "_law_row", "_law_points_here"] spLackR := by
  obtain ⟨f1, fd1, m1, kp1, F1, b1⟩ := has_lint (w := w) (base := base) T
  obtain ⟨f2, fd2, m2, kp2, F2, b2⟩ := has_lcover (w := w) (base := base) T
  obtain ⟨f3, fd3, m3, kp3, F3, b3⟩ := has_Lo (w := w) (base := base) T
  obtain ⟨f4, fd4, m4, kp4, F4, b4⟩ := has_Oe (w := w) (base := base) T
  refine has_of (st := s__law_lack_right) (f := He.ga K "_law_lack_right") T.d__law_lack_right T.g__law_lack_right (fun _ _ _ _ _ _ us hl => match us, hl with | [_, _, _, _, _, _], _ => rfl) fun fd F => ?_
  refine ok0 F sc_Lr (fun vs H Q E h => ?_) (fun cdv A0 outer s0 H vs Q E hr h => ?_)
  · obtain ⟨kd, s, R, A, W, P, us, rs, pres, D, pts, rfl, _⟩ := h
    rfl
  · obtain ⟨kd, s, R, A, W, P, us, rs, pres, D, pts, rfl, hkd, hs, hR, hU, hF, hA, hp, hpl, hW, hD, hP, hasc, hne, hin, hlt, hlap, k⟩ := h
    have nd := sc_Lr.nd
    have hu := hr.units
    refine ⟨_, pss_cons (ps_if (PW.pt (pw_or (pt_not (pt_val (pe_callB call_isi (by rfl) T.b_isinstance (by decide +kernel) (pa_cons (pv 5) (pa_cons (pe_bltn (by rfl) T.b_tuple (by decide +kernel) (v := .ty "tuple") rfl) pa_nil))))) (pw_or1 (pt_cmpR op_eq (pe_callB call_len_seq (by rfl) T.b_len PySem.boot_len (pa_cons (pv 5) pa_nil)) pe_int (nomark _))))) (pss_one (ps_ret pe_bl)) pss_nil)
      (pss_cons (ps_set (i := 6) nd rfl (.inl rfl) (pe_un un_neg pe_int))
      (pss_cons (ps_for PassesOwn.never rfl (pi_tup (pv 5)) (pg_name (i := 7) nd rfl (.inl rfl))
        (pss_cons (ps_if (PW.pt (pw_or (pt_not (pt_val (pe_call F1 hr (by rfl) m1 kp1 b1 .nil pass0 (pa_cons (pv 7) pa_nil)))) (pw_or (pt_cmpR op_le (pv 7) (pv 6) (nomark _)) (pw_or1 (pt_cmpR op_gt (pv 7) (pv 1) (nomark _)))))) (pss_one (ps_ret pe_bl)) pss_nil)
        (pss_one (ps_set (i := 6) nd rfl (.inl rfl) (pv 7)))))
      (pss_cons (ps_if (pt_cmpR op_eq (pv 0) pe_str (nomark _))
        (pss_cons (ps_set (i := 8) nd rfl (.inl rfl) (pe_ix ix_tup (pv 5) (pe_un un_neg pe_int) (fun _ _ => rfl)))
        (pss_cons (ps_set (i := 9) nd rfl (.inl rfl) (pe_call F2 hr (by rfl) m2 kp2 b2 .nil pass0 (pa_cons (pv 1) (pa_cons (pv 2) (pa_cons (pv 3) pa_nil)))))
        (pss_one (ps_if (PW.pt (pw_or (pt_cmpR (op_neD hu) (pv 5) (pe_tupRg (by rfl) (by rfl) T.b_tuple (prg_1 (by rfl) T.b_range (pe_op op_add (pv 8) pe_int))) (nomark _)) (pw_or (pt_cmpR op_ge (pv 8) (pv 1) (nomark _)) (pw_or1 (pt_cmpR op_ge (pe_ix ix_list (pv 9) (pv 8) (fun _ _ => rfl)) (pe_ix ix_list (pv 4) (pv 8) (fun _ _ => rfl)) (nomark _)))))) (pss_one (ps_ret pe_bl)) pss_nil)))) pss_nil)
      (pss_one (ps_ret (pe_cmpR op_gt (pe_call F3 hr (by rfl) m3 kp3 b3 .nil pass0 (pa_cons (pv 4) (pa_cons (pv 5) pa_nil))) (pe_callB call_len_seq (by rfl) T.b_len PySem.boot_len (pa_cons (pe_call F4 hr (by rfl) m4 kp4 b4 .nil pass0 (pa_cons (pv 2) (pa_cons (pv 3) (pa_cons (pv 5) (pa_cons pe_bl pa_nil))))) pa_nil)) (nomark _))))))), ?_⟩
    have h0 : 0 < pts.length := List.length_pos_iff.mpr hne
    refine ⟨_, rfl, _, _, _, _, true, rfl, .ty "tuple", .base (.tup hP), kit_ty (by decide +kernel), true, rfl, iteF ?_⟩
    refine ⟨_, rfl, P, _, rfl, .inr (SqT.of hP), rfl, _, rfl, iteF' (by simp; intro z; exact hne z) ?_⟩
    refine ⟨_, rfl, _, rfl, P, rfl, ⟨_, SqT.of hP⟩, for_it walk_tup (fun i σ H' => ∃ (v7 : Option V) (l : Int), σ = [some (.str kd), some (.int s), some (.ref R), some (.ref A), some (.ref W), some (.ref P), some (.int l), v7, none, none] ∧ H' = H ∧ (∀ j p, i ≤ j → pts[j]? = some p → l < p)) ⟨none, -1, rfl, rfl, fun j p _ hj => by have := hin p (List.mem_of_getElem? hj); omega⟩ (fun i σ H' _ ⟨_, _, _, e, _⟩ => by rw [e]; exact SqT.of hP) ?_ ?_⟩
    · rintro i v σ H2 H3 hi ⟨v7, l, rfl, rfl, hl⟩ ⟨rfl, hx⟩
      obtain ⟨p, hpi, rfl⟩ := map_int_get hx
      obtain ⟨p0, p1⟩ := hin p (List.mem_of_getElem? hpi)
      have lp := hl i p (Nat.le_refl _) hpi
      refine ⟨_, rfl, p, rfl, true, rfl, iteF ?_⟩
      refine ⟨_, rfl, _, rfl, _, _, rfl, rfl, _, rfl, iteF' (decide_eq_false (by omega)) ?_⟩
      refine ⟨_, rfl, _, rfl, _, _, rfl, rfl, _, rfl, iteF' (decide_eq_false (by omega)) ?_⟩
      refine ⟨_, rfl, _, p, rfl, rfl, fun j q hj hq => ?_⟩
      obtain ⟨h1, h2⟩ := List.getElem?_eq_some_iff.mp hpi
      obtain ⟨h3, h4⟩ := List.getElem?_eq_some_iff.mp hq
      have := List.pairwise_iff_getElem.mp hasc i j h1 h3 (by omega)
      rw [h2, h4] at this
      exact this
    rintro σ H2 ⟨v7, l, rfl, rfl, hl⟩
    rcases hkd with rfl | rfl
    · refine ⟨_, rfl, rfl, _, rfl, iteF' (by decide +kernel) ?_⟩
      refine ⟨_, rfl, _, rfl, W, P, D, pts, rfl, hW, by omega, .inr hP, fun n hn => by have := hin n hn; omega, ?_⟩
      refine ⟨_, rfl, _, rfl, _, rfl, R, A, P, us, rs, pres, pts, false, rfl, hR, hU, hA, hp, hpl, .inr hP, fun H3 F e3 hF3 => ?_⟩
      refine ⟨F, _, rfl, .inr (SqT.of hF3), _, _, rfl, rfl, ?_⟩
      rw [List.length_map, ov_false]
      show Q (V.bl (decide (((pres.filter (lvB rs pts)).length : Int) < sm (begD D) pts))) H3
      rw [decide_eq_true hlt]
      exact k H3 e3
    · refine ⟨_, rfl, rfl, _, rfl, iteT' (by decide +kernel) ?_⟩
      obtain ⟨j, hj, rfl, hcov⟩ := hlap rfl
      have hlast : atI ((upto (j + 1)).map V.int) (-1) = some (V.int (j : Int)) := by
        unfold upto
        rw [List.range_succ, List.map_append, List.map_append]
        exact atI_last _ _
      refine ⟨_, rfl, _, rfl, P, _, (-1 : Int), _, rfl, rfl, SqT.of hP, hlast, ?_⟩
      refine ⟨_, rfl, _, rfl, _, rfl, s, R, A, us, rs, pres, rfl, by omega, hR, hU, hF, hA, hp, fun H3 C e3 hC0 hC => ?_⟩
      have hPu : H3 P = some (.tup ((upto (j + 1)).map V.int)) := e3 _ _ hP
      refine ⟨_, rfl, _, rfl, _, _, rfl, rfl, _, rfl, RgOk.of_le (by omega) (by omega) (by omega) (by omega), fun q hq => ?_⟩
      have e4 := Ex.new (o := .tup (rgV 0 ((j : Int) + 1))) hq
      have hq4 : upd H3 q (.tup (rgV 0 ((j : Int) + 1))) q = some (.tup ((upto (j + 1)).map V.int)) := by
        rw [upd_same, show ((j : Int) + 1) = ((j + 1 : Nat) : Int) by omega, rgV_upto]
      generalize upd H3 q (.tup (rgV 0 ((j : Int) + 1))) = H4 at *
      have e34 := e3.trans e4
      refine ⟨itD _, itD _, dp_it (e4 _ _ hPu), dp_it hq4, shaped_it _, shaped_it _, _, rfl, iteF' (by rw [eqv_itB, decide_eq_true rfl]; rfl) ?_⟩
      refine ⟨_, rfl, _, rfl, _, _, rfl, rfl, _, rfl, iteF' (decide_eq_false (by omega)) ?_⟩
      have hCg : atI ((covL s rs pres).map V.int) (j : Int) = some (.int (covAt rs pres j)) := atI_nat (by
        rw [List.getElem?_map]
        unfold covL
        rw [row_get hj]
        rfl)
      have hDg : atI (D.map V.int) (j : Int) = some (.int (D.getD j 0)) := atI_nat (by
        rw [List.getElem?_map, List.getElem?_eq_getElem (by omega), List.getD_eq_getElem?_getD, List.getElem?_eq_getElem (by omega)]
        rfl)
      refine ⟨_, rfl, _, rfl, C, _, _, _, rfl, rfl, SqL.of (e4 _ _ hC), hCg, _, rfl, _, rfl, W, _, _, _, rfl, rfl, SqL.of (e34 _ _ hW), hDg, _, _, rfl, rfl, _, rfl, iteF' (decide_eq_false (by omega)) ?_⟩
      refine ⟨_, rfl, _, rfl, W, P, D, _, rfl, e34 _ _ hW, by omega, .inr (e34 _ _ hP), fun n hn => by have := hin n hn; omega, ?_⟩
      refine ⟨_, rfl, _, rfl, _, rfl, R, A, P, us, rs, pres, _, false, rfl, e34 _ _ hR, hU.ex e34, e34 _ _ hA, hp, hpl, .inr (e34 _ _ hP), fun H5 F e5 hF5 => ?_⟩
      refine ⟨F, _, rfl, .inr (SqT.of hF5), _, _, rfl, rfl, ?_⟩
      rw [List.length_map, ov_false]
      show Q (V.bl (decide (((pres.filter (lvB rs (upto (j + 1)))).length : Int) < sm (begD D) (upto (j + 1))))) H5
      rw [decide_eq_true hlt]
      exact k H5 (e34.trans e5)
end
end K05


set_option Elab.async false
set_option linter.all false
set_option maxRecDepth 100000
set_option maxHeartbeats 4000000
/-! isinstance of a caught error that has a dict of its own: the library asks for none -/
namespace IsE
open PySem PySem.Spec PySem.Calls PyProof.Rows L2
section
variable {pr : Program} {wd : World} {Ar : Around} {Er : Value → Shared → Prop} {F : PySem.W.Frag} {e T : Addr} {oe : Obj} {dct : Option Obj}
/-- the class's own «__class__», whatever the error's dict holds -/
theorem class_found (Z : ExcC F T) : PySem.W.findObj F T dct "__class__" = some (.bind (.builtin "getset_descriptor.__get__") (.builtin "object.__class__")) := by
  obtain ⟨cd, isC, _⟩ := PySem.W.any_some Z.hd
  unfold PySem.W.findObj
  rw [isC, Option.bind_some, Z.ha, Option.bind_some] <;> simp [Z.hn, Z.ht]
/-- e.__class__ of such an error -/
theorem class_asked (Z : ExcC F T) {st : Shared} {G : Option Value → Shared → Prop} (XI : F.In st.heap) (at_ : PySem.W.InstAt st.heap e oe T dct) (fin : G (some (.ref T)) { st with toks := st.toks + 1 }) :
    wpAny (model pr wd) Ar (getAttr? (.ref e) "__class__") G Er st := by
  obtain ⟨hh, gg, dd, tt, oo⟩ := st
  have isT := at_.type (M := model pr wd)
  have own := PySem.W.looks_find (M := model pr wd) XI at_ (class_found Z)
  have noB : (Value.builtin "BaseException.__getattribute__" == Value.builtin "object.__getattribute__") = false := by decide +kernel
  unfold getAttr? getAttrBy? getAttrBy
  refine wpAny_bind (wpAny_mkText (wpAny_bind (wpAny_attempt (wpAny_holding (wpAny_bind (isT.at (wpAny_bind ((PySem.W.looks_findIn (M := model pr wd) XI Z.hg).at ?_))))))))
  show wpAny _ _ (ite ((onTheHeap (Value.ref T) && Value.builtin "BaseException.__getattribute__" == Value.builtin "object.__getattribute__") = true) _ _) _ _ _
  rw [show (onTheHeap (Value.ref T) && Value.builtin "BaseException.__getattribute__" == Value.builtin "object.__getattribute__") = false from by rw [noB]; rfl, if_neg Bool.false_ne_true]
  unfold getAttrByItsOwn hookBefore
  refine wpAny_bind (by
    rw [if_pos (show onTheHeap (Value.ref T) = true from rfl)]
    exact (PySem.W.looks_findIn (M := model pr wd) XI Z.hk).at (wpAny_bind (wpAny_attempt (wpAny_holding (by
      unfold callGetattribute
      rw [show (false && onTheHeap (Value.builtin "BaseException.__getattribute__")) = false from rfl, if_neg Bool.false_ne_true]
      unfold boundAndCalled
      rw [PySem.F.excAttr_ValueError.ga.bind (.ref e)]
      refine wpAny_bind (wpAny_pure (wpAny_call (codeAny_call_builtin PySem.F.excAttr_ValueError.ga.plain PySem.F.entry_bexc_ga ?_)))
      refine @PySem.W.check_slot (model pr wd) _ _ ⟨hh, gg, dd, tt + 1, oo⟩ "BaseException.__getattribute__" "BaseException" "__getattribute__" (.ref e) [.str "__class__" tt] [] _ (by decide +kernel) (by decide +kernel) (isT.andThen (PySem.W.looks_subIn XI Z.hs)) (PySem.F.args_bexc_ga (.ref e) (.str "__class__" tt)) ?_
      unfold Builtin.«object.__getattribute__»
      refine wpAny_bind (wpAny_of_eq (a := ((Value.ref e : Value), [Value.str "__class__" tt])) (by first | rfl | (simp only [slotArgs] <;> rfl)) (wpAny_bind (wpAny_pure (wpAny_bind (isT.at (wpAny_bind (own.at ?_)))))))
      refine wpAny_bind (wpAny_holding (wpAny_call (PySem.W.class_get (s := ⟨hh, gg, dd, tt + 1, oo⟩) (ox := oe) (od := dct) XI at_ Z.hm (wpAny_pure ?_))))
      show wpAny _ _ (handedOut (.ref T)) _ _ _
      rw [PySem.W.handedOut_of (v := .ref T) rfl]
      first
        | exact wpAny_pure (wpAny_pure fin)
        | exact wpAny_pure (wpAny_bind (wpAny_pure (wpAny_pure fin)))
        | exact wpAny_pure fin)))))
theorem kit_err (Z : ExcC F T) : PySem.W.KitX F (.ref e) (.ref T) (fun h => PySem.W.InstAt h e oe T dct) := by
  obtain ⟨cd, isC, _⟩ := PySem.W.any_some Z.hd
  obtain ⟨ob, hob, hcl⟩ : ∃ ob, F.lookup T = some ob ∧ ob.data = .cls cd := by
    unfold PySem.W.clsIn at isC
    split at isC
    · rename_i q
      cases isC
      exact ⟨_, q, rfl⟩
    · cases isC
  obtain ⟨oc, od', odt, osl⟩ := ob
  cases hcl
  refine ⟨fun _ _ _ I => I.type, fun _ _ X _ A' Q' E' s' k q => ?_, fun h tp d its n sl X htp => Bool.eq_false_iff.mpr fun q => ?_, fun X I k => class_asked Z X I k⟩
  · unfold isType loadHead
    exact wpAny_bind (wpAny_loadPart (k _ _ (X _ _ hob)) (wpAny_pure q))
  · obtain rfl : T = tp := Value.ref.inj (beq_iff_eq.mp q)
    cases (X _ _ hob).symm.trans htp
end
end IsE
namespace IsE
open PySem PySem.Spec PyProof.Rows L2
/-- isinstance(e, c), e the exception that the suite holds, with a dict of its own -/
def rIsO (K : PySem.W.Frag) (D a : Addr) (cls : Value) (d : Option Addr) : List V → Hp → VK → Prop := fun xs H Q => ∃ (c : V) (cv : Value) (b : Bool) (dd : Addr) (fs : List (Str × V)), xs = [.ref a, c] ∧ cls = .ref D ∧ d = some dd ∧ H dd = some (.xd fs) ∧ (∀ u, RelV c u → u = cv) ∧ PySem.W.kitOne K (.ref D) cv = some b ∧ Q (.bl b) H
theorem call_isO {X : Cx} {a D : Addr} {oe : Obj} {cls : Value} {d : Option Addr} {pn : List (Addr × Obj)} (C : ExcC X.K D) (hz : Zc cls d oe) (hf : ∃ vs, oe.data = .fields vs) : CallR (X.suite a ((a, oe) :: pn)) (.builtin "isinstance") (rIsO X.K D a cls d) := by
  intro pins s σ H xs us Q I r h
  obtain ⟨c, cv, b, dd, fs, rfl, rfl, rfl, ea, hcv, e, q⟩ := h
  cases r with
  | cons rx rr =>
    cases rr with
    | cons rt rr =>
      cases rr
      cases rx
      have ec := hcv _ rt
      subst ec
      obtain ⟨hget, _⟩ := I.pin (a, oe) (List.mem_append.mpr (.inl List.mem_cons_self))
      obtain ⟨vs, hv⟩ := hf
      have hx : ObjOk X.prog X.w H s.heap dd (.xd fs) := I.hok dd _ ea
      obtain ⟨mA, hns, hr⟩ := hx
      obtain ⟨od, ho, hl⟩ := lookIn_ns hns
      have J : PySem.W.InstAt s.heap a oe D (some od) := ⟨hget, hz.1, by unfold PySem.W.notCls; rw [hv] <;> rfl, by rw [hz.2]; exact ho⟩
      exact PySem.W.kia_one (kit_err C) I.kIn J e (fun z => nomatch z) fun tk => ⟨.bl b, H, I.kept (t' := tk) fun _ _ z => z, rfl, q⟩
end IsE


set_option Elab.async false
set_option linter.all false
set_option maxRecDepth 100000
set_option maxHeartbeats 1000000
/-! try with several clauses `except C as e`, each with its name. -/
namespace L2
open PySem PySem.Spec PyProof.Rows
/-- one clause: its class, the slot of its name, its suite -/
abbrev Cl := Value × Nat × (Addr → Value → Option Addr → TS)
/-- the ends of a suite: the name is gone behind it -/
def Ends.off (D : Ends) (i : Nat) : Ends := ⟨fun st hp => D.nx (st.set i none) hp, D.rt, fun st hp => D.bk (st.set i none) hp, fun st hp => D.ct (st.set i none) hp⟩
def wCls (K : PySem.W.Frag) (Wout : WX) (D : Ends) : List Cl → WX
  | [] => Wout
  | (c, i, ts) :: more => fun k d st hp => ∃ hit, PySem.W.exmOne K k c = some hit ∧ (hit = true → ∀ x, hp x = none → ts x k d (D.off i) (st.set i (some (.ref x))) hp) ∧ (hit = false → wCls K Wout D more k d st hp)
inductive ClsOk (X : Cx) : List ExceptHandler → List Cl → Prop
  | nil : ClsOk X [] []
  | cons {y n : Str} {c : Value} {i : Nat} {ts : Addr → Value → Option Addr → TS} {s0 : Stmt} {ss : List Stmt} {p1 p2 : Pos} {more : List ExceptHandler} {l : List Cl} (cN : Names X y c) (ci : X.N[i]? = some n) (cl : X.env.kindOf n = some .local)
      (cS : ∀ (x : Addr) (ob : Obj) (k : Value) (d : Option Addr) (pn : List (Addr × Obj)), Zc k d ob → (∃ us, ob.data = .fields us) → PSs (X.suite x ((x, ob) :: pn)) (s0 :: ss) (ts x k d))
      (rest : ClsOk X more l) : ClsOk X (.ExceptHandler (some (.Name y p1)) (some n) (s0 :: ss) p2 :: more) ((c, i, ts) :: l)
section
variable {X : Cx} {body : List Stmt} {c0 : ExceptHandler} {cs : List ExceptHandler} {l : List Cl} {pos : Pos} {tb : WX → TS} {Wout : WX}
theorem ps_try_cls (kS : X.stack = X.env :: X.outer) (kF : X.env.frame = some X.env.locals) (kN : X.N.Nodup) (out : Takes X Wout)
    (hb : ∀ (W : WX) (pn : List (Addr × Obj)) (xe : Value → Shared → Prop), Takes (X.tr pn xe) W → PassesOwn (model X.prog X.w) X.A X.env xe → PSs (X.tr pn xe) body (tb W))
    (hc : ClsOk X (c0 :: cs) l) : PS X (.Try body (c0 :: cs) [] [] pos) (fun D σ H => tb (wCls X.K Wout D l) D σ H) := by
  constructor
  intro pins s st hp D I todo
  have ok := I.ok
  have kA : X.A.frames = some (X.env :: X.outer) := ok.frames.trans (by rw [kS])
  apply wpAny_Try_except
  have tried := hb (wCls X.K Wout D l) (X.pn ++ pins)
    (fun e t1 => wpAny (model X.prog X.w) X.A (noteFrame e X.env)
      (fun _ t2 => wpAny (model X.prog X.w) X.A (setFlight e none)
        (fun _ t3 => wpAny (model X.prog X.w) X.A (handleBy e X.env (c0 :: cs)) (SP X pins D) X.xe t3) X.xe t2) X.xe t1)
    ?caught PassesOwn.looking
  · refine wpAny_mono (tried.run [] s st hp D (I.toTry _) todo) (fun f t1 fin => ?_) (fun _ _ z => z)
    rcases f with _ | _ | _ | u
    · obtain ⟨st1, hp1, J, q⟩ := fin
      exact wpAny_execs_nil ⟨st1, hp1, J.ofTry ok, q⟩
    · exact fin.elim fun st1 z => z.elim fun hp1 y => ⟨st1, hp1, y.1.ofTry ok, y.2⟩
    · exact fin.elim fun st1 z => z.elim fun hp1 y => ⟨st1, hp1, y.1.ofTry ok, y.2⟩
    · obtain ⟨v, st1, hp1, J, r, q⟩ := fin
      exact ⟨v, st1, hp1, J.ofTry ok, r, q⟩
  case caught =>
    rintro _ t1 ⟨x, B, tI, pin1, st1, hp1, k, d, rfl, J0, nb, up, sky0, nx, os, ag, wish⟩
    have J : Inv X pins st1 hp1 tI := J0.ofTry ok
    have sky : Sky B (X.env :: X.outer) x (Zc k d) X.env.locals t1.heap := kS ▸ sky0
    refine Sky.land Zc.steady kA kF sky ?_
    intro h2 fl2 up2
    have J2 : Inv X pins st1 hp1 { t1 with heap := h2 } := J.landed nb fl2.1 (up.trans up2) os ag
    obtain ⟨ob, us, g2, z2, dat2⟩ := fl2.there
    have apart : x ∉ frs (X.env :: X.outer) := fun m => by
      obtain ⟨_, ob', g', no⟩ := fl2.2.2.1.mem m
      cases g2.symm.trans g'
      exact no _ dat2
    have notL : x ≠ X.env.locals := fun e => apart (List.mem_filterMap.mpr ⟨X.env, .head _, by rw [kF, e]⟩)
    have notF : x ∉ X.fs := fun m => by
      obtain ⟨en, m1, q⟩ := List.mem_filterMap.mp m
      exact apart (List.mem_filterMap.mpr ⟨en, .tail _ m1, q⟩)
    have S2 := J2.suite g2 dat2 nx notL notF
    suffices all : ∀ {cs' : List ExceptHandler} {l' : List Cl}, ClsOk X cs' l' → wCls X.K Wout D l' k d st1 hp1 →
        wpAny (model X.prog X.w) X.A (handleBy (.ref x) X.env cs') (SP X pins D) X.xe { t1 with heap := h2 } from all hc wish
    intro cs' l' okC
    induction okC with
    | nil =>
      intro wish
      apply wpAny_handleBy_nil
      obtain ⟨_, _, _, ob', us', T, oT, _, g', _, dat', first', _⟩ := id fl2
      unfold PySem.passOn
      refine wpAny_bind (wpAny_field g' dat' first' ?_)
      rw [if_neg (by simp)]
      have on : wpAny (model X.prog X.w) X.A (setFlight (.ref x) X.env.frame)
          (fun _ t4 => wpAny (model X.prog X.w) X.A (throw (.ref x) : Sem Flow) (SP X pins D) X.xe t4) X.xe { t1 with heap := h2 } := by
        rw [kF]
        refine HandSPX.setFlight_upZ fl2 ?_
        intro h4 held up4
        exact wpAny_throw (out _ _ ⟨x, B, tI, pins, st1, hp1, k, d, rfl, J, nb, (up.trans up2).trans up4, .inr (.inr (kS ▸ held)), nx, os, ag, wish⟩)
      first
        | exact wpAny_bind on
        | exact wpAny_bind (wpAny_pure (wpAny_bind on))
    | @cons y n c i ts s0 ss p1 p2 more l2 cN ci cl cS rest ih =>
      rintro ⟨hit, isHit, yes, no⟩
      refine wpAny_handleBy_cons (codeAny_handlers_test ?_) nofun
      have looks : PySem.W.Looks (model X.prog X.w) h2 (typeOf (.ref x)) k := fun _ _ _ t kp q => wpAny_typeOf_ref (kp _ _ g2) (by rw [z2.1]; exact q)
      have ask : ∀ {Q : Value → Shared → Prop} {E : Value → Shared → Prop}, Q c { t1 with heap := h2 } →
          wpAny (model X.prog X.w) (X.A.mark (some (.ref x))) (eval (.Name y p1) X.env) Q E { t1 with heap := h2 } := by
        intro Q E q
        rcases cN with ⟨gl, dbg, m | ⟨m, v, nn⟩⟩
        · exact ld_glob (X := X.suite x ((x, ob) :: (X.pn ++ pins))) S2 gl m q dbg
        · exact ld_blt (X := X.suite x ((x, ob) :: (X.pn ++ pins))) S2 gl m v q nn dbg
      refine ask ((PySem.W.exm_one (M := model X.prog X.w) J2.kIn looks isHit).here ?_)
      rcases hit with _ | _
      · exact ih (no rfl)
      apply codeAny_handlers_suite_as
      refine HandSPX.lands_againZ fl2 ?_
      intro h4 fl4 up4
      have J4 : Inv X pins st1 hp1 { t1 with heap := h4 } := J.landed nb fl4.1 ((up.trans up2).trans up4) os ag
      obtain ⟨ob4, us4, g4, z4, dat4⟩ := fl4.there
      refine store_ok (X := X.suite x ((x, ob4) :: (X.pn ++ pins))) (v := .ref x) (J4.suite g4 dat4 nx notL notF) kN ci (show Loc X.env.scope n from .inl cl) rfl ?_ (.inr cl)
      intro t5 S5
      have run := (cS x ob4 k d (X.pn ++ pins) z4 ⟨_, dat4⟩).run [] t5 _ hp1 _ S5 (yes rfl x nx)
      refine wpAny_mono run (fun f t6 fin => ?_) (fun _ _ z => z.elim)
      have away : ∀ {st6 : St} {hp6 : Hp} {Q : Shared → Prop}, Inv (X.suite x ((x, ob4) :: (X.pn ++ pins))) [] st6 hp6 t6 → (∀ t7, Inv X pins (st6.set i none) hp6 t7 → Q t7) →
          wpAny (model X.prog X.w) X.A (do bindName X.env n .none; unbindBehindTheSuite X.env n p2) (fun _ t7 => Q t7) X.xe t6 := fun S6 q => gone_ok (S6.unsuite ok) kN ci cl q
      rcases f with _ | _ | _ | u
      · obtain ⟨st6, hp6, S6, q⟩ := fin
        exact away S6 fun t7 J7 => ⟨_, _, J7, q⟩
      · obtain ⟨st6, hp6, S6, q⟩ := fin
        exact away S6 fun t7 J7 => ⟨_, _, J7, q⟩
      · obtain ⟨st6, hp6, S6, q⟩ := fin
        exact away S6 fun t7 J7 => ⟨_, _, J7, q⟩
      · obtain ⟨v6, st6, hp6, S6, r6, q⟩ := fin
        exact away S6 fun t7 J7 => ⟨_, _, _, J7, r6, q⟩
end
end L2


set_option Elab.async false
set_option linter.all false
set_option maxRecDepth 100000
set_option maxHeartbeats 4000000
namespace K05
open PySem PySem.Spec PyProof.Rows L2 RZ StX
open Evl (Ex)
open IsE
section
variable {w : World} {K : PySem.W.Frag} {mg : Str → Option Value} {base : Heap}
theorem Ctx.ec_BadDemand (T : Ctx K mg) : ExcC K (He.ga K "BadDemand") := ⟨T.xga_BadDemand, T.xgg_BadDemand, T.xs_BadDemand, T.xd_BadDemand, T.xcc_BadDemand, T.gs, T.tk, T.xo_BadDemand⟩
theorem Ctx.xf_BadDemand (T : Ctx K mg) : XfC K (He.ga K "BadDemand") := ⟨T.xga_BadDemand, T.xgg_BadDemand, T.xs_BadDemand, T.xd_BadDemand⟩
theorem Ctx.ec_BadPoint (T : Ctx K mg) : ExcC K (He.ga K "BadPoint") := ⟨T.xga_BadPoint, T.xgg_BadPoint, T.xs_BadPoint, T.xd_BadPoint, T.xcc_BadPoint, T.gs, T.tk, T.xo_BadPoint⟩
theorem Ctx.xf_BadPoint (T : Ctx K mg) : XfC K (He.ga K "BadPoint") := ⟨T.xga_BadPoint, T.xgg_BadPoint, T.xs_BadPoint, T.xd_BadPoint⟩
theorem okZ {x : Str} {st : Stmt} {f : Addr} {fd : FuncData} {N ps : List Str} {k : Nat} {sp : Sp} {dvs : List V} {kws : List (Str × V)} {qual : Str} (F : FunD K x qual (defArgs st) (defBody st) (defScope st) dvs kws f fd) (S : FnScope N ps (defScope st)) (len : ∀ vs H Q E, sp vs H Q E → vs.length = ps.length)
    (hbody : ∀ (cdv : Value) (A : Around) (outer : List Env) (s : Shared) (H : Hp) (vs : List V) (Q : VK) (E : XK), Room k (A.deeper (envOfC qual (defScope st) s.heap.objs.size f cdv)) → sp vs H Q E →
      ∃ t, PSs (cxOf CX0 PP w K mg base N qual (defScope st) f cdv A outer s H E) (defBody st) t ∧ t { nx := fun _ H' => Q .non H', rt := Q } (start N vs) H) : FnOk PP w K mg base CX0 (k + 1) f fd ps sp := F.ok S len hbody
/-! ### _law_refused -/
def spRefu (K : PySem.W.Frag) : Sp := fun vs H Q _ => ∃ (x : Addr) (v u : V) (kd : Str) (s : Nat) (us : List V) (rs : List (Int × Int)) (gs : List Int), vs = [.ref x, v, u] ∧ Mkt K H x kd (s : Int) us rs gs ∧ s ≤ 30 ∧
  ((∃ n, DemBad H s v n ∧ ∀ (H' : Hp) (q : Addr), Ex H H' → H' q = some (.lst [.str "demand", .int n]) → Q (.ref q) H') ∨ (∃ D y, Dem H s v D ∧ PtBad H s u y ∧ ∀ (H' : Hp) (q : Addr), Ex H H' → H' q = some (.lst [.str "point", y, .bl true, .bl false]) → Q (.ref q) H'))
theorem sc_refu : FnScope ["_law_market_here", "_law_row", "_law_points_here", "_law_told", "error"] ["_law_market_here", "_law_row", "_law_points_here"] (defScope s__law_refused) := ⟨rfl, rfl, rfl, by decide +kernel, rfl, by decide +kernel, by decide +kernel⟩
theorem has_refu (T : Ctx K mg) : Has w K mg base CX0 "_law_refused" 5 ["_law_market_here", "_law_row", "_law_points_here"] (spRefu K) := by
  obtain ⟨f1, fd1, m1, kp1, F1, b1⟩ := has_Of (w := w) (base := base) T
  refine has_of (st := s__law_refused) (f := He.ga K "_law_refused") T.d__law_refused T.g__law_refused (fun _ _ _ _ _ _ us hl => match us, hl with | [_, _, _], _ => rfl) fun fd F => ?_
  refine okZ F sc_refu (fun vs H Q E h => ?_) (fun cdv A outer s0 H vs Q E hr h => ?_)
  · obtain ⟨x, v, u, kd, s, us, rs, gs, rfl, _⟩ := h
    rfl
  · obtain ⟨x, v, u, kd, s, us, rs, gs, rfl, M, hs, hc⟩ := h
    have nd := sc_refu.nd
    refine ⟨_, pss_cons (ps_set (i := 3) nd rfl (.inl rfl) (pe_lst (pa_cons pe_str (pa_cons pe_int pa_nil))))
      (pss_cons (ps_try_cls rfl rfl nd (takes0 (X := _))
        (fun W pn xe tk hp => pss_one (ps_expr (pe_callS F1 hr (by rfl) m1 kp1 b1 (fun σ => passAt tk σ) (pa_cons (pv 0) (pa_cons (pv 1) (pa_cons (pv 2) pa_nil))))))
        (.cons (c := .ref (He.ga K "BadDemand")) (i := 4) ⟨by rfl, by decide, .inl T.g_BadDemand⟩ rfl rfl (fun a oe cls d pn hz hf => pss_one (ps_set (i := 3) nd rfl (.inl rfl) (pe_lst (pa_cons pe_str (pa_cons (pe_xf T.xf_BadDemand T.xnn_BadDemand hz hf (pv 4)) pa_nil)))))
        (.cons (c := .ref (He.ga K "BadPoint")) (i := 4) ⟨by rfl, by decide, .inl T.g_BadPoint⟩ rfl rfl (fun a oe cls d pn hz hf => pss_one (ps_set (i := 3) nd rfl (.inl rfl) (pe_lst (pa_cons pe_str (pa_cons (pe_xf T.xf_BadPoint T.xnn_BadPoint hz hf (pv 4))
              (pa_cons (pe_callB (call_isO T.ec_BadPoint hz hf) (by rfl) T.b_isinstance (by decide +kernel) (pa_cons (pv 4) (pa_cons (pe_glob (v := .ref (He.ga K "PartsError")) rfl T.g_PartsError rfl) pa_nil)))
              (pa_cons (pe_callB (call_isO T.ec_BadPoint hz hf) (by rfl) T.b_isinstance (by decide +kernel) (pa_cons (pv 4) (pa_cons (pe_glob (v := .ref (He.ga K "BadDemand")) rfl T.g_BadDemand rfl) pa_nil))) pa_nil)))))))
        .nil)))
      (pss_one (ps_ret (pv 3)))), ?_⟩
    refine ⟨(by show 2 ≤ sizeLine; decide), fun q0 hq0 => ?_⟩
    have e0 := Ex.new (o := .lst [V.str "none", .int 0]) hq0
    refine ⟨_, rfl, _, rfl, _, rfl, ?_⟩
    simp only [tNil]
    refine ⟨x, v, u, kd, s, us, rs, gs, rfl, M.ex e0, hs, ?_⟩
    rcases hc with ⟨n, hn, k⟩ | ⟨D, y, hD, hy, k⟩
    · refine .inl ⟨n, hn.ex e0, ?_⟩
      rintro H' d e' hd hq
      refine ⟨true, T.te_BadDemand, fun _ a0 ha0 => ?_, fun q => Bool.noConfusion q⟩
      refine ⟨_, rfl, rfl, rfl, d, _, .int n, rfl, hq, rfl, (by show 2 ≤ sizeLine; decide), fun q1 hq1 => ?_⟩
      exact ⟨_, rfl, k _ _ ((e0.trans e').trans (Ex.new hq1)) upd_same⟩
    · refine .inr ⟨D, hD.ex e0, .inr ⟨y, hy.ex e0, ?_⟩⟩
      rintro H' d e' hd hq
      refine ⟨false, T.tf_BadPoint_BadDemand, fun q => Bool.noConfusion q, fun _ => ⟨true, T.te_BadPoint, fun _ a0 ha0 => ?_, fun q => Bool.noConfusion q⟩⟩
      refine ⟨_, rfl, rfl, rfl, d, _, y, rfl, hq, rfl, ?_⟩
      refine ⟨_, rfl, _, _, true, d, _, rfl, rfl, rfl, hq, fun u r => r, T.ki_BadPoint_PartsError, ?_⟩
      refine ⟨_, rfl, _, _, false, d, _, rfl, rfl, rfl, hq, fun u r => r, T.ki_BadPoint_BadDemand, ?_⟩
      refine ⟨(by show 4 ≤ sizeLine; decide), fun q1 hq1 => ?_⟩
      exact ⟨_, rfl, k _ _ ((e0.trans e').trans (Ex.new hq1)) upd_same⟩
/-! ### _law_door_refused -/
def spDoor (K : PySem.W.Frag) : Sp := fun vs H Q _ => ∃ (d : Int) (x : Addr) (v u : V) (kd : Str) (s : Nat) (rs : List (Int × Int)) (gs : List Int), vs = [.int d, .ref x, v, u] ∧ GM K H x kd (s : Int) rs gs ∧
  (((d = 0 ∨ d = 1 ∨ (d = 2 ∧ ∃ D, Dem H s v D)) ∧ ∃ y, PtBad H s u y ∧ ∀ (H' : Hp) (q : Addr), Ex H H' → H' q = some (.lst [.str "point", y]) → Q (.ref q) H') ∨ ((d = 2 ∨ d = 3 ∨ d = 4 ∨ d = 5) ∧ ∃ n, DemBad H s v n ∧ ∀ (H' : Hp) (q : Addr), Ex H H' → H' q = some (.lst [.str "demand", .int n]) → Q (.ref q) H'))
theorem sc_door : FnScope ["_law_door", "_law_market_here", "_law_row", "_law_points_here", "_law_told", "error"] ["_law_door", "_law_market_here", "_law_row", "_law_points_here"] (defScope s__law_door_refused) := ⟨rfl, rfl, rfl, by decide +kernel, rfl, by decide +kernel, by decide +kernel⟩
theorem has_door (T : Ctx K mg) : Has w K mg base CX0 "_law_door_refused" 9 ["_law_door", "_law_market_here", "_law_row", "_law_points_here"] (spDoor K) := by
  obtain ⟨f0, fd0, m0, kp0, F0, b0⟩ := has_Lv (w := w) (base := base) T
  obtain ⟨f1, fd1, m1, kp1, F1, b1⟩ := has_En (w := w) (base := base) T
  obtain ⟨f2, fd2, m2, kp2, F2, b2⟩ := has_Of (w := w) (base := base) T
  obtain ⟨f3, fd3, m3, kp3, F3, b3⟩ := has_So (w := w) (base := base) T
  obtain ⟨f4, fd4, m4, kp4, F4, b4⟩ := has_Hs (w := w) (base := base) T
  obtain ⟨f5, fd5, m5, kp5, F5, b5⟩ := has_Lk (w := w) (base := base) T
  refine has_of (st := s__law_door_refused) (f := He.ga K "_law_door_refused") T.d__law_door_refused T.g__law_door_refused (fun _ _ _ _ _ _ us hl => match us, hl with | [_, _, _, _], _ => rfl) fun fd F => ?_
  refine okZ F sc_door (fun vs H Q E h => ?_) (fun cdv A outer s0 H vs Q E hr h => ?_)
  · obtain ⟨d, x, v, u, kd, s, rs, gs, rfl, _⟩ := h
    rfl
  · obtain ⟨d, x, v, u, kd, s, rs, gs, rfl, G, hc⟩ := h
    have nd := sc_door.nd
    refine ⟨_, pss_cons (ps_set (i := 4) nd rfl (.inl rfl) (pe_lst (pa_cons pe_str (pa_cons pe_int pa_nil))))
      (pss_cons (ps_try_cls rfl rfl nd (takes0 (X := _))
        (fun W pn xe tk hp => (pss_one (ps_if (pt_cmpR op_eq (pv 0) pe_int (nomark _)) (pss_one (ps_expr (pe_callS F0 (hr.mono (show 4 ≤ 8 by decide)) (by rfl) m0 kp0 b0 (fun σ => passAt tk σ) (pa_cons (pv 1) (pa_cons (pv 3) pa_nil))))) (pss_one (ps_if (pt_cmpR op_eq (pv 0) pe_int (nomark _)) (pss_one (ps_expr (pe_callS F1 (hr.mono (show 4 ≤ 8 by decide)) (by rfl) m1 kp1 b1 (fun σ => passAt tk σ) (pa_cons (pv 1) (pa_cons (pv 3) pa_nil))))) (pss_one (ps_if (pt_cmpR op_eq (pv 0) pe_int (nomark _)) (pss_one (ps_expr (pe_callS F2 (hr.mono (show 4 ≤ 8 by decide)) (by rfl) m2 kp2 b2 (fun σ => passAt tk σ) (pa_cons (pv 1) (pa_cons (pv 2) (pa_cons (pv 3) pa_nil)))))) (pss_one (ps_if (pt_cmpR op_eq (pv 0) pe_int (nomark _)) (pss_one (ps_expr (pe_callS F3 (hr.mono (show 7 ≤ 8 by decide)) (by rfl) m3 kp3 b3 (fun σ => passAt tk σ) (pa_cons (pv 1) (pa_cons (pv 2) pa_nil))))) (pss_one (ps_if (pt_cmpR op_eq (pv 0) pe_int (nomark _)) (pss_one (ps_expr (pe_callS F4 (hr.mono (show 8 ≤ 8 by decide)) (by rfl) m4 kp4 b4 (fun σ => passAt tk σ) (pa_cons (pv 1) (pa_cons (pv 2) pa_nil))))) (pss_one (ps_expr (pe_callS F5 (hr.mono (show 5 ≤ 8 by decide)) (by rfl) m5 kp5 b5 (fun σ => passAt tk σ) (pa_cons (pv 1) (pa_cons (pv 2) pa_nil))))))))))))))))
        (.cons (c := .ref (He.ga K "BadDemand")) (i := 5) ⟨by rfl, by decide, .inl T.g_BadDemand⟩ rfl rfl (fun a oe cls d pn hz hf => pss_one (ps_set (i := 4) nd rfl (.inl rfl) (pe_lst (pa_cons pe_str (pa_cons (pe_xf T.xf_BadDemand T.xnn_BadDemand hz hf (pv 5)) pa_nil)))))
        (.cons (c := .ref (He.ga K "BadPoint")) (i := 5) ⟨by rfl, by decide, .inl T.g_BadPoint⟩ rfl rfl (fun a oe cls d pn hz hf => pss_one (ps_set (i := 4) nd rfl (.inl rfl) (pe_lst (pa_cons pe_str (pa_cons (pe_xf T.xf_BadPoint T.xnn_BadPoint hz hf (pv 5)) pa_nil)))))
        .nil)))
      (pss_one (ps_ret (pv 4)))), ?_⟩
    obtain ⟨us, M⟩ := G.ob
    have hul := M.runs.len
    have few := G.few
    have sz := G.size
    refine ⟨(by show 2 ≤ sizeLine; decide), fun q0 hq0 => ?_⟩
    have e0 := Ex.new (o := .lst [V.str "none", .int 0]) hq0
    have M0 := M.ex e0
    rcases hc with ⟨hd3, y, hy, k⟩ | ⟨hd4, n, hn, k⟩
    · rcases hd3 with rfl | rfl | ⟨rfl, D, hD⟩
      · --0
        refine ⟨_, rfl, rfl, _, rfl, iteT' (by decide) ?_⟩
        refine ⟨_, rfl, _, rfl, ?_⟩
        simp only [tNil]
        refine ⟨x, u, kd, s, us, rs, gs, rfl, M0, by omega, by omega, G.fits, .inr ⟨y, hy.ex e0, ?_⟩⟩
        rintro H' d' e' hd hq
        refine ⟨false, T.tf_BadPoint_BadDemand, fun q => Bool.noConfusion q, fun _ => ⟨true, T.te_BadPoint, fun _ a0 ha0 => ?_, fun q => Bool.noConfusion q⟩⟩
        refine ⟨_, rfl, rfl, rfl, d', _, y, rfl, hq, rfl, (by show 2 ≤ sizeLine; decide), fun q1 hq1 => ?_⟩
        exact ⟨_, rfl, k _ _ ((e0.trans e').trans (Ex.new hq1)) upd_same⟩
      · --1
        refine ⟨_, rfl, rfl, _, rfl, iteF' (by decide) ?_⟩
        refine ⟨_, rfl, rfl, _, rfl, iteT' (by decide) ?_⟩
        refine ⟨_, rfl, _, rfl, ?_⟩
        simp only [tNil]
        refine ⟨x, u, kd, s, us, rs, gs, rfl, M0, by omega, by omega, G.fits, .inr ⟨y, hy.ex e0, ?_⟩⟩
        rintro H' d' e' hd hq
        refine ⟨false, T.tf_BadPoint_BadDemand, fun q => Bool.noConfusion q, fun _ => ⟨true, T.te_BadPoint, fun _ a0 ha0 => ?_, fun q => Bool.noConfusion q⟩⟩
        refine ⟨_, rfl, rfl, rfl, d', _, y, rfl, hq, rfl, (by show 2 ≤ sizeLine; decide), fun q1 hq1 => ?_⟩
        exact ⟨_, rfl, k _ _ ((e0.trans e').trans (Ex.new hq1)) upd_same⟩
      · --2
        refine ⟨_, rfl, rfl, _, rfl, iteF' (by decide) ?_⟩
        refine ⟨_, rfl, rfl, _, rfl, iteF' (by decide) ?_⟩
        refine ⟨_, rfl, rfl, _, rfl, iteT' (by decide) ?_⟩
        refine ⟨_, rfl, _, rfl, _, rfl, ?_⟩
        simp only [tNil]
        refine ⟨x, v, u, kd, s, us, rs, gs, rfl, M0, by omega, .inr ⟨D, hD.ex e0, .inr ⟨y, hy.ex e0, ?_⟩⟩⟩
        rintro H' d' e' hd hq
        refine ⟨false, T.tf_BadPoint_BadDemand, fun q => Bool.noConfusion q, fun _ => ⟨true, T.te_BadPoint, fun _ a0 ha0 => ?_, fun q => Bool.noConfusion q⟩⟩
        refine ⟨_, rfl, rfl, rfl, d', _, y, rfl, hq, rfl, (by show 2 ≤ sizeLine; decide), fun q1 hq1 => ?_⟩
        exact ⟨_, rfl, k _ _ ((e0.trans e').trans (Ex.new hq1)) upd_same⟩
    · rcases hd4 with rfl | rfl | rfl | rfl
      · --2
        refine ⟨_, rfl, rfl, _, rfl, iteF' (by decide) ?_⟩
        refine ⟨_, rfl, rfl, _, rfl, iteF' (by decide) ?_⟩
        refine ⟨_, rfl, rfl, _, rfl, iteT' (by decide) ?_⟩
        refine ⟨_, rfl, _, rfl, _, rfl, ?_⟩
        simp only [tNil]
        refine ⟨x, v, u, kd, s, us, rs, gs, rfl, M0, by omega, .inl ⟨n, hn.ex e0, ?_⟩⟩
        rintro H' d' e' hd hq
        refine ⟨true, T.te_BadDemand, fun _ a0 ha0 => ?_, fun q => Bool.noConfusion q⟩
        refine ⟨_, rfl, rfl, rfl, d', _, .int n, rfl, hq, rfl, (by show 2 ≤ sizeLine; decide), fun q1 hq1 => ?_⟩
        exact ⟨_, rfl, k _ _ ((e0.trans e').trans (Ex.new hq1)) upd_same⟩
      · --3
        refine ⟨_, rfl, rfl, _, rfl, iteF' (by decide) ?_⟩
        refine ⟨_, rfl, rfl, _, rfl, iteF' (by decide) ?_⟩
        refine ⟨_, rfl, rfl, _, rfl, iteF' (by decide) ?_⟩
        refine ⟨_, rfl, rfl, _, rfl, iteT' (by decide) ?_⟩
        refine ⟨_, rfl, _, rfl, ?_⟩
        simp only [tNil]
        refine ⟨x, v, kd, s, rs, gs, rfl, G.ex e0, .inr ⟨n, hn.ex e0, ?_⟩⟩
        rintro H' d' e' hd hq
        refine ⟨true, T.te_BadDemand, fun _ a0 ha0 => ?_, fun q => Bool.noConfusion q⟩
        refine ⟨_, rfl, rfl, rfl, d', _, .int n, rfl, hq, rfl, (by show 2 ≤ sizeLine; decide), fun q1 hq1 => ?_⟩
        exact ⟨_, rfl, k _ _ ((e0.trans e').trans (Ex.new hq1)) upd_same⟩
      · --4
        refine ⟨_, rfl, rfl, _, rfl, iteF' (by decide) ?_⟩
        refine ⟨_, rfl, rfl, _, rfl, iteF' (by decide) ?_⟩
        refine ⟨_, rfl, rfl, _, rfl, iteF' (by decide) ?_⟩
        refine ⟨_, rfl, rfl, _, rfl, iteF' (by decide) ?_⟩
        refine ⟨_, rfl, rfl, _, rfl, iteT' (by decide) ?_⟩
        refine ⟨_, rfl, _, rfl, ?_⟩
        simp only [tNil]
        refine ⟨x, v, kd, s, rs, gs, rfl, G.ex e0, .inr ⟨n, hn.ex e0, ?_⟩⟩
        rintro H' d' e' hd hq
        refine ⟨true, T.te_BadDemand, fun _ a0 ha0 => ?_, fun q => Bool.noConfusion q⟩
        refine ⟨_, rfl, rfl, rfl, d', _, .int n, rfl, hq, rfl, (by show 2 ≤ sizeLine; decide), fun q1 hq1 => ?_⟩
        exact ⟨_, rfl, k _ _ ((e0.trans e').trans (Ex.new hq1)) upd_same⟩
      · --5
        refine ⟨_, rfl, rfl, _, rfl, iteF' (by decide) ?_⟩
        refine ⟨_, rfl, rfl, _, rfl, iteF' (by decide) ?_⟩
        refine ⟨_, rfl, rfl, _, rfl, iteF' (by decide) ?_⟩
        refine ⟨_, rfl, rfl, _, rfl, iteF' (by decide) ?_⟩
        refine ⟨_, rfl, rfl, _, rfl, iteF' (by decide) ?_⟩
        refine ⟨_, rfl, _, rfl, ?_⟩
        simp only [tNil]
        refine ⟨x, v, kd, s, rs, gs, rfl, G.ex e0, .inr ⟨n, hn.ex e0, ?_⟩⟩
        rintro H' d' e' hd hq
        refine ⟨true, T.te_BadDemand, fun _ a0 ha0 => ?_, fun q => Bool.noConfusion q⟩
        refine ⟨_, rfl, rfl, rfl, d', _, .int n, rfl, hq, rfl, (by show 2 ≤ sizeLine; decide), fun q1 hq1 => ?_⟩
        exact ⟨_, rfl, k _ _ ((e0.trans e').trans (Ex.new hq1)) upd_same⟩
end
end K05


set_option Elab.async false
set_option linter.all false
set_option maxRecDepth 100000
set_option maxHeartbeats 4000000
namespace K05
open PySem PySem.Spec PyProof.Rows L2 RZ StX
open Evl (Ex)
theorem cut_drop (xs : List V) (t : Nat) (h : t ≤ xs.length) : cutV xs (some (t : Int)) none = xs.drop t := by
  unfold cutV
  rw [HT.sIx_nat, HT.sIx_none, Nat.min_eq_left h, List.take_of_length_le (by rw [List.length_drop]; omega)]
theorem cut_take (xs : List V) (t : Nat) (h : t ≤ xs.length) : cutV xs none (some (t : Int)) = xs.take t := by
  unfold cutV
  rw [HT.sIx_nat, HT.sIx_none, Nat.min_eq_left h, List.drop_zero, Nat.sub_zero]
/-- int or None -/
def Wr (v : V) : Prop := (∃ n, v = .int n) ∨ v = .non
section
variable {w : World} {K : PySem.W.Frag} {mg : Str → Option Value} {base : Heap}
abbrev nDr : List Str := ["_law_market_here", "_law_size", "_law_row", "_law_spoilt", "_law_wrong", "_law_door"]
theorem sc_Dr : FnScope nDr ["_law_market_here", "_law_size", "_law_row", "_law_spoilt", "_law_wrong"] (defScope s__law_doors_right) := ⟨rfl, rfl, rfl, by decide +kernel, rfl, by decide +kernel, by decide +kernel⟩
def spDoorsR (K : PySem.W.Frag) : Sp := fun vs H Q _ => ∃ (x R : Addr) (u wr : V) (kd : Str) (s : Nat) (rs : List (Int × Int)) (gs ds : List Int), vs = [.ref x, .int s, .ref R, u, wr] ∧ GM K H x kd (s : Int) rs gs ∧ H R = some (.lst (ds.map V.int)) ∧ ds.length = s ∧ Wr wr ∧ PtBad H s u wr ∧ ∀ H', Ex H H' → Q (.bl true) H'
set_option maxHeartbeats 8000000 in
theorem has_Dr (T : Ctx K mg) : Has w K mg base CX0 "_law_doors_right" 10 ["_law_market_here", "_law_size", "_law_row", "_law_spoilt", "_law_wrong"] (spDoorsR K) := by
  obtain ⟨f1, fd1, m1, kp1, F1, b1⟩ := has_door (w := w) (base := base) T
  refine has_of (st := s__law_doors_right) (f := He.ga K "_law_doors_right") T.d__law_doors_right T.g__law_doors_right (fun _ _ _ _ _ _ us hl => match us, hl with | [_, _, _, _, _], _ => rfl) fun fd F => ?_
  refine ok0 F sc_Dr (fun vs H Q E h => ?_) (fun cdv A outer s0 H vs Q E hr h => ?_)
  · obtain ⟨x, R, u, wr, kd, s, rs, gs, ds, rfl, _⟩ := h
    rfl
  · obtain ⟨x, R, u, wr, kd, s, rs, gs, ds, rfl, G, hR, hdl, hwr, hu0, k⟩ := h
    have nd := sc_Dr.nd
    have hu := hr.units
    have ret0 := @ps_ret
    refine ⟨_, pss_cons (ps_for PassesOwn.never rfl (pi_range1 (by rfl) T.b_range (pa_cons pe_int pa_nil)) (pg_name (i := 5) nd rfl (.inl rfl))
        (pss_cons (ps_if (pt_cmpR (op_neD hu) (pe_call F1 hr (by rfl) m1 kp1 b1 .nil pass0 (pa_cons (pv 5) (pa_cons (pv 0) (pa_cons (pv 2) (pa_cons (pv 3) pa_nil))))) (pe_lst (pa_cons pe_str (pa_cons (pv 4) pa_nil))) (nomark _)) (pss_one (ps_ret pe_bl)) pss_nil)
        (pss_cons (ps_if (pt_cmpR (op_neD hu) (pe_call F1 hr (by rfl) m1 kp1 b1 .nil pass0 (pa_cons (pv 5) (pa_cons (pv 0) (pa_cons (pv 2) (pa_cons (pe_lst (pa_cons pe_bl pa_nil)) pa_nil))))) (pe_lst (pa_cons pe_str (pa_cons pe_bl pa_nil))) (nomark _)) (pss_one (ps_ret pe_bl)) pss_nil)
        (pss_cons (ps_if (pt_cmpR (op_neD hu) (pe_call F1 hr (by rfl) m1 kp1 b1 .nil pass0 (pa_cons (pv 5) (pa_cons (pv 0) (pa_cons (pv 2) (pa_cons pe_non pa_nil))))) (pe_lst (pa_cons pe_str (pa_cons pe_non pa_nil))) (nomark _)) (pss_one (ps_ret pe_bl)) pss_nil)
        (pss_one (ps_if (pt_cmpR (op_neD hu) (pe_call F1 hr (by rfl) m1 kp1 b1 .nil pass0 (pa_cons (pv 5) (pa_cons (pv 0) (pa_cons (pv 2) (pa_cons (pe_tup (pa_cons (pv 1) (pa_cons (pv 1) pa_nil))) pa_nil))))) (pe_lst (pa_cons pe_str (pa_cons (pv 1) pa_nil))) (nomark _)) (pss_one (ps_ret pe_bl)) pss_nil))))))
      (pss_cons (ps_for PassesOwn.never rfl (pi_range2 (by rfl) T.b_range (pa_cons pe_int (pa_cons pe_int pa_nil))) (pg_name (i := 5) nd rfl (.inl rfl))
        (pss_cons (ps_if (pt_cmpR (op_neD hu) (pe_call F1 hr (by rfl) m1 kp1 b1 .nil pass0 (pa_cons (pv 5) (pa_cons (pv 0) (pa_cons (pe_op op_cat (pv 2) (pe_lst (pa_cons pe_int pa_nil))) (pa_cons (pv 3) pa_nil))))) (pe_lst (pa_cons pe_str (pa_cons (pe_un un_neg pe_int) pa_nil))) (nomark _)) (pss_one (ps_ret pe_bl)) pss_nil)
        (pss_one (ps_if (pt_cmpR (op_neD hu) (pe_call F1 hr (by rfl) m1 kp1 b1 .nil pass0 (pa_cons (pv 5) (pa_cons (pv 0) (pa_cons (pe_op op_cat (pe_lst (pa_cons pe_non pa_nil)) (pe_slice sl_list (pv 2) (po_some pe_int) po_none)) (pa_cons (pv 3) pa_nil))))) (pe_lst (pa_cons pe_str (pa_cons pe_int pa_nil))) (nomark _)) (pss_one (ps_ret pe_bl)) pss_nil))))
      (pss_one (ps_ret pe_bl))), ?_⟩
    have eqf : ∀ vs : List V, (!PyData.eqv (flD vs) (flD vs)) = false := fun vs => by rw [eqv_fl]; rfl
    have sz := G.size
    have flw : ([V.str "point", wr]).all flatV = true := by rcases hwr with ⟨n, rfl⟩ | rfl <;> rfl
    have okw : ([V.str "point", wr]).all okV = true := by rcases hwr with ⟨n, rfl⟩ | rfl <;> kernel_rfl
    have dem : ∀ {H' : Hp}, Ex H H' → ∃ D, Dem H' s (.ref R) D := fun e => ⟨ds, .inr ⟨⟨R, rfl, .inl (e _ _ hR)⟩, hdl⟩⟩
    refine ⟨_, rfl, by omega, by omega, for_it walk_range (fun i σ H' => (∃ v5 : Option V, σ = [some (.ref x), some (.int s), some (.ref R), some u, some wr, v5]) ∧ Ex H H') ⟨⟨_, rfl⟩, Ex.refl H⟩ (fun _ _ _ _ _ => trivial) ?_ ?_⟩
    · rintro i y σ H2 H3 hi ⟨⟨v5, rfl⟩, e3⟩ ⟨rfl, rfl⟩
      have hi3 : i < 3 := hi
      obtain ⟨d, hd0, hd3⟩ : ∃ d : Int, 0 + (i : Int) = d ∧ (d = 0 ∨ d = 1 ∨ d = 2) := ⟨_, rfl, by omega⟩
      show gName 5 (.int (0 + (i : Int))) _ H3 _
      rw [hd0]
      have dd : ∀ {H' : Hp}, Ex H H' → (d = 0 ∨ d = 1 ∨ (d = 2 ∧ ∃ D, Dem H' s (.ref R) D)) := fun e => by
        rcases hd3 with z | z | z
        · exact .inl z
        · exact .inr (.inl z)
        · exact .inr (.inr ⟨z, dem e⟩)
      refine ⟨_, rfl, _, rfl, _, rfl, _, rfl, d, x, _, _, kd, s, rs, gs, rfl, G.ex e3, .inl ⟨dd e3, wr, hu0.ex e3, fun H4 q4 e4 hq4 => ?_⟩⟩
      refine ⟨_, rfl, (by show 2 ≤ sizeLine; decide), fun l hl => ?_⟩
      have e5 := Ex.new (o := .lst [V.str "point", wr]) hl
      refine ⟨flD _, flD _, dp_fl (e5 _ _ hq4) flw, dp_fl upd_same flw, shaped_fl _ okw, shaped_fl _ okw, _, rfl, iteF' (eqf _) ?_⟩
      have e35 := (e3.trans e4).trans e5
      generalize upd H4 l (.lst [V.str "point", wr]) = H5 at *
      -- [True]
      refine ⟨_, rfl, _, rfl, _, rfl, (by show 1 ≤ sizeLine; decide), fun p6 hp6 => ?_⟩
      have e36 := e35.trans (Ex.new (o := .lst [V.bl true]) hp6)
      refine ⟨d, x, _, _, kd, s, rs, gs, rfl, G.ex e36, .inl ⟨dd e36, .bl true, .inr ⟨p6, [], [], rfl, .inl upd_same, ⟨List.nodup_nil, fun _ z => nomatch z⟩, .bl _, .inl rfl⟩, fun H7 q7 e7 hq7 => ?_⟩⟩
      refine ⟨(by show 2 ≤ sizeLine; decide), fun l2 hl2 => ?_⟩
      have e8 := Ex.new (o := .lst [V.str "point", .bl true]) hl2
      refine ⟨flD _, flD _, dp_fl (e8 _ _ hq7) rfl, dp_fl upd_same rfl, shaped_fl _, shaped_fl _, _, rfl, iteF' (eqf _) ?_⟩
      have e38 := (e36.trans e7).trans e8
      generalize upd H7 l2 (.lst [V.str "point", .bl true]) = H8 at *
      -- None
      refine ⟨_, rfl, _, rfl, _, rfl, d, x, _, _, kd, s, rs, gs, rfl, G.ex e38, .inl ⟨dd e38, .non, .inl ⟨.non, rfl, rfl⟩, fun H9 q9 e9 hq9 => ?_⟩⟩
      refine ⟨(by show 2 ≤ sizeLine; decide), fun l3 hl3 => ?_⟩
      have e10 := Ex.new (o := .lst [V.str "point", .non]) hl3
      refine ⟨flD _, flD _, dp_fl (e10 _ _ hq9) rfl, dp_fl upd_same rfl, shaped_fl _, shaped_fl _, _, rfl, iteF' (eqf _) ?_⟩
      have e310 := (e38.trans e9).trans e10
      generalize upd H9 l3 (.lst [V.str "point", .non]) = H10 at *
      -- (size, size)
      refine ⟨_, rfl, _, rfl, _, rfl, _, rfl, _, rfl, (by show 2 ≤ sizeLine; decide), fun p11 hp11 => ?_⟩
      have e311 := e310.trans (Ex.new (o := .tup [V.int s, V.int s]) hp11)
      refine ⟨d, x, _, _, kd, s, rs, gs, rfl, G.ex e311, .inl ⟨dd e311, .int s, .inr ⟨p11, [(s : Int)], [], rfl, .inr upd_same, ⟨List.nodup_cons.mpr ⟨List.not_mem_nil, List.nodup_nil⟩, fun n hn => by rw [List.mem_singleton.mp hn]; omega⟩, .int _, .inr ⟨_, List.mem_singleton.mpr rfl, rfl⟩⟩, fun H12 q12 e12 hq12 => ?_⟩⟩
      refine ⟨_, rfl, (by show 2 ≤ sizeLine; decide), fun l4 hl4 => ?_⟩
      have e13 := Ex.new (o := .lst [V.str "point", .int s]) hl4
      refine ⟨flD _, flD _, dp_fl (e13 _ _ hq12) rfl, dp_fl upd_same rfl, shaped_fl _, shaped_fl _, _, rfl, iteF' (eqf _) ?_⟩
      exact ⟨⟨_, rfl⟩, (e311.trans e12).trans e13⟩
    rintro σ H2 ⟨⟨v5, rfl⟩, e2⟩
    refine ⟨_, _, rfl, ⟨by decide, by decide, by decide, by decide⟩, for_it walk_range (fun i σ H' => (∃ v5 : Option V, σ = [some (.ref x), some (.int s), some (.ref R), some u, some wr, v5]) ∧ Ex H H') ⟨⟨_, rfl⟩, e2⟩ (fun _ _ _ _ _ => trivial) ?_ ?_⟩
    · rintro i y σ H4 H3 hi ⟨⟨v5, rfl⟩, e3⟩ ⟨rfl, rfl⟩
      have hi4 : i < 4 := hi
      obtain ⟨d, hd0, hd4⟩ : ∃ d : Int, 2 + (i : Int) = d ∧ (d = 2 ∨ d = 3 ∨ d = 4 ∨ d = 5) := ⟨_, rfl, by omega⟩
      show gName 5 (.int (2 + (i : Int))) _ H3 _
      rw [hd0]
      -- row + [0]
      refine ⟨_, rfl, _, rfl, _, rfl, (by show 1 ≤ sizeLine; decide), fun p5 hp5 => ?_⟩
      have e5 := Ex.new (o := .lst [V.int 0]) hp5
      refine ⟨R, p5, _, _, rfl, rfl, e5 _ _ (e3 _ _ hR), upd_same, sz1000 (by rw [List.length_map]; show ds.length + 1 ≤ 1000; omega), fun p6 hp6 => ?_⟩
      have e6 := Ex.new (o := .lst (ds.map V.int ++ [V.int 0])) hp6
      have e36 := (e3.trans e5).trans e6
      refine ⟨_, rfl, d, x, _, _, kd, s, rs, gs, rfl, G.ex e36, .inr ⟨hd4, -1, .inr (.inl ⟨p6, _, rfl, upd_same, by rw [List.length_append, List.length_map]; show ds.length + 1 ≠ s; omega, rfl⟩), fun H7 q7 e7 hq7 => ?_⟩⟩
      refine ⟨_, rfl, (by show 2 ≤ sizeLine; decide), fun l hl => ?_⟩
      have e8 := Ex.new (o := .lst [V.str "demand", .int (-1)]) hl
      refine ⟨flD _, flD _, dp_fl (e8 _ _ hq7) rfl, dp_fl upd_same rfl, shaped_fl _, shaped_fl _, _, rfl, iteF' (eqf _) ?_⟩
      have e38 := (e36.trans e7).trans e8
      generalize upd H7 l (.lst [V.str "demand", .int (-1)]) = H8 at *
      -- [None] + row[1:]
      refine ⟨_, rfl, _, rfl, (by show 1 ≤ sizeLine; decide), fun p9 hp9 => ?_⟩
      have e9 := Ex.new (o := .lst [V.non]) hp9
      have e39 := e38.trans e9
      refine ⟨_, rfl, _, rfl, R, _, rfl, SqL.of (e39 _ _ hR), fun p10 hp10 => ?_⟩
      have hcd : cutV (ds.map V.int) (some 1) none = (ds.map V.int).drop 1 := cut_drop (ds.map V.int) 1 (by rw [List.length_map]; omega)
      rw [hcd]
      have e10 := Ex.new (o := .lst ((ds.map V.int).drop 1)) hp10
      have hp9b := e10 _ _ (upd_same (H := H8) (a := p9) (o := .lst [V.non]))
      refine ⟨p9, p10, _, _, rfl, rfl, hp9b, upd_same, sz1000 (by rw [List.length_drop, List.length_map]; show 1 + _ ≤ 1000; omega), fun p11 hp11 => ?_⟩
      have e11 := Ex.new (o := .lst ([V.non] ++ (ds.map V.int).drop 1)) hp11
      have e311 := (e39.trans e10).trans e11
      refine ⟨_, rfl, d, x, _, _, kd, s, rs, gs, rfl, G.ex e311, .inr ⟨hd4, 0, .inr (.inr ⟨p11, [], .non, (ds.map V.int).drop 1, rfl, upd_same, by rw [List.length_drop, List.length_map]; show 0 + 1 + _ = s; omega, .non, rfl, fun z hz => ?_, rfl⟩), fun H12 q12 e12 hq12 => ?_⟩⟩
      · obtain ⟨n, _, rfl⟩ := List.mem_map.mp (List.mem_of_mem_drop hz)
        exact .int _
      refine ⟨(by show 2 ≤ sizeLine; decide), fun l2 hl2 => ?_⟩
      have e13 := Ex.new (o := .lst [V.str "demand", .int 0]) hl2
      refine ⟨flD _, flD _, dp_fl (e13 _ _ hq12) rfl, dp_fl upd_same rfl, shaped_fl _, shaped_fl _, _, rfl, iteF' (eqf _) ?_⟩
      exact ⟨⟨_, rfl⟩, (e311.trans e12).trans e13⟩
    · rintro σ H3 ⟨⟨v5, rfl⟩, e3⟩
      exact k H3 e3
end
end K05


set_option Elab.async false
set_option linter.all false
set_option maxRecDepth 100000
set_option maxHeartbeats 4000000
namespace K05
open PySem PySem.Spec PyProof.Rows L2 RZ StX
open Evl (Ex)
section
variable {w : World} {K : PySem.W.Frag} {mg : Str → Option Value} {base : Heap}
abbrev nPo : List Str := ["_law_draws_here", "_law_market_here", "_law_size", "_law_runs", "_law_present", "_law_row", "_law_points_here", "_law_point", "_law_turned", "_law_k", "_law_where", "_law_wrong", "_law_spoilt"]
theorem sc_Po : FnScope nPo ["_law_draws_here", "_law_market_here", "_law_size", "_law_runs", "_law_present", "_law_row"] (defScope s__law_points) := ⟨rfl, rfl, rfl, by decide +kernel, rfl, by decide +kernel, by decide +kernel⟩
abbrev cxPo (w : World) (K : PySem.W.Frag) (mg : Str → Option Value) (base : Heap) (cdv : Value) (A0 : Around) (outer : List Env) (s0 : Shared) (H0 : Hp) (E : XK) : Cx := (cxOf CX0 PP w K mg base nPo "_law_points" (defScope s__law_points) (He.ga K "_law_points") cdv A0 outer s0 H0 E).nox
set_option maxHeartbeats 8000000 in
theorem poT (T : Ctx K mg) {cdv : Value} {A0 : Around} {outer : List Env} {s0 : Shared} {H0 : Hp} {E : XK} (hr : Room 10 (A0.deeper (envOfC "_law_points" (defScope s__law_points) s0.heap.objs.size (He.ga K "_law_points") cdv))) :
    ∃ tm, PSs (cxPo w K mg base cdv A0 outer s0 H0 E) ((defBody s__law_points).drop 8) tm ∧ ∀ {H : Hp} {Q : VK} {D x R A W P U S : Addr} {wh wr : V} {kd : Str} {s : Nat} {rs : List (Int × Int)} {gs ds ps : List Int}, GM K H x kd (s : Int) rs gs → H W = some (.lst (ds.map V.int)) → ds.length = s → H P = some (.lst (ps.map V.int)) → PtOk s ps → ps.length ≤ 50 → Wr wr → PtBad H s (.ref S) wr → (∀ H', Ex H H' → Q (.bl true) H') →
      tm { nx := fun _ H' => Q .non H', rt := Q } [some (.ref D), some (.ref x), some (.int s), some (.ref R), some (.ref A), some (.ref W), some (.ref P), none, some (.ref U), none, some wh, some wr, some (.ref S)] H := by
  obtain ⟨f1, fd1, m1, kp1, F1, b1⟩ := has_refu (w := w) (base := base) T
  obtain ⟨f2, fd2, m2, kp2, F2, b2⟩ := has_Dr (w := w) (base := base) T
  have nd := sc_Po.nd
  have hu := hr.units
  have r5 := hr.mono (show 5 ≤ 10 by decide)
  refine ⟨_, (pss_cons (ps_if (pt_cmpR (op_neD hu) (pe_call F1 r5 (by rfl) m1 kp1 b1 .nil pass0 (pa_cons (pv 1) (pa_cons (pv 5) (pa_cons (pv 12) pa_nil)))) (pe_lst (pa_cons pe_str (pa_cons (pv 11) (pa_cons pe_bl (pa_cons pe_bl pa_nil))))) (nomark _)) (pss_one (ps_ret pe_bl)) pss_nil)
    (pss_cons (ps_if (PW.pt (pw_and (pt_cmpR op_gt (pe_callB call_len_seq (by rfl) T.b_len PySem.boot_len (pa_cons (pv 6) pa_nil)) pe_int (nomark _)) (pw_and1 (pt_cmpR (op_neD hu) (pe_call F1 r5 (by rfl) m1 kp1 b1 .nil pass0 (pa_cons (pv 1) (pa_cons (pv 5) (pa_cons (pe_op op_cat (pv 6) (pe_lst (pa_cons (pe_ix ix_list (pv 6) pe_int (fun _ _ => rfl)) pa_nil))) pa_nil)))) (pe_lst (pa_cons pe_str (pa_cons (pe_ix ix_list (pv 6) pe_int (fun _ _ => rfl)) (pa_cons pe_bl (pa_cons pe_bl pa_nil))))) (nomark _))))) (pss_one (ps_ret pe_bl)) pss_nil)
    (pss_cons (ps_if (pt_not (pt_val (pe_call F2 hr (by rfl) m2 kp2 b2 .nil pass0 (pa_cons (pv 1) (pa_cons (pv 2) (pa_cons (pv 5) (pa_cons (pv 12) (pa_cons (pv 11) pa_nil)))))))) (pss_one (ps_ret pe_bl)) pss_nil)
    (pss_one (ps_ret (pe_cmpR (op_eqD hu) (pe_call F1 r5 (by rfl) m1 kp1 b1 .nil pass0 (pa_cons (pv 1) (pa_cons (pe_op op_cat (pv 5) (pe_lst (pa_cons pe_int pa_nil))) (pa_cons (pv 12) pa_nil)))) (pe_lst (pa_cons pe_str (pa_cons (pe_un un_neg pe_int) pa_nil))) (nomark _))))))), ?_⟩
  intro H Q D x R A W P U S wh wr kd s rs gs ds ps G hW hdl hP hPt hpl hwr hbad k
  have eqf : ∀ vs : List V, (!PyData.eqv (flD vs) (flD vs)) = false := fun vs => by rw [eqv_fl]; rfl
  have sz := G.size
  obtain ⟨us, M⟩ := G.ob
  have flw : ([V.str "point", wr, .bl true, .bl false]).all flatV = true := by rcases hwr with ⟨n, rfl⟩ | rfl <;> rfl
  have okw : ([V.str "point", wr, .bl true, .bl false]).all okV = true := by rcases hwr with ⟨n, rfl⟩ | rfl <;> kernel_rfl
  have dem : ∀ {H' : Hp}, Ex H H' → Dem H' s (.ref W) ds := fun e => .inr ⟨⟨W, rfl, .inl (e _ _ hW)⟩, hdl⟩
  refine ⟨_, rfl, _, rfl, _, rfl, x, _, _, kd, s, us, rs, gs, rfl, M, by omega, .inr ⟨ds, wr, dem (Ex.refl H), hbad, fun H1 q1 e1 hq1 => ?_⟩⟩
  refine ⟨_, rfl, (by show 4 ≤ sizeLine; decide), fun l hl => ?_⟩
  have e2 := Ex.new (o := .lst [V.str "point", wr, .bl true, .bl false]) hl
  refine ⟨flD _, flD _, dp_fl (e2 _ _ hq1) flw, dp_fl upd_same flw, shaped_fl _ okw, shaped_fl _ okw, _, rfl, iteF' (eqf _) ?_⟩
  have e02 := e1.trans e2
  generalize upd H1 l (.lst [V.str "point", wr, .bl true, .bl false]) = H2 at *
  have hP2 := e02 _ _ hP
  refine ⟨_, rfl, P, _, rfl, .inl (SqL.of hP2), _, _, rfl, rfl, _, rfl, ?_⟩
  by_cases c : (0 : Int) < ((ps.map V.int).length : Nat)
  · refine iteT' (decide_eq_true c) ?_
    rw [List.length_map] at c
    obtain ⟨z, hz⟩ : ∃ z, ps[0]? = some z := ⟨_, List.getElem?_eq_getElem (by omega)⟩
    have hzi : ∀ {H' : Hp}, H' P = some (.lst (ps.map V.int)) → atI (ps.map V.int) 0 = some (V.int z) := fun _ => atI_nat (j := 0) (by rw [List.getElem?_map, hz]; rfl)
    refine ⟨_, rfl, _, rfl, _, rfl, _, rfl, P, _, _, _, rfl, rfl, SqL.of hP2, hzi hP2, (by show 1 ≤ sizeLine; decide), fun p3 hp3 => ?_⟩
    have e3 := Ex.new (o := .lst [V.int z]) hp3
    refine ⟨P, p3, _, _, rfl, rfl, e3 _ _ hP2, upd_same, sz1000 (by rw [List.length_map]; show ps.length + 1 ≤ 1000; omega), fun p4 hp4 => ?_⟩
    have e4 := Ex.new (o := .lst (ps.map V.int ++ [V.int z])) hp4
    have e24 := (e02.trans e3).trans e4
    refine ⟨x, _, _, kd, s, us, rs, gs, rfl, M.ex e24, by omega, .inr ⟨ds, .int z, dem e24, .inr ⟨p4, ps, [], rfl, .inl upd_same, hPt, .int _, .inr ⟨z, List.mem_of_getElem? hz, rfl⟩⟩, fun H5 q5 e5 hq5 => ?_⟩⟩
    have e25 := e24.trans e5
    refine ⟨_, rfl, P, _, _, _, rfl, rfl, SqL.of (e25 _ _ hP), hzi (e25 _ _ hP), (by show 4 ≤ sizeLine; decide), fun l6 hl6 => ?_⟩
    have e6 := Ex.new (o := .lst [V.str "point", .int z, .bl true, .bl false]) hl6
    refine ⟨flD _, flD _, dp_fl (e6 _ _ hq5) rfl, dp_fl upd_same rfl, shaped_fl _, shaped_fl _, _, rfl, iteF' (eqf _) ?_⟩
    have e3 := e25.trans e6
    generalize upd H5 l6 (.lst [V.str "point", .int z, .bl true, .bl false]) = H6 at *
    clear e24 e25
    refine ⟨_, rfl, _, rfl, _, rfl, _, rfl, _, rfl, x, W, .ref S, wr, kd, s, rs, gs, ds, rfl, G.ex e3, e3 _ _ hW, hdl, hwr, hbad.ex e3, fun H7 e7 => ⟨true, rfl, iteF' rfl ?_⟩⟩
    have e37 := e3.trans e7
    refine ⟨_, rfl, _, rfl, (by show 1 ≤ sizeLine; decide), fun p8 hp8 => ?_⟩
    have e8 := Ex.new (o := .lst [V.int 0]) hp8
    refine ⟨W, p8, _, _, rfl, rfl, e8 _ _ (e37 _ _ hW), upd_same, sz1000 (by rw [List.length_map]; show ds.length + 1 ≤ 1000; omega), fun p9 hp9 => ?_⟩
    have e9 := Ex.new (o := .lst (ds.map V.int ++ [V.int 0])) hp9
    have e39 := (e37.trans e8).trans e9
    refine ⟨_, rfl, x, _, _, kd, s, us, rs, gs, rfl, M.ex e39, by omega, .inl ⟨-1, .inr (.inl ⟨p9, _, rfl, upd_same, by rw [List.length_append, List.length_map]; show ds.length + 1 ≠ s; omega, rfl⟩), fun H10 q10 e10 hq10 => ?_⟩⟩
    refine ⟨_, rfl, (by show 2 ≤ sizeLine; decide), fun l11 hl11 => ?_⟩
    have e11 := Ex.new (o := .lst [V.str "demand", .int (-1)]) hl11
    refine ⟨flD _, flD _, dp_fl (e11 _ _ hq10) rfl, dp_fl upd_same rfl, shaped_fl _, shaped_fl _, ?_⟩
    rw [eqv_fl]
    exact k _ ((e39.trans e10).trans e11)
  · refine iteF' (decide_eq_false c) (iteF' rfl ?_)
    have e3 := e02
    refine ⟨_, rfl, _, rfl, _, rfl, _, rfl, _, rfl, x, W, .ref S, wr, kd, s, rs, gs, ds, rfl, G.ex e3, e3 _ _ hW, hdl, hwr, hbad.ex e3, fun H7 e7 => ⟨true, rfl, iteF' rfl ?_⟩⟩
    have e37 := e3.trans e7
    refine ⟨_, rfl, _, rfl, (by show 1 ≤ sizeLine; decide), fun p8 hp8 => ?_⟩
    have e8 := Ex.new (o := .lst [V.int 0]) hp8
    refine ⟨W, p8, _, _, rfl, rfl, e8 _ _ (e37 _ _ hW), upd_same, sz1000 (by rw [List.length_map]; show ds.length + 1 ≤ 1000; omega), fun p9 hp9 => ?_⟩
    have e9 := Ex.new (o := .lst (ds.map V.int ++ [V.int 0])) hp9
    have e39 := (e37.trans e8).trans e9
    refine ⟨_, rfl, x, _, _, kd, s, us, rs, gs, rfl, M.ex e39, by omega, .inl ⟨-1, .inr (.inl ⟨p9, _, rfl, upd_same, by rw [List.length_append, List.length_map]; show ds.length + 1 ≠ s; omega, rfl⟩), fun H10 q10 e10 hq10 => ?_⟩⟩
    refine ⟨_, rfl, (by show 2 ≤ sizeLine; decide), fun l11 hl11 => ?_⟩
    have e11 := Ex.new (o := .lst [V.str "demand", .int (-1)]) hl11
    refine ⟨flD _, flD _, dp_fl (e11 _ _ hq10) rfl, dp_fl upd_same rfl, shaped_fl _, shaped_fl _, ?_⟩
    rw [eqv_fl]
    exact k _ ((e39.trans e10).trans e11)
end
end K05


set_option Elab.async false
set_option linter.all false
set_option maxRecDepth 100000
set_option maxHeartbeats 4000000
namespace K05
open PySem PySem.Spec PyProof.Rows L2 RZ StX
open Evl (Ex)
theorem Mkt.kp {K : PySem.W.Frag} {D x : Addr} {H H' : Hp} {kd : Str} {s : Int} {us : List V} {rs : List (Int × Int)} {gs : List Int} (M : Mkt K H x kd s us rs gs) (k : Kp D H H') (d : Dr D H) : Mkt K H' x kd s us rs gs := by
  obtain ⟨C, dx, pr, pg, hM, h1, h2, h3⟩ := M.ob
  obtain ⟨ns, hn⟩ := d
  exact ⟨⟨C, dx, pr, pg, hM, k _ _ (ne_of h1 hn (by intro z; cases z)) h1, k.tup ⟨ns, hn⟩ h2, k.tup ⟨ns, hn⟩ h3⟩, k.runs ⟨ns, hn⟩ M.runs⟩
theorem GM.kp {K : PySem.W.Frag} {D x : Addr} {H H' : Hp} {kd : Str} {s : Int} {rs : List (Int × Int)} {gs : List Int} (G : GM K H x kd s rs gs) (k : Kp D H H') (d : Dr D H) : GM K H' x kd s rs gs :=
  ⟨let ⟨us, M⟩ := G.ob; ⟨us, M.kp k d⟩, G.size, G.fits, G.few, G.gone⟩
end K05


set_option Elab.async false
set_option linter.all false
set_option maxRecDepth 100000
set_option maxHeartbeats 4000000
namespace K05
open PySem PySem.Spec PyProof.Rows L2 RZ StX
open Evl (Ex)
theorem lv_rev (rs : List (Int × Int)) (ps : List Int) : lvB rs ps.reverse = ovB false rs ps := by
  funext p
  show lvB rs ps.reverse p = lvB rs ps p
  unfold lvB
  congr 1
  · exact decide_eq_decide.mpr List.mem_reverse
  · exact congrArg _ (decide_eq_decide.mpr List.mem_reverse)
theorem en_ov (rs : List (Int × Int)) (ps : List Int) : enB rs ps = ovB true rs ps := rfl
theorem PtOk.rev {s : Nat} {ps : List Int} (h : PtOk s ps) : PtOk s ps.reverse := ⟨List.pairwise_reverse.mpr (h.nd.imp Ne.symm), fun n hn => h.inn n (List.mem_reverse.mp hn)⟩
section
variable {w : World} {K : PySem.W.Frag} {mg : Str → Option Value} {base : Heap}
set_option maxHeartbeats 8000000 in
theorem poM (T : Ctx K mg) {cdv : Value} {A0 : Around} {outer : List Env} {s0 : Shared} {H0 : Hp} {E : XK} (hr : Room 10 (A0.deeper (envOfC "_law_points" (defScope s__law_points) s0.heap.objs.size (He.ga K "_law_points") cdv))) :
    ∃ tm, PSs (cxPo w K mg base cdv A0 outer s0 H0 E) ((defBody s__law_points).drop 2) tm ∧ ∀ {H Hb : Hp} {Q : VK} {D x R A W P U : Addr} {us0 : List V} {kd : Str} {s : Nat} {rs : List (Int × Int)} {gs ds ps : List Int}, GM K H x kd (s : Int) rs gs → Dr D H → H R = some (.lst us0) → Runs H us0 rs → H A = some (.lst ((thL rs.length gs).map V.int)) → H W = some (.lst (ds.map V.int)) → ds.length = s → W ≠ D → H P = some (.lst (ps.map V.int)) → P ≠ D → PtOk s ps → ps.length ≤ 50 → H U = some (.lst (ps.reverse.map V.int)) → Kp D Hb H → (∀ H', Kp D Hb H' → Q (.bl true) H') →
      tm { nx := fun _ H' => Q .non H', rt := Q } [some (.ref D), some (.ref x), some (.int s), some (.ref R), some (.ref A), some (.ref W), some (.ref P), none, some (.ref U), none, none, none, none] H := by
  obtain ⟨f1, fd1, m1, kp1, F1, b1⟩ := has_Lv (w := w) (base := base) T
  obtain ⟨f2, fd2, m2, kp2, F2, b2⟩ := has_Oe (w := w) (base := base) T
  obtain ⟨f3, fd3, m3, kp3, F3, b3⟩ := has_En (w := w) (base := base) T
  obtain ⟨f4, fd4, m4, kp4, F4, b4⟩ := has_Of (w := w) (base := base) T
  obtain ⟨f5, fd5, m5, kp5, F5, b5⟩ := has_Lo (w := w) (base := base) T
  obtain ⟨f6, fd6, m6, kp6, F6, b6⟩ := has_take (w := w) (base := base) T
  obtain ⟨tm2, P2, R2⟩ := poT (w := w) (base := base) (cdv := cdv) (A0 := A0) (outer := outer) (s0 := s0) (H0 := H0) (E := E) T hr
  have nd := sc_Po.nd
  have hu := hr.units
  have r4 := hr.mono (show 4 ≤ 10 by decide)
  have r1 := hr.mono (show 1 ≤ 10 by decide)
  refine ⟨_, (pss_cons (ps_if (pt_cmpR (op_neD hu) (pe_call F1 r4 (by rfl) m1 kp1 b1 .nil (E := E0) (pass_none rfl rfl) (pa_cons (pv 1) (pa_cons (pv 8) pa_nil))) (pe_call F2 r1 (by rfl) m2 kp2 b2 .nil pass0 (pa_cons (pv 3) (pa_cons (pv 4) (pa_cons (pv 6) (pa_cons pe_bl pa_nil))))) (nomark _)) (pss_one (ps_ret pe_bl)) pss_nil)
    (pss_cons (ps_if (pt_cmpR (op_neD hu) (pe_call F3 r4 (by rfl) m3 kp3 b3 .nil (E := E0) (pass_none rfl rfl) (pa_cons (pv 1) (pa_cons (pe_callTy call_tuple_of (by rfl) T.b_tuple (by decide +kernel) (pa_cons (pv 6) pa_nil)) pa_nil))) (pe_call F2 r1 (by rfl) m2 kp2 b2 .nil pass0 (pa_cons (pv 3) (pa_cons (pv 4) (pa_cons (pv 6) (pa_cons pe_bl pa_nil))))) (nomark _)) (pss_one (ps_ret pe_bl)) pss_nil)
    (pss_cons (ps_if (pt_cmpR op_ne (pe_call F4 r4 (by rfl) m4 kp4 b4 .nil (E := E0) (pass_none rfl rfl) (pa_cons (pv 1) (pa_cons (pv 5) (pa_cons (pv 8) pa_nil)))) (pe_call F5 r1 (by rfl) m5 kp5 b5 .nil pass0 (pa_cons (pv 5) (pa_cons (pv 6) pa_nil))) (nomark _)) (pss_one (ps_ret pe_bl)) pss_nil)
    (pss_cons (ps_set (i := 10) nd rfl (.inl rfl) (pe_call F6 r1 (by rfl) m6 kp6 b6 .nil pass0 (pa_cons (pv 0) (pa_cons (pe_op op_add (pe_callB call_len_seq (by rfl) T.b_len PySem.boot_len (pa_cons (pv 6) pa_nil)) pe_int) pa_nil))))
    (pss_cons (ps_set (i := 11) nd rfl (.inl rfl) (pe_ix ix_list (pe_lst (pa_cons (pe_op op_add (pv 2) pe_int) (pa_cons (pe_un un_neg pe_int) (pa_cons pe_non pa_nil)))) (pe_call F6 r1 (by rfl) m6 kp6 b6 .nil pass0 (pa_cons (pv 0) (pa_cons pe_int pa_nil))) (fun _ _ => rfl)))
    (pss_cons (ps_set (i := 12) nd rfl (.inl rfl) (pe_op op_cat (pe_op op_cat (pe_slice sl_list (pv 6) po_none (po_some (pv 10))) (pe_lst (pa_cons (pv 11) pa_nil))) (pe_slice sl_list (pv 6) (po_some (pv 10)) po_none)))
    P2)))))), ?_⟩
  intro H Hb Q D x R A W P U us0 kd s rs gs ds ps G hD hR hRr hA hW hdl hWD hP hPD hPt hpl hU hkb k
  have sz := G.size
  have few := G.few
  obtain ⟨us, M⟩ := G.ob
  have hul := M.runs.len
  have thl := thL_len rs.length gs
  have hpb : ∀ p ∈ thL rs.length gs, 0 ≤ p ∧ p < rs.length := fun p hp => (thL_mem.mp hp).1
  have dem : ∀ {H' : Hp}, Ex H H' → Dem H' s (.ref W) ds := fun e => .inr ⟨⟨W, rfl, .inl (e _ _ hW)⟩, hdl⟩
  refine ⟨_, rfl, _, rfl, x, .ref U, kd, s, us, rs, gs, rfl, M, by omega, by omega, G.fits, .inl ⟨U, ps.reverse, rfl, .inl hU, hPt.rev, fun H1 F1 e1 hF1 => ?_⟩⟩
  refine ⟨_, rfl, _, rfl, _, rfl, R, A, P, us0, rs, _, ps, false, rfl, e1 _ _ hR, hRr.ex e1, e1 _ _ hA, hpb, by omega, .inl (e1 _ _ hP), fun H2 F2 e2 hF2 => ?_⟩
  have e02 := e1.trans e2
  refine ⟨itD _, itD _, dp_it (e2 _ _ hF1), dp_it hF2, shaped_it _, shaped_it _, _, rfl, iteF' (by rw [eqv_itB, decide_eq_true (by rw [hul, lv_rev])]; rfl) ?_⟩
  refine ⟨_, rfl, _, rfl, P, _, rfl, .inl ⟨SqL.of (e02 _ _ hP), fun t3 ht3 => ?_⟩⟩
  have e3 := Ex.new (o := .tup (ps.map V.int)) ht3
  have e03 := e02.trans e3
  refine ⟨x, .ref t3, kd, s, us, rs, gs, rfl, M.ex e03, by omega, by omega, G.fits, .inl ⟨t3, ps, rfl, .inr upd_same, hPt, fun H4 F4 e4 hF4 => ?_⟩⟩
  have e04 := e03.trans e4
  refine ⟨_, rfl, _, rfl, _, rfl, R, A, P, us0, rs, _, ps, true, rfl, e04 _ _ hR, hRr.ex e04, e04 _ _ hA, hpb, by omega, .inl (e04 _ _ hP), fun H5 F5 e5 hF5 => ?_⟩
  have e05 := e04.trans e5
  refine ⟨itD _, itD _, dp_it (e5 _ _ hF4), dp_it hF5, shaped_it _, shaped_it _, _, rfl, iteF' (by rw [eqv_itB, decide_eq_true (by rw [hul, en_ov])]; rfl) ?_⟩
  refine ⟨_, rfl, _, rfl, _, rfl, x, _, _, kd, s, us, rs, gs, rfl, M.ex e05, by omega, .inr ⟨ds, dem e05, .inl ⟨U, ps.reverse, rfl, .inl (e05 _ _ hU), hPt.rev, fun H6 e6 => ?_⟩⟩⟩
  have e06 := e05.trans e6
  refine ⟨_, rfl, _, rfl, W, P, ds, ps, rfl, e06 _ _ hW, by omega, .inl (e06 _ _ hP), fun n hn => by have := hPt.inn n hn; omega, ?_⟩
  refine ⟨rfl, _, rfl, iteF' (by rw [sm_perm (List.reverse_perm ps)]; simp) ?_⟩
  have d6 := hD.ex e06
  have hkb6 := hkb.trans (Kp.of (D := D) e06)
  have hP6 := e06 _ _ hP
  have hW6 := e06 _ _ hW
  have G6 := G.ex e06
  refine ⟨_, rfl, _, rfl, P, _, rfl, .inl (SqL.of hP6), _, _, rfl, rfl, D, _, rfl, d6, by rw [List.length_map]; omega, fun a H7 a0 a1 k7 d7 => ?_⟩
  rw [List.length_map] at a1
  obtain ⟨wh, rfl⟩ : ∃ n : Nat, a = (n : Int) := ⟨a.toNat, by omega⟩
  have hwl : wh ≤ ps.length := by omega
  refine ⟨_, rfl, _, _, rfl, rfl, _, rfl, (by show 3 ≤ sizeLine; decide), fun l hl => ?_⟩
  have e8 := Ex.new (o := .lst [V.int ((s : Int) + 1), .int (-1), .non]) hl
  have d8 := d7.ex e8
  refine ⟨_, rfl, D, 3, rfl, d8, by decide, fun j H9 j0 j1 k9 d9 => ?_⟩
  obtain ⟨wr, hat, hwr, hin, hKd⟩ : ∃ wr : V, atI [V.int ((s : Int) + 1), .int (-1), .non] j = some wr ∧ Wr wr ∧ inB wr 0 s = false ∧ ∀ H', Kd H' wr := by
    have hj : j = 0 ∨ j = 1 ∨ j = 2 := by omega
    rcases hj with rfl | rfl | rfl
    · exact ⟨_, atI_nat (j := 0) rfl, .inl ⟨_, rfl⟩, decide_eq_false (by omega), fun _ => .int _⟩
    · exact ⟨_, atI_nat (j := 1) rfl, .inl ⟨_, rfl⟩, (by show decide ((0 : Int) ≤ -1 ∧ (-1 : Int) ≤ s) = false; exact decide_eq_false (by omega)), fun _ => .int _⟩
    · exact ⟨_, atI_nat (j := 2) rfl, .inr rfl, rfl, fun _ => .non⟩
  refine ⟨l, _, j, wr, rfl, rfl, SqL.of (k9 _ _ (Kp.ne d7 hl) upd_same), hat, ?_⟩
  have k69 := (k7.trans (Kp.of e8)).trans k9
  have hP9 := k69 _ _ hPD hP6
  have hW9 := k69 _ _ hWD hW6
  have G9 := G6.kp k69 d6
  refine ⟨_, rfl, _, rfl, _, rfl, P, _, rfl, SqL.of hP9, fun p1 hp1 => ?_⟩
  rw [cut_take _ _ (by rw [List.length_map]; exact hwl)]
  have g1 := Ex.new (o := .lst ((ps.map V.int).take wh)) hp1
  refine ⟨_, rfl, (by show 1 ≤ sizeLine; decide), fun p2 hp2 => ?_⟩
  have g2 := Ex.new (o := .lst [wr]) hp2
  refine ⟨p1, p2, _, _, rfl, rfl, g2 _ _ upd_same, upd_same, sz1000 (by rw [List.length_take, List.length_map]; show _ + 1 ≤ 1000; omega), fun p3 hp3 => ?_⟩
  have g3 := Ex.new (o := .lst ((ps.map V.int).take wh ++ [wr])) hp3
  have g13 := (g1.trans g2).trans g3
  refine ⟨_, rfl, _, rfl, _, rfl, P, _, rfl, SqL.of (g13 _ _ hP9), fun p4 hp4 => ?_⟩
  rw [cut_drop _ _ (by rw [List.length_map]; exact hwl)]
  have g4 := Ex.new (o := .lst ((ps.map V.int).drop wh)) hp4
  refine ⟨p3, p4, _, _, rfl, rfl, g4 _ _ upd_same, upd_same, sz1000 (by rw [List.length_append, List.length_take, List.length_drop, List.length_map]; show _ + 1 + _ ≤ 1000; omega), fun p5 hp5 => ?_⟩
  have g5 := Ex.new (o := .lst ((ps.map V.int).take wh ++ [wr] ++ (ps.map V.int).drop wh)) hp5
  have g15 := (g13.trans g4).trans g5
  have kall := hkb6.trans (k69.trans (Kp.of g15))
  refine R2 (G9.ex g15) (g15 _ _ hW9) hdl (g15 _ _ hP9) hPt hpl hwr (.inr ⟨p5, ps.take wh, (ps.map V.int).drop wh, rfl, .inl ?_, ⟨hPt.nd.sublist (List.take_sublist _ _), fun n hn => hPt.inn n (List.mem_of_mem_take hn)⟩, hKd _, .inl hin⟩) (fun H' e' => k H' (kall.trans (Kp.of e')))
  rw [upd_same, List.append_assoc, List.map_take]
  rfl
end
end K05


set_option Elab.async false
set_option linter.all false
set_option maxRecDepth 100000
set_option maxHeartbeats 4000000
namespace K05
open PySem PySem.Spec PyProof.Rows L2 RZ StX
open Evl (Ex)
section
variable {w : World} {K : PySem.W.Frag} {mg : Str → Option Value} {base : Heap}
def spPoR (K : PySem.W.Frag) : Sp := fun vs H Q _ => ∃ (D x R A W : Addr) (us0 : List V) (kd : Str) (s : Nat) (rs : List (Int × Int)) (gs ds : List Int), vs = [.ref D, .ref x, .int s, .ref R, .ref A, .ref W] ∧ GM K H x kd (s : Int) rs gs ∧ Dr D H ∧ H R = some (.lst us0) ∧ Runs H us0 rs ∧ H A = some (.lst ((thL rs.length gs).map V.int)) ∧ H W = some (.lst (ds.map V.int)) ∧ ds.length = s ∧ W ≠ D ∧ R ≠ D ∧ A ≠ D ∧ ∀ H', Kp D H H' → Q (.bl true) H'
set_option maxHeartbeats 8000000 in
theorem has_Po (T : Ctx K mg) : Has w K mg base CX0 "_law_points" 11 ["_law_draws_here", "_law_market_here", "_law_size", "_law_runs", "_law_present", "_law_row"] (spPoR K) := by
  obtain ⟨f1, fd1, m1, kp1, F1, b1⟩ := has_take (w := w) (base := base) T
  refine has_of (st := s__law_points) (f := He.ga K "_law_points") T.d__law_points T.g__law_points (fun _ _ _ _ _ _ us hl => match us, hl with | [_, _, _, _, _, _], _ => rfl) fun fd F => ?_
  refine ok0 F sc_Po (fun vs H Q E h => ?_) (fun cdv A0 outer s0 H vs Q E hr h => ?_)
  · obtain ⟨D, x, R, A, W, us0, kd, s, rs, gs, ds, rfl, _⟩ := h
    rfl
  · obtain ⟨D, x, R, A, W, us0, kd, s, rs, gs, ds, rfl, G, hD, hR, hRr, hA, hW, hdl, hWD, hRD, hAD, k⟩ := h
    have nd := sc_Po.nd
    have r1 := hr.mono (show 1 ≤ 10 by decide)
    obtain ⟨tm2, P2, R2⟩ := poM (w := w) (base := base) (cdv := cdv) (A0 := A0) (outer := outer) (s0 := s0) (H0 := H) (E := E) T hr
    refine ⟨_, pss_cons (ps_set (i := 6) nd rfl (.inr rfl) (pe_lc (own := [("_law_point", 7)]) (g := gName 7) rfl nd (pi_range1 (by rfl) T.b_range (pa_cons (pe_op op_add (pv 2) pe_int) pa_nil)) (blkOk_by (own := [("_law_point", 7)]) (N := nPo) (sc := defScope s__law_points) (by decide +kernel)) (fun _ _ _ _ _ => pg_name (i := 7) nd rfl (Or.inl rfl))
        (fun _ _ _ _ _ => pts_one (pt_cmpR op_eq (pe_call F1 r1 (by rfl) m1 kp1 b1 .nil pass0 (pa_cons (pv 0) (pa_cons pe_int pa_nil))) pe_int (nomark _))) (fun _ _ _ _ _ => pv 7)))
      (pss_cons (ps_setLc (i := 8) (own := [("_law_k", 9)]) (g := gName 9) (tt := tYes) rfl nd rfl rfl (by rfl) (pi_range1 (by rfl) T.b_range (pa_cons (pe_callB call_len_seq (by rfl) T.b_len PySem.boot_len (pa_cons (pv 6) pa_nil)) pa_nil)) (blkOk_by (own := [("_law_k", 9)]) (N := nPo) (sc := defScope s__law_points) (by decide +kernel)) (fun _ _ _ _ _ => pg_name (i := 9) nd rfl (Or.inl rfl)) (fun _ _ _ _ _ => pts_nil)
          (fun _ _ _ _ _ => pe_ix (ix_listK (K := K) rfl) (pv 6) (pe_op op_sub (pe_op op_sub (pe_callB (cr_lenK (K := K) rfl) (by rfl) T.b_len PySem.boot_len (pa_cons (pv 6) pa_nil)) pe_int) (pv 9)) (fun _ _ => rfl)))
      P2), ?_⟩
    have sz := G.size
    refine ⟨_, rfl, _, _, rfl, rfl, _, rfl, by omega, by omega, fun P hP => lc_it walk_range (fun i H' => Kp D H H' ∧ Dr D H' ∧ ∃ ps : List Int, H' P = some (.lst (ps.map V.int)) ∧ ps.Pairwise (· < ·) ∧ (∀ n ∈ ps, 0 ≤ n ∧ n < i)) ⟨Kp.of (Ex.new hP), hD.ex (Ex.new hP), [], upd_same, List.Pairwise.nil, fun n h => by cases h⟩ (fun _ _ _ _ => trivial) ?_ ?_⟩
    · rintro i y H6 H7 hi ⟨k6, d6, ps, hP6, asc, inn⟩ ⟨rfl, rfl⟩
      refine ⟨rfl, ?_⟩
      refine ⟨_, rfl, D, 2, rfl, d6, by decide, fun q H8 h2 h3 k8 d8 => ⟨rfl, _, rfl, ?_⟩⟩
      have hPD : P ≠ D := Kp.ne hD hP
      have hP8 := k8 _ _ hPD hP6
      have k58 := k6.trans k8
      have hgl : (ps.length : Int) ≤ (i : Int) - 0 := asc_few asc inn (by omega)
      have hi9 : i < 100 := by omega
      by_cases c : V.int q = V.int 1
      · refine iteT' (decide_eq_true c) ⟨_, rfl, _, hP8, by rw [List.length_map]; exact small1000 (by omega), k58.mut hP, ?_, ps ++ [(i : Int)], ?_, ?_, ?_⟩
        · obtain ⟨ms, hms⟩ := d8
          exact ⟨ms, by rw [upd_ne (Ne.symm hPD)]; exact hms⟩
        · rw [upd_same, List.map_append]
          simp
        · rw [List.pairwise_append]
          refine ⟨asc, List.pairwise_singleton _ _, fun a ha b hb => ?_⟩
          have := inn a ha
          have : b = i := by simpa using hb
          omega
        · intro n hn
          rcases List.mem_append.mp hn with hn | hn
          · have := inn n hn
            omega
          · have : n = i := by simpa using hn
            omega
      · exact iteF' (decide_eq_false c) ⟨k58, d8, ps, hP8, asc, fun n hn => by have := inn n hn; omega⟩
    rintro H6 ⟨k6, d6, ps, hP6, asc, inn⟩
    have hPD : P ≠ D := Kp.ne hD hP
    have toN : ((((s : Int) + 1).toNat : Nat) : Int) = (s : Int) + 1 := by omega
    have hgl := asc_few asc inn (by omega)
    have hpl : ps.length ≤ 31 := by omega
    have hPt : PtOk s ps := ⟨asc_nodup asc, fun n hn => by have := inn n hn; omega⟩
    have hD0 := hD
    refine ⟨_, rfl, P, _, rfl, .inl (SqL.of hP6), _, rfl, by omega, by rw [List.length_map]; omega, fun U hU => lc_it walk_range (fun i H' => Ex H6 H' ∧ H' P = some (.lst (ps.map V.int)) ∧ H' U = some (.lst ((ps.reverse.take i).map V.int))) ⟨Ex.new hU, (Ex.new hU) _ _ hP6, upd_same⟩ (fun _ _ _ _ => trivial) ?_ ?_⟩
    · rintro i y H7 H8 hi ⟨e7, hP7, hU7⟩ ⟨rfl, rfl⟩
      have hil : i < ps.length := by
        rw [List.length_map] at hi
        omega
      have hPU : P ≠ U := ne_of_none hP6 hU
      obtain ⟨z, hz⟩ : ∃ z, ps[ps.length - 1 - i]? = some z := ⟨_, List.getElem?_eq_getElem (by omega)⟩
      have hrz : ps.reverse[i]? = some z := by
        rw [List.getElem?_reverse hil]
        exact hz
      refine ⟨rfl, tYesI ?_⟩
      refine ⟨_, rfl, _, rfl, P, _, rfl, .inl (SqL.of hP7), _, _, rfl, rfl, _, rfl, _, _, rfl, rfl, P, _, _, V.int z, rfl, rfl, SqL.of hP7, ?_, ?_⟩
      · rw [List.length_map, show ((ps.length : Int) - 1 - (0 + (i : Int))) = ((ps.length - 1 - i : Nat) : Int) by omega]
        refine atI_nat ?_
        rw [List.getElem?_map, hz]
        rfl
      · refine ⟨_, hU7, by rw [List.length_map, List.length_take]; exact small1000 (by omega), Evl.Ex.mut e7 hU, by rw [upd_ne hPU]; exact hP7, ?_⟩
        rw [upd_same, List.take_add_one, hrz, List.map_append]
        rfl
    rintro H7 ⟨e7, hP7, hU7⟩
    have hlen : ((((ps.map V.int).length : Nat) : Int)).toNat = ps.reverse.length := by rw [List.length_map, List.length_reverse]; omega
    rw [hlen, List.take_length] at hU7
    have k7 := k6.trans (Kp.of e7)
    exact R2 ((G.kp k6 hD).ex e7) (d6.ex e7) (k7 _ _ hRD hR) (k7.runs hD hRr) (k7 _ _ hAD hA) (k7 _ _ hWD hW) hdl hWD hP7 hPD hPt (by omega) hU7 k7 k
end
end K05


set_option Elab.async false
set_option linter.all false
set_option maxRecDepth 100000
set_option maxHeartbeats 4000000
namespace K05
open PySem PySem.Spec PyProof.Rows L2 RZ StX
open Evl (Ex)
theorem Ord.eq {ns ms : List Int} (o : Ord ns ms) (h : ns.Pairwise (· < ·)) : ms = ns := asc_eq o.asc h fun k => o.mem k
section
variable {w : World} {K : PySem.W.Frag} {mg : Str → Option Value} {base : Heap}
def spLaw (K : PySem.W.Frag) : Sp := fun vs H Q _ => ∃ (a : Addr) (ns : List Int), vs = [.ref a] ∧ SqL K H a (ns.map V.int) ∧ ns.length ≤ 63 ∧ ∀ H', Q (.bl true) H'
abbrev nLw : List Str := ["_law_script", "_law_draws_here", "_law_kind_here", "_law_drawn", "_law_size", "_law_runs", "_law_absent", "_law_market_here", "_law_present", "_law_part", "_law_row", "_law_chosen", "_law_exists", "_law_parts_here", "_law_told", "_law_points_here"]
theorem sc_law : FnScope nLw ["_law_script"] (defScope s_law) := ⟨rfl, rfl, rfl, by decide +kernel, rfl, by decide +kernel, by decide +kernel⟩
abbrev cxLw (w : World) (K : PySem.W.Frag) (mg : Str → Option Value) (base : Heap) (f : Addr) (cdv : Value) (A0 : Around) (outer : List Env) (s0 : Shared) (H0 : Hp) (E : XK) : Cx := (cxOf CX0 PP w K mg base nLw "law" (defScope s_law) f cdv A0 outer s0 H0 E).nox
/-- all that the law has made -/
structure Made (K : PySem.W.Frag) (H : Hp) (D x R Ab A W : Addr) (kd : Str) (s : Nat) (us0 : List V) (rs : List (Int × Int)) (gs ds : List Int) : Prop where
  hkd : kd = "join" ∨ kd = "lap"
  G : GM K H x kd (s : Int) rs gs
  few : rs.length ≤ 9
  hD : Dr D H
  hR : H R = some (.lst us0)
  runs : Runs H us0 rs
  hAb : H Ab = some (.lst (gs.map V.int))
  hA : H A = some (.lst ((thL rs.length gs).map V.int))
  hW : H W = some (.lst (ds.map V.int))
  hdl : ds.length = s
  nW : W ≠ D
  nR : R ≠ D
  nA : A ≠ D
theorem Made.ex {H H' : Hp} {D x R Ab A W : Addr} {kd : Str} {s : Nat} {us0 : List V} {rs : List (Int × Int)} {gs ds : List Int} (h : Made K H D x R Ab A W kd s us0 rs gs ds) (e : Ex H H') : Made K H' D x R Ab A W kd s us0 rs gs ds :=
  ⟨h.hkd, h.G.ex e, h.few, h.hD.ex e, e _ _ h.hR, h.runs.ex e, e _ _ h.hAb, e _ _ h.hA, e _ _ h.hW, h.hdl, h.nW, h.nR, h.nA⟩
set_option maxHeartbeats 8000000 in
theorem lw17 (T : Ctx K mg) {f : Addr} {cdv : Value} {A0 : Around} {outer : List Env} {s0 : Shared} {H0 : Hp} {E : XK} (hr : Room 11 (A0.deeper (envOfC "law" (defScope s_law) s0.heap.objs.size f cdv))) :
    ∃ tm, PSs (cxLw w K mg base f cdv A0 outer s0 H0 E) ((defBody s_law).drop 17) tm ∧ ∀ {H : Hp} {Q : VK} {D x R Ab A W : Addr} {v0 v3 v11 v13 : Option V} {told pts : V} {b : Bool} {kd : Str} {s : Nat} {us0 : List V} {rs : List (Int × Int)} {gs ds : List Int}, Made K H D x R Ab A W kd s us0 rs gs ds →
      ((b = true ∧ ∃ (C : Addr) (c : List Int), told = .ref C ∧ H C = some (.tup (c.map V.int)) ∧ c.Pairwise (· < ·) ∧ (∀ p ∈ c, p ∈ thL rs.length gs) ∧ stOk kd s rs ds c) ∨
       (b = false ∧ ∃ (P : Addr) (ps : List Int), pts = .ref P ∧ H P = some (.tup (ps.map V.int)) ∧ ps.Pairwise (· < ·) ∧ ps ≠ [] ∧ (∀ q ∈ ps, 0 ≤ q ∧ q ≤ s) ∧ (((thL rs.length gs).filter (lvB rs ps)).length : Int) < sm (begD ds) ps ∧ (kd = "lap" → ∃ j : Nat, j < s ∧ ps = upto (j + 1) ∧ covAt rs (thL rs.length gs) j < ds.getD j 0))) →
      (∀ H', Q (.bl true) H') →
      tm { nx := fun _ H' => Q .non H', rt := Q } [v0, some (.ref D), some (.str kd), v3, some (.int s), some (.ref R), some (.ref Ab), some (.ref x), some (.ref A), none, some (.ref W), v11, some (.bl b), v13, some told, some pts] H := by
  obtain ⟨f1, fd1, m1, kp1, F1, b1⟩ := has_lset (w := w) (base := base) T
  obtain ⟨f2, fd2, m2, kp2, F2, b2⟩ := has_is_stock (w := w) (base := base) T
  obtain ⟨f3, fd3, m3, kp3, F3, b3⟩ := has_lstockT (w := w) (base := base) T
  obtain ⟨f4, fd4, m4, kp4, F4, b4⟩ := has_Lr (w := w) (base := base) T
  obtain ⟨f5, fd5, m5, kp5, F5, b5⟩ := has_Po (w := w) (base := base) T
  have nd := sc_law.nd
  have r2 := hr.mono (show 2 ≤ 11 by decide)
  have r5 := hr.mono (show 5 ≤ 11 by decide)
  refine ⟨_, (pss_cons (ps_if (pt_val (pv 12))
      (pss_cons (ps_if (PW.pt (pw_or (pt_not (pt_val (pe_call F1 r2 (by rfl) m1 kp1 b1 .nil pass0 (pa_cons (pv 14) (pa_cons (pe_callB call_len_seq (by rfl) T.b_len PySem.boot_len (pa_cons (pv 5) pa_nil)) pa_nil))))) (pw_or1 (pt_not (pt_val (pe_call F2 r5 (by rfl) m2 kp2 b2 .nil (E := E0) (pass_none rfl rfl) (pa_cons (pv 7) (pa_cons (pv 10) (pa_cons (pv 14) pa_nil))))))))) (pss_one (ps_ret pe_bl)) pss_nil)
      (pss_cons (ps_if (pt_cmpR op_gt (pe_callB call_len_seq (by rfl) T.b_len PySem.boot_len (pa_cons (pe_lc (own := [("_law_part", 9)]) (g := gName 9) rfl nd (pi_tup (pv 14)) (blkOk_by (own := [("_law_part", 9)]) (N := nLw) (sc := defScope s_law) (by decide +kernel)) (fun _ _ _ _ _ => pg_name (i := 9) nd rfl (Or.inl rfl))
          (fun _ _ _ _ _ => pts_one (pt_cmpR (op_inK (K := K) rfl) (pv 9) (pv 6) (by rfl))) (fun _ _ _ _ _ => pv 9)) pa_nil)) pe_int (nomark _)) (pss_one (ps_ret pe_bl)) pss_nil)
      (pss_one (ps_if (pt_not (pt_val (pe_call F3 r2 (by rfl) m3 kp3 b3 .nil pass0 (pa_cons (pv 2) (pa_cons (pv 4) (pa_cons (pv 5) (pa_cons (pv 10) (pa_cons (pv 14) pa_nil)))))))) (pss_one (ps_ret pe_bl)) pss_nil))))
      (pss_one (ps_if (pt_not (pt_val (pe_call F4 r2 (by rfl) m4 kp4 b4 .nil pass0 (pa_cons (pv 2) (pa_cons (pv 4) (pa_cons (pv 5) (pa_cons (pv 8) (pa_cons (pv 10) (pa_cons (pv 15) pa_nil))))))))) (pss_one (ps_ret pe_bl)) pss_nil)))
    (pss_one (ps_ret (pe_call F5 hr (by rfl) m5 kp5 b5 .nil pass0 (pa_cons (pv 1) (pa_cons (pv 7) (pa_cons (pv 4) (pa_cons (pv 5) (pa_cons (pv 8) (pa_cons (pv 10) pa_nil)))))))))), ?_⟩
  intro H Q D x R Ab A W v0 v3 v11 v13 told pts b kd s us0 rs gs ds Y hcase k
  have sz := Y.G.size
  have few := Y.few
  have hF := Y.G.fits
  have thl := thL_len rs.length gs
  have hpb : ∀ p ∈ thL rs.length gs, 0 ≤ p ∧ p < rs.length := fun p hp => (thL_mem.mp hp).1
  obtain ⟨us, M⟩ := Y.G.ob
  have hul := M.runs.len
  have h0l := Y.runs.len
  rcases hcase with ⟨rfl, C, c, rfl, hC, hc, hcs, hst⟩ | ⟨rfl, P, ps, rfl, hP, hpa, hpn, hpi, hlt, hlap⟩
  · refine ⟨_, rfl, true, rfl, iteT' rfl ?_⟩
    have hcb : ∀ p ∈ c, 0 ≤ p ∧ p < rs.length := fun p hp => hpb p (hcs p hp)
    have hcl : c.length ≤ 9 := by
      have := nodup_few (n := rs.length) (asc_nodup hc) hcb
      omega
    refine ⟨_, rfl, _, rfl, R, us0, rfl, .inl (SqL.of Y.hR), C, _, c, rfl, hC, hc, fun p hp => by have := hcb p hp; omega, true, rfl, iteF' rfl ?_⟩
    refine ⟨_, rfl, _, rfl, _, rfl, x, kd, s, us, rs, gs, _, _, rfl, M, by omega, hF, by omega, .inl ⟨ds, c, .inr ⟨⟨W, rfl, .inl Y.hW⟩, Y.hdl⟩, ⟨C, rfl, .inr hC⟩, ⟨asc_nodup hc, fun p hp => by have := hcb p hp; omega, by omega⟩, fun ms o H1 e1 => ?_⟩⟩
    have hms := o.eq hc
    subst hms
    have hno : ∀ p ∈ ms, p ∉ gs := fun p hp => (thL_mem.mp (hcs p hp)).2
    have hB : stockB kd s rs gs ds ms = true := by
      unfold stockB
      rw [show (ms.any fun p => decide (p ∈ gs)) = false from List.any_eq_false.mpr fun p hp => by simpa using hno p hp]
      exact hst
    refine ⟨true, by rw [hB], iteF' rfl ?_⟩
    have Y1 := Y.ex e1
    refine ⟨_, rfl, C, rfl, ⟨_, SqT.of (e1 _ _ hC)⟩, fun Z hZ => lc_it walk_tup (fun i H' => Ex H1 H' ∧ H' C = some (.tup (ms.map V.int)) ∧ H' Z = some (.lst [])) ⟨Ex.new hZ, (Ex.new hZ) _ _ (e1 _ _ hC), upd_same⟩ (fun i H' _ q => SqT.of q.2.1) ?_ ?_⟩
    · rintro i y H3 H4 hi ⟨e3, hC3, hZ3⟩ ⟨rfl, hx⟩
      obtain ⟨z, hz, rfl⟩ := map_int_get hx
      have hzn := hno z (List.mem_of_getElem? hz)
      refine ⟨rfl, ?_⟩
      refine ⟨_, rfl, _, rfl, Ab, _, rfl, .inl (SqL.of (e3 _ _ Y1.hAb)), rfl, flat_ints _, ?_⟩
      rw [inV_ints]
      exact ⟨_, rfl, iteF' (decide_eq_false hzn) ⟨e3, hC3, hZ3⟩⟩
    rintro H3 ⟨e3, hC3, hZ3⟩
    refine ⟨Z, _, rfl, .inl (SqL.of hZ3), _, _, rfl, rfl, _, rfl, iteF' (by decide) ?_⟩
    have Y3 := Y1.ex e3
    refine ⟨_, rfl, _, rfl, _, rfl, _, rfl, _, rfl, kd, s, R, W, C, us0, rs, ds, ms, rfl, Y.hkd, by omega, Y3.hR, Y3.runs, hF, Y3.hW, Y3.hdl, hC3, hcb, fun H5 e5 => ?_⟩
    refine ⟨true, congrArg V.bl hst, iteF' rfl ?_⟩
    have Y5 := Y3.ex e5
    exact ⟨_, rfl, _, rfl, _, rfl, _, rfl, _, rfl, _, rfl, D, x, R, A, W, us0, kd, s, rs, gs, ds, rfl, Y5.G, Y5.hD, Y5.hR, Y5.runs, Y5.hA, Y5.hW, Y5.hdl, Y5.nW, Y5.nR, Y5.nA, fun H' _ => k H'⟩
  · refine ⟨_, rfl, false, rfl, iteF' rfl ?_⟩
    refine ⟨_, rfl, _, rfl, _, rfl, _, rfl, _, rfl, _, rfl, kd, s, R, A, W, P, us0, rs, _, ds, ps, rfl, Y.hkd, by omega, Y.hR, Y.runs, hF, Y.hA, hpb, by omega, Y.hW, Y.hdl, hP, hpa, hpn, hpi, hlt, hlap, fun H1 e1 => ⟨true, rfl, iteF' rfl ?_⟩⟩
    have Y5 := Y.ex e1
    exact ⟨_, rfl, _, rfl, _, rfl, _, rfl, _, rfl, _, rfl, D, x, R, A, W, us0, kd, s, rs, gs, ds, rfl, Y5.G, Y5.hD, Y5.hR, Y5.runs, Y5.hA, Y5.hW, Y5.hdl, Y5.nW, Y5.nR, Y5.nA, fun H' _ => k H'⟩
end
end K05


set_option Elab.async false
set_option linter.all false
set_option maxRecDepth 100000
set_option maxHeartbeats 4000000
namespace K05
open PySem PySem.Spec PyProof.Rows L2 RZ StX
open Evl (Ex)
section
variable {w : World} {K : PySem.W.Frag} {mg : Str → Option Value} {base : Heap}
set_option maxHeartbeats 8000000 in
theorem lw13 (T : Ctx K mg) {f : Addr} {cdv : Value} {A0 : Around} {outer : List Env} {s0 : Shared} {H0 : Hp} {E : XK} (hr : Room 11 (A0.deeper (envOfC "law" (defScope s_law) s0.heap.objs.size f cdv))) :
    ∃ tm, PSs (cxLw w K mg base f cdv A0 outer s0 H0 E) ((defBody s_law).drop 13) tm ∧ ∀ {H : Hp} {Q : VK} {D x R Ab A W : Addr} {v0 v3 v11 v13 : Option V} {b : Bool} {kd : Str} {s : Nat} {us0 : List V} {rs : List (Int × Int)} {gs ds : List Int}, Made K H D x R Ab A W kd s us0 rs gs ds →
      (b = true ↔ ∃ X : List Int, X.Pairwise (· < ·) ∧ (∀ p ∈ X, p ∈ thL rs.length gs) ∧ stOk kd s rs ds X) →
      (∀ H', Q (.bl true) H') →
      tm { nx := fun _ H' => Q .non H', rt := Q } [v0, some (.ref D), some (.str kd), v3, some (.int s), some (.ref R), some (.ref Ab), some (.ref x), some (.ref A), none, some (.ref W), v11, some (.bl b), v13, none, none] H := by
  obtain ⟨f1, fd1, m1, kp1, F1, b1⟩ := has_So (w := w) (base := base) T
  obtain ⟨f2, fd2, m2, kp2, F2, b2⟩ := has_Hs (w := w) (base := base) T
  obtain ⟨f3, fd3, m3, kp3, F3, b3⟩ := has_Lk (w := w) (base := base) T
  obtain ⟨tm2, P2, R2⟩ := lw17 (w := w) (base := base) (f := f) (cdv := cdv) (A0 := A0) (outer := outer) (s0 := s0) (H0 := H0) (E := E) T hr
  have nd := sc_law.nd
  have r7 := hr.mono (show 7 ≤ 11 by decide)
  have r8 := hr.mono (show 8 ≤ 11 by decide)
  have r5 := hr.mono (show 5 ≤ 11 by decide)
  refine ⟨_, (pss_cons (ps_set (i := 14) nd rfl (.inl rfl) (pe_call F1 r7 (by rfl) m1 kp1 b1 .nil (E := E0) (pass_none rfl rfl) (pa_cons (pv 7) (pa_cons (pe_callTy call_list_of (by rfl) T.b_list (by decide +kernel) (pa_cons (pv 10) pa_nil)) pa_nil))))
    (pss_cons (ps_if (PW.pt (pw_or (pt_cmpR op_ne (pe_call F2 r8 (by rfl) m2 kp2 b2 .nil (E := E0) (pass_none rfl rfl) (pa_cons (pv 7) (pa_cons (pe_callTy call_tuple_of (by rfl) T.b_tuple (by decide +kernel) (pa_cons (pv 10) pa_nil)) pa_nil))) (pv 12) (nomark _)) (pw_or1 (pt_cmpR op_ne (pe_cmpR op_notN (pv 14) pe_non (nomark _)) (pv 12) (nomark _))))) (pss_one (ps_ret pe_bl)) pss_nil)
    (pss_cons (ps_set (i := 15) nd rfl (.inl rfl) (pe_call F3 r5 (by rfl) m3 kp3 b3 .nil (E := E0) (pass_none rfl rfl) (pa_cons (pv 7) (pa_cons (pv 10) pa_nil))))
    (pss_cons (ps_if (pt_cmpR op_ne (pe_cmpR op_isN (pv 15) pe_non (nomark _)) (pv 12) (nomark _)) (pss_one (ps_ret pe_bl)) pss_nil)
    P2)))), ?_⟩
  intro H Q D x R Ab A W v0 v3 v11 v13 b kd s us0 rs gs ds Y hb k
  refine ⟨_, rfl, _, rfl, W, _, rfl, .inl (SqL.of Y.hW), fun p1 hp1 => ?_⟩
  have e1 := Ex.new (o := .lst (ds.map V.int)) hp1
  refine ⟨x, .ref p1, kd, s, rs, gs, rfl, Y.G.ex e1, .inl ⟨ds, .inr ⟨⟨p1, rfl, .inl upd_same⟩, Y.hdl⟩, fun H2 u e2 hf => ?_⟩⟩
  have e02 := e1.trans e2
  refine ⟨_, rfl, _, rfl, W, _, rfl, .inl ⟨SqL.of (e02 _ _ Y.hW), fun t3 ht3 => ?_⟩⟩
  have e3 := Ex.new (o := .tup (ds.map V.int)) ht3
  have e03 := e02.trans e3
  refine ⟨x, .ref t3, kd, s, rs, gs, rfl, Y.G.ex e03, .inl ⟨ds, .inr ⟨⟨t3, rfl, .inr upd_same⟩, Y.hdl⟩, ?_⟩⟩
  rintro H4 _ e4 ⟨c2, rfl, hc2⟩
  have e04 := e03.trans e4
  have hcb : c2 = b := Bool.eq_iff_iff.mpr (hc2.trans hb.symm)
  subst hcb
  refine ⟨_, rfl, rfl, _, rfl, iteF' (by simp) ?_⟩
  have Y4 := Y.ex e04
  rcases hf with ⟨rfl, hno⟩ | ⟨C, c, rfl, hC, hc, hcs, hst⟩
  · have hf0 : c2 = false := Bool.eq_false_iff.mpr fun z => by
      obtain ⟨X, h1, h2, h3⟩ := hb.mp z
      exact hno X h1 h2 h3
    subst hf0
    refine ⟨_, rfl, rfl, _, rfl, rfl, _, rfl, iteF' (by simp) ?_⟩
    refine ⟨_, rfl, _, rfl, x, .ref W, kd, s, rs, gs, rfl, Y4.G, .inl ⟨ds, .inr ⟨⟨W, rfl, .inl Y4.hW⟩, Y.hdl⟩, fun H5 u5 e5 hl => ?_⟩⟩
    rcases hl with ⟨_, X, h1, h2, h3⟩ | ⟨P, ps, rfl, hP, hpa, hpn, hpi, hlt, hlap, _⟩
    · exact absurd h3 (hno X h1 h2)
    · refine ⟨_, rfl, rfl, _, rfl, rfl, _, rfl, iteF' (by simp) ?_⟩
      exact R2 (Y4.ex e5) (.inr ⟨rfl, P, ps, rfl, hP, hpa, hpn, hpi, hlt, hlap⟩) k
  · have hf1 : c2 = true := hb.mpr ⟨c, hc, hcs, hst⟩
    subst hf1
    refine ⟨_, rfl, rfl, _, rfl, rfl, _, rfl, iteF' (by simp) ?_⟩
    refine ⟨_, rfl, _, rfl, x, .ref W, kd, s, rs, gs, rfl, Y4.G, .inl ⟨ds, .inr ⟨⟨W, rfl, .inl Y4.hW⟩, Y.hdl⟩, fun H5 u5 e5 hl => ?_⟩⟩
    rcases hl with ⟨rfl, _⟩ | ⟨P, ps, rfl, _, _, _, _, _, _, hno⟩
    · refine ⟨_, rfl, rfl, _, rfl, rfl, _, rfl, iteF' (by simp) ?_⟩
      exact R2 (Y4.ex e5) (.inl ⟨rfl, C, c, rfl, e5 _ _ (e4 _ _ (e3 _ _ hC)), hc, hcs, hst⟩) k
    · exact absurd hst (hno c hc hcs)
set_option maxHeartbeats 8000000 in
theorem lw11 (T : Ctx K mg) {f : Addr} {cdv : Value} {A0 : Around} {outer : List Env} {s0 : Shared} {H0 : Hp} {E : XK} (hr : Room 11 (A0.deeper (envOfC "law" (defScope s_law) s0.heap.objs.size f cdv))) :
    ∃ tm, PSs (cxLw w K mg base f cdv A0 outer s0 H0 E) ((defBody s_law).drop 11) tm ∧ ∀ {H : Hp} {Q : VK} {D x R Ab A W : Addr} {v0 v3 v11 : Option V} {kd : Str} {s : Nat} {us0 : List V} {rs : List (Int × Int)} {gs ds : List Int}, Made K H D x R Ab A W kd s us0 rs gs ds →
      (∀ H', Q (.bl true) H') →
      tm { nx := fun _ H' => Q .non H', rt := Q } [v0, some (.ref D), some (.str kd), v3, some (.int s), some (.ref R), some (.ref Ab), some (.ref x), some (.ref A), none, some (.ref W), v11, none, none, none, none] H := by
  obtain ⟨f1, fd1, m1, kp1, F1, b1⟩ := has_Ss (w := w) (base := base) T
  obtain ⟨f2, fd2, m2, kp2, F2, b2⟩ := has_lstock (w := w) (base := base) T
  obtain ⟨tm2, P2, R2⟩ := lw13 (w := w) (base := base) (f := f) (cdv := cdv) (A0 := A0) (outer := outer) (s0 := s0) (H0 := H0) (E := E) T hr
  have nd := sc_law.nd
  have r1 := hr.mono (show 1 ≤ 11 by decide)
  have r2 := hr.mono (show 2 ≤ 11 by decide)
  refine ⟨_, (pss_cons (ps_set (i := 12) nd rfl (.inl rfl) pe_bl)
    (pss_cons (ps_for PassesOwn.never rfl (pi_list (pe_call F1 r1 (by rfl) m1 kp1 b1 .nil pass0 (pa_cons (pv 8) pa_nil))) (pg_name (i := 13) nd rfl (.inl rfl))
      (pss_one (ps_if (PW.pt (pw_and (pt_not (pt_val (pv 12))) (pw_and1 (pt_val (pe_call F2 r2 (by rfl) m2 kp2 b2 .nil pass0 (pa_cons (pv 2) (pa_cons (pv 4) (pa_cons (pv 5) (pa_cons (pv 10) (pa_cons (pv 13) pa_nil)))))))))) (pss_one (ps_set (i := 12) nd rfl (.inl rfl) pe_bl)) pss_nil)))
    P2)), ?_⟩
  intro H Q D x R Ab A W v0 v3 v11 kd s us0 rs gs ds Y k
  have sz := Y.G.size
  have few := Y.few
  have hF := Y.G.fits
  have thl := thL_len rs.length gs
  have hpb : ∀ p ∈ thL rs.length gs, 0 ≤ p ∧ p < rs.length := fun p hp => (thL_mem.mp hp).1
  refine ⟨_, rfl, A, thL rs.length gs, rfl, Y.hA, thL_asc _ _, by omega, fun H1 S ws Xs e1 hS hWs hsub => ?_⟩
  refine ⟨S, rfl, ⟨_, SqL.of hS⟩, for_it walk_list (fun i σ H' => ∃ (b : Bool) (v13 : Option V), σ = [v0, some (.ref D), some (.str kd), v3, some (.int s), some (.ref R), some (.ref Ab), some (.ref x), some (.ref A), none, some (.ref W), v11, some (.bl b), v13, none, none] ∧ Ex H1 H' ∧ (b = true ↔ ∃ X ∈ Xs.take i, stOk kd s rs ds X)) ⟨false, none, rfl, Ex.refl H1, by simp⟩ (fun i σ H' _ ⟨_, _, _, e, _⟩ => SqL.of (e _ _ hS)) ?_ ?_⟩
  · rintro i v σ H3 H2 hi ⟨b, v13, rfl, e2, hb⟩ ⟨rfl, hx⟩
    obtain ⟨t, X, hX, rfl, ht, _⟩ := (hWs.ex e2).get hx
    have hXo := hsub.only X (List.mem_of_getElem? hX)
    have tk : ∀ P : List Int → Prop, (∃ Z ∈ Xs.take (i + 1), P Z) ↔ (∃ Z ∈ Xs.take i, P Z) ∨ P X := fun P => by
      rw [List.take_add_one, hX]
      constructor
      · rintro ⟨Z, hZ, hp⟩
        rcases List.mem_append.mp hZ with q | q
        · exact .inl ⟨Z, q, hp⟩
        · have : Z = X := List.mem_singleton.mp q
          exact .inr (this ▸ hp)
      · rintro (⟨Z, hZ, hp⟩ | hp)
        · exact ⟨Z, List.mem_append_left _ hZ, hp⟩
        · exact ⟨X, List.mem_append_right _ (List.mem_singleton.mpr rfl), hp⟩
    refine ⟨_, rfl, b, rfl, ?_⟩
    cases b with
    | true =>
      exact iteF' rfl (iteF' rfl ⟨true, _, rfl, e2, by rw [tk]; exact ⟨fun _ => .inl (hb.mp rfl), fun _ => rfl⟩⟩)
    | false =>
      have Y2 := Y.ex (e1.trans e2)
      refine iteT' rfl ⟨_, rfl, _, rfl, _, rfl, _, rfl, _, rfl, kd, s, R, W, t, us0, rs, ds, X, rfl, Y.hkd, by omega, Y2.hR, Y2.runs, hF, Y2.hW, Y2.hdl, ht, fun n hn => hpb n (hXo.2 n hn), fun H4 e4 => ?_⟩
      refine ⟨_, rfl, ?_⟩
      by_cases c : stOk kd s rs ds X
      · refine iteT' c ⟨true, _, rfl, e2.trans e4, by rw [tk]; exact ⟨fun _ => .inr c, fun _ => rfl⟩⟩
      · refine iteF' (Bool.eq_false_iff.mpr c) ⟨false, _, rfl, e2.trans e4, ?_⟩
        rw [tk]
        exact ⟨fun z => (Bool.noConfusion z), fun z => z.elim (fun q => hb.mpr q) fun q => absurd q c⟩
  · rintro σ H2 ⟨b, v13, rfl, e2, hb⟩
    rw [hWs.len, List.take_length] at hb
    refine R2 (Y.ex (e1.trans e2)) (hb.trans ⟨?_, ?_⟩) k
    · rintro ⟨X, hX, hst⟩
      exact ⟨X, (hsub.only X hX).1, (hsub.only X hX).2, hst⟩
    · rintro ⟨X, h1, h2, h3⟩
      exact ⟨X, hsub.all X h1 h2, h3⟩
end
end K05


set_option Elab.async false
set_option linter.all false
set_option maxRecDepth 100000
set_option maxHeartbeats 4000000
namespace K05
open PySem PySem.Spec PyProof.Rows L2 RZ StX
open Evl (Ex)
section
variable {w : World} {K : PySem.W.Frag} {mg : Str → Option Value} {base : Heap}
set_option maxHeartbeats 8000000 in
theorem lw7 (T : Ctx K mg) {f : Addr} {cdv : Value} {A0 : Around} {outer : List Env} {s0 : Shared} {H0 : Hp} {E : XK} (hr : Room 11 (A0.deeper (envOfC "law" (defScope s_law) s0.heap.objs.size f cdv))) :
    ∃ tm, PSs (cxLw w K mg base f cdv A0 outer s0 H0 E) ((defBody s_law).drop 7) tm ∧ ∀ {H : Hp} {Q : VK} {D x R Ab : Addr} {v0 v3 : Option V} {kd : Str} {s : Nat} {us0 : List V} {rs : List (Int × Int)} {gs : List Int}, (kd = "join" ∨ kd = "lap") → GM K H x kd (s : Int) rs gs → rs.length ≤ 9 → Dr D H → H R = some (.lst us0) → Runs H us0 rs → H Ab = some (.lst (gs.map V.int)) → R ≠ D → Ab ≠ D →
      (∀ H', Q (.bl true) H') →
      tm { nx := fun _ H' => Q .non H', rt := Q } [v0, some (.ref D), some (.str kd), v3, some (.int s), some (.ref R), some (.ref Ab), some (.ref x), none, none, none, none, none, none, none, none] H := by
  obtain ⟨f1, fd1, m1, kp1, F1, b1⟩ := has_demandD (w := w) (base := base) T
  obtain ⟨f2, fd2, m2, kp2, F2, b2⟩ := has_parts (w := w) (base := base) T
  obtain ⟨f3, fd3, m3, kp3, F3, b3⟩ := has_take (w := w) (base := base) T
  obtain ⟨f4, fd4, m4, kp4, F4, b4⟩ := has_lcover (w := w) (base := base) T
  obtain ⟨tm2, P2, R2⟩ := lw11 (w := w) (base := base) (f := f) (cdv := cdv) (A0 := A0) (outer := outer) (s0 := s0) (H0 := H0) (E := E) T hr
  have nd := sc_law.nd
  have r1 := hr.mono (show 1 ≤ 11 by decide)
  have r2 := hr.mono (show 2 ≤ 11 by decide)
  have r3 := hr.mono (show 3 ≤ 11 by decide)
  refine ⟨_, (pss_cons (ps_set (i := 8) nd rfl (.inr rfl) (pe_lc (own := [("_law_part", 9)]) (g := gName 9) rfl nd (pi_range1 (by rfl) T.b_range (pa_cons (pe_callB call_len_seq (by rfl) T.b_len PySem.boot_len (pa_cons (pv 5) pa_nil)) pa_nil)) (blkOk_by (own := [("_law_part", 9)]) (N := nLw) (sc := defScope s_law) (by decide +kernel)) (fun _ _ _ _ _ => pg_name (i := 9) nd rfl (Or.inl rfl))
          (fun _ _ _ _ _ => pts_one (pt_cmpR (op_notInK (K := K) rfl) (pv 9) (pv 6) (by rfl))) (fun _ _ _ _ _ => pv 9)))
    (pss_cons (ps_set (i := 10) nd rfl (.inl rfl) (pe_call F1 r3 (by rfl) m1 kp1 b1 .nil pass0 (pa_cons (pv 1) (pa_cons (pv 4) pa_nil))))
    (pss_cons (ps_setLc (i := 11) (own := [("_law_part", 9)]) (g := gName 9) rfl nd rfl rfl (by rfl) (pi_list (pe_call F2 r2 (by rfl) m2 kp2 b2 .nil pass0 (pa_cons (pv 1) (pa_cons (pe_callB call_len_seq (by rfl) T.b_len PySem.boot_len (pa_cons (pv 5) pa_nil)) pa_nil)))) (blkOk_by (own := [("_law_part", 9)]) (N := nLw) (sc := defScope s_law) (by decide +kernel)) (fun _ _ _ _ _ => pg_name (i := 9) nd rfl (Or.inl rfl))
          (fun _ _ _ _ _ => pts_one (pt_cmpR (op_inK (K := K) rfl) (pv 9) (pv 8) (by rfl))) (fun _ _ _ _ _ => pv 9))
    (pss_cons (ps_if (pt_cmpR op_eq (pe_call F3 r1 (by rfl) m3 kp3 b3 .nil pass0 (pa_cons (pv 1) (pa_cons pe_int pa_nil))) pe_int (nomark _)) (pss_one (ps_set (i := 10) nd rfl (.inl rfl) (pe_call F4 r1 (by rfl) m4 kp4 b4 .nil pass0 (pa_cons (pv 4) (pa_cons (pv 5) (pa_cons (pv 11) pa_nil)))))) pss_nil)
    P2)))), ?_⟩
  intro H Q D x R Ab v0 v3 kd s us0 rs gs hkd G few hD hR hRr hAb nR nAb k
  have sz := G.size
  have hF := G.fits
  have hul := hRr.len
  have thl := thL_len rs.length gs
  refine ⟨_, rfl, R, us0, rfl, .inl (SqL.of hR), _, rfl, by omega, by omega, fun A hA => lc_it walk_range (fun i H' => Ex H H' ∧ H' A = some (.lst ((thL i gs).map V.int))) ⟨Ex.new hA, upd_same⟩ (fun _ _ _ _ => trivial) ?_ ?_⟩
  · rintro i y H8 H9 hi ⟨e8, hA8⟩ ⟨rfl, rfl⟩
    have hil : i < rs.length := by omega
    have hlen := thL_len i gs
    refine ⟨rfl, ?_⟩
    refine ⟨_, rfl, _, rfl, Ab, _, rfl, .inl (SqL.of (e8 _ _ hAb)), rfl, flat_ints _, ?_⟩
    rw [inV_ints, show (0 + (i : Int)) = (i : Int) by omega]
    refine ⟨_, rfl, ?_⟩
    rw [thL_succ]
    by_cases c : (i : Int) ∈ gs
    · refine iteF' (by rw [decide_eq_true c]; rfl) ⟨e8, ?_⟩
      rw [decide_eq_true c, if_pos rfl, List.append_nil]
      exact hA8
    · refine iteT' (by rw [decide_eq_false c]; rfl) ⟨_, rfl, _, hA8, by rw [List.length_map]; exact small1000 (by omega), Evl.Ex.mut e8 hA, ?_⟩
      rw [upd_same, decide_eq_false c, if_neg Bool.false_ne_true, List.map_append]
      show some (HO.lst (_ ++ [V.int (0 + (i : Int))])) = _
      rw [Int.zero_add]
      rfl
  rintro H1 ⟨e1, hA1⟩
  rw [Int.toNat_natCast, hul] at hA1
  have d1 := hD.ex e1
  have nA : A ≠ D := Kp.ne hD hA
  refine ⟨_, rfl, _, rfl, D, s, rfl, d1, by omega, by omega, fun W ds H2 k2 d2 hW0 hW hdl => ?_⟩
  have nW : W ≠ D := Kp.ne d1 hW0
  have hR2 := k2 _ _ nR (e1 _ _ hR)
  have hRr2 := k2.runs d1 (hRr.ex e1)
  have hAb2 := k2 _ _ nAb (e1 _ _ hAb)
  have hA2 := k2 _ _ nA hA1
  have G2 := (G.ex e1).kp k2 d1
  refine ⟨_, rfl, _, rfl, R, us0, rfl, .inl (SqL.of hR2), D, _, rfl, d2, by omega, by omega, fun C cs H3 k3 d3 hC0 hC casc cinn => ?_⟩
  have hR3 := k3 _ _ nR hR2
  have hRr3 := k3.runs d2 hRr2
  have hAb3 := k3 _ _ nAb hAb2
  have hA3 := k3 _ _ nA hA2
  have hW3 := k3 _ _ nW hW
  have G3 := G2.kp k3 d2
  have ccl := asc_few casc cinn (by omega)
  refine ⟨C, rfl, ⟨_, SqL.of hC⟩, fun Ch hCh => lc_it walk_list (fun i H' => Ex H3 H' ∧ H' C = some (.lst (cs.map V.int)) ∧ ∃ ps : List Int, H' Ch = some (.lst (ps.map V.int)) ∧ ps.length ≤ i ∧ ∀ p ∈ ps, p ∈ cs) ⟨Ex.new hCh, (Ex.new hCh) _ _ hC, [], upd_same, Nat.le_refl _, fun p hp => by cases hp⟩ (fun i H' _ q => SqL.of q.2.1) ?_ ?_⟩
  · rintro i y H5 H4 hi ⟨e4, hC4, ps, hCh4, hpl, hps⟩ ⟨rfl, hx⟩
    obtain ⟨z, hz, rfl⟩ := map_int_get hx
    have hil : i < cs.length := (List.getElem?_eq_some_iff.mp hz).1
    have nCh : C ≠ Ch := ne_of_none hC hCh
    refine ⟨rfl, ?_⟩
    refine ⟨_, rfl, _, rfl, A, _, rfl, .inl (SqL.of (e4 _ _ hA3)), rfl, flat_ints _, ?_⟩
    rw [inV_ints]
    refine ⟨_, rfl, ?_⟩
    by_cases c : z ∈ thL rs.length gs
    · refine iteT' (decide_eq_true c) ⟨_, rfl, _, hCh4, by rw [List.length_map]; exact small1000 (by omega), Evl.Ex.mut e4 hCh, by rw [upd_ne nCh]; exact hC4, ps ++ [z], ?_, ?_, ?_⟩
      · rw [upd_same, List.map_append]
        rfl
      · rw [List.length_append]
        show ps.length + 1 ≤ i + 1
        omega
      · intro p hp
        rcases List.mem_append.mp hp with q | q
        · exact hps p q
        · rw [List.mem_singleton.mp q]
          exact List.mem_of_getElem? hz
    · exact iteF' (decide_eq_false c) ⟨e4, hC4, ps, hCh4, Nat.le_succ_of_le hpl, hps⟩
  rintro H4 ⟨e4, hC4, ps, hCh4, hpl, hps⟩
  have d4 := d3.ex e4
  have nCh : Ch ≠ D := Kp.ne d3 hCh
  refine ⟨_, rfl, D, 3, rfl, d4, by decide, fun q H5 q0 q1 k5 d5 => ⟨rfl, _, rfl, ?_⟩⟩
  have hR5 := k5 _ _ nR (e4 _ _ hR3)
  have hRr5 := k5.runs d4 (hRr3.ex e4)
  have hAb5 := k5 _ _ nAb (e4 _ _ hAb3)
  have hA5 := k5 _ _ nA (e4 _ _ hA3)
  have hW5 := k5 _ _ nW (e4 _ _ hW3)
  have hCh5 := k5 _ _ nCh hCh4
  have G5 := (G3.ex e4).kp k5 d4
  by_cases c : V.int q = V.int 0
  · refine iteT' (decide_eq_true c) ⟨_, rfl, _, rfl, _, rfl, s, R, Ch, us0, rs, ps, rfl, by omega, hR5, hRr5, hF, hCh5, fun n hn => by have := cinn n (hps n hn); omega, fun H6 W2 e6 hW20 hW2 => ?_⟩
    exact R2 ⟨hkd, G5.ex e6, few, d5.ex e6, e6 _ _ hR5, hRr5.ex e6, e6 _ _ hAb5, e6 _ _ hA5, hW2, by unfold covL; rw [row_len], Kp.ne d5 hW20, nR, nA⟩ k
  · exact iteF' (decide_eq_false c) (R2 ⟨hkd, G5, few, d5, hR5, hRr5, hAb5, hA5, hW5, hdl, nW, nR, nA⟩ k)
set_option maxHeartbeats 8000000 in
theorem ok_law (T : Ctx K mg) {f : Addr} {fd : FuncData} (F : FunD K "law" "law" (defArgs s_law) (defBody s_law) (defScope s_law) [] [] f fd) : FnOk PP w K mg base CX0 12 f fd ["_law_script"] (spLaw K) := by
  obtain ⟨f1, fd1, m1, kp1, F1, b1⟩ := has_draws (w := w) (base := base) T
  obtain ⟨f2, fd2, m2, kp2, F2, b2⟩ := has_kind (w := w) (base := base) T
  obtain ⟨f3, fd3, m3, kp3, F3, b3⟩ := has_mk (w := w) (base := base) T
  obtain ⟨f4, fd4, m4, kp4, F4, b4⟩ := has_built (w := w) (base := base) T
  refine ok0 F sc_law (fun vs H Q E h => ?_) (fun cdv A0 outer s0 H vs Q E hr h => ?_)
  · obtain ⟨a, ns, rfl, _⟩ := h
    rfl
  · obtain ⟨a0, ns0, rfl, hS, h63, k⟩ := h
    have nd := sc_law.nd
    have r1 := hr.mono (show 1 ≤ 11 by decide)
    have r2 := hr.mono (show 2 ≤ 11 by decide)
    have r3 := hr.mono (show 3 ≤ 11 by decide)
    have r8 := hr.mono (show 8 ≤ 11 by decide)
    obtain ⟨tm2, P2, R2⟩ := lw7 (w := w) (base := base) (f := f) (cdv := cdv) (A0 := A0) (outer := outer) (s0 := s0) (H0 := H) (E := E) T hr
    refine ⟨_, pss_cons (ps_set (i := 1) nd rfl (.inl rfl) (pe_call F1 r1 (by rfl) m1 kp1 b1 .nil pass0 (pa_cons (pv 0) pa_nil)))
      (pss_cons (ps_set (i := 2) nd rfl (.inl rfl) (pe_call F2 r2 (by rfl) m2 kp2 b2 .nil pass0 (pa_cons (pv 1) pa_nil)))
      (pss_cons (ps_set (i := 3) nd rfl (.inl rfl) (pe_call F3 r3 (by rfl) m3 kp3 b3 .nil pass0 (pa_cons (pv 1) (pa_cons pe_int pa_nil))))
      (pss_cons (ps_set (i := 4) nd rfl (.inl rfl) (pe_ix ix_list (pv 3) pe_int (fun _ _ => rfl)))
      (pss_cons (ps_set (i := 5) nd rfl (.inl rfl) (pe_ix ix_list (pv 3) pe_int (fun _ _ => rfl)))
      (pss_cons (ps_set (i := 6) nd rfl (.inr rfl) (pe_ix ix_list (pv 3) pe_int (fun _ _ => rfl)))
      (pss_cons (ps_set (i := 7) nd rfl (.inl rfl) (pe_call F4 r8 (by rfl) m4 kp4 b4 .nil pass0 (pa_cons (pv 2) (pa_cons (pv 4) (pa_cons (pe_callTy call_list_of (by rfl) T.b_list (by decide +kernel) (pa_cons (pv 5) pa_nil)) (pa_cons (pe_callTy call_list_of (by rfl) T.b_list (by decide +kernel) (pa_cons (pv 6) pa_nil)) pa_nil))))))
      P2)))))), ?_⟩
    refine ⟨_, rfl, a0, ns0, rfl, hS, h63, fun H1 D e1 hD0 hD => ?_⟩
    refine ⟨_, rfl, D, rfl, hD, fun kd H2 hkd k2 d2 => ?_⟩
    refine ⟨_, rfl, D, rfl, d2, fun L M Gn s us rs H3 k3 d3 hM hL hL3 hM3 R3 hF hs1 hs8 hl9 hG0 hG => ?_⟩
    obtain ⟨s, rfl⟩ : ∃ n : Nat, s = n := ⟨s.toNat, by omega⟩
    have hMD : M ≠ D := Kp.ne d2 hM
    have hGD : Gn ≠ D := Kp.ne d2 hG0
    obtain ⟨gs, hg3, gasc, ginn⟩ := hG
    have hul := R3.len
    refine ⟨_, rfl, L, _, 0, _, rfl, rfl, SqL.of hL3, atI_nat (j := 0) rfl, ?_⟩
    refine ⟨_, rfl, L, _, 1, _, rfl, rfl, SqL.of hL3, atI_nat (j := 1) rfl, ?_⟩
    refine ⟨_, rfl, L, _, 2, _, rfl, rfl, SqL.of hL3, atI_nat (j := 2) rfl, ?_⟩
    refine ⟨_, rfl, _, rfl, _, rfl, M, us, rfl, .inl (SqL.of hM3), fun p hp => ?_⟩
    have e4 : Ex H3 (upd H3 p (.lst us)) := Ex.new hp
    have hp4 : upd H3 p (.lst us) p = some (.lst us) := upd_same
    generalize upd H3 p (.lst us) = H4 at *
    refine ⟨_, rfl, Gn, _, rfl, .inl (SqL.of (e4 _ _ hg3)), fun g hg => ?_⟩
    have e5 : Ex H4 (upd H4 g (.lst (gs.map V.int))) := Ex.new hg
    refine ⟨kd, s, p, g, us, rs, gs, rfl, hkd, ⟨e5 _ _ hp4, (R3.ex e4).ex e5, hF, by omega, upd_same, gasc, ginn, ⟨hs1, by omega⟩⟩, fun x H5 e5' hx Mk => ?_⟩
    have e35 := (e4.trans e5).trans e5'
    have d5 := d3.ex e35
    exact R2 hkd ⟨⟨us, Mk⟩, ⟨hs1, by omega⟩, hF, by omega, ⟨gasc, fun n hn => by have := ginn n hn; omega⟩⟩ hl9 d5 (e35 _ _ hM3) (R3.ex e35) (e35 _ _ hg3) hMD hGD k
end
end K05


set_option Elab.async false
set_option linter.all false
set_option maxRecDepth 100000
set_option maxHeartbeats 0
namespace K05
open PySem PySem.Spec PyProof.Rows L2
theorem facts {w : World} {K : PySem.W.Frag} {h : Heap} {mg : Str → Option Value} {f : Addr} (X : K.In h) (G : h.Ns mainGlobals mg) (hfa : mg ("law" : Str) = some (.ref f)) (c : HkQ.obsQ fa fn fc fg ex K = HkQ.valQ fn fc fg) :
    ∃ fd : FuncData, (∀ (s : Shared) (v : Value), BindsTo s fd ⟨[v], []⟩ [("_law_script", v)]) ∧ ∀ base : Heap, K.In base → base.Ns mainGlobals mg → FnOk PP w K mg base CX0 12 f fd ["_law_script"] (spLaw K) := by
  have T := ctx_of X G c
  obtain ⟨fd, F⟩ := T.d_law
  have e := hfa.symm.trans T.g_law
  cases e
  have b := FunD.bindsA (ps := ["_law_script"]) F fun _ _ _ _ _ _ us hl => match us, hl with | [_], _ => rfl
  exact ⟨fd, fun s v => b s [v] rfl, fun base _ _ => ok_law T F⟩
end K05
open PySem PySem.W PySem.Calls PyProof.Rows
theorem PySem.Challenge.cw_keptparts_k05_a_stock_or_points_holds : PySem.Challenge.rw_keptparts_k05_a_stock_or_points.Holds := by
  w_on; o_law
  refine HandSHeadRun.head_any (r := OpenLaw.row PySem.Challenge.rw_keptparts_k05_a_stock_or_points) (q := view (OpenLaw.row PySem.Challenge.rw_keptparts_k05_a_stock_or_points).prog [94]) (H := K05.hk) (ob := K05.ob) (M := 40000) (loose := K05.names) (d := HandSHeadRun.topDef (OpenLaw.row PySem.Challenge.rw_keptparts_k05_a_stock_or_points).prog 94) (kwd := []) K05.ob_eq
    (by kernel_rfl) (fun s => by kernel_rfl) K05.run (by kernel_rfl) (by kernel_rfl) (by kernel_rfl) (by rfl) (by first | assumption | decide +kernel) (by decide +kernel) ⟨rfl, rfl, rfl, rfl, rfl, by decide +kernel⟩ ?hw ?hc
  case hw => w_witness2
  case hc =>
    refine L2.walk_ofE (l := PySem.Challenge.rw_keptparts_k05_a_stock_or_points) (n := 63) (k := 12) (x := "_law_script") (CX := L2.CX0) rfl (by decide) (by kernel_rfl) ⟨rfl, by decide, by decide⟩ ?F (fun _ _ _ _ z => z)
    intro w mg fa h Y G hmg0
    obtain ⟨K, KX, c⟩ := Y
    have hmg : mg ("law" : PySem.Str) = some (.ref fa) := by
      have e : (HandSHeadRun.topDef (OpenLaw.row PySem.Challenge.rw_keptparts_k05_a_stock_or_points).prog 94).name = ("law" : PySem.Str) := by kernel_rfl
      rw [← e]
      exact hmg0
    obtain ⟨fd, hb, hF⟩ := K05.facts (w := w) KX G hmg c
    exact ⟨K, fd, K05.spLaw K, KX, hb, fun H a ns hl _ hS => ⟨a, ns, rfl, hS, hl, fun _ => rfl⟩, hF⟩

