import PyProof.Rows.All
import Wide.All
import OpenK.AllK
import Wide.FinOn
import HandS.ForMost
import HandS.Defaults
import HandS.MakeKwOnly
import HandS.ClsMeth
import KE.KSuper
import PyProof.EqAt
import PyProof.EqKinds
import PyProof.TupleCall
import HandS.ForExc
import HandS.RaiseFrom
import HandS.ExcIs
import HandS.HeadHook4
import HandS.HeadHook1
import HandS.HeadHook2
import HandS.HeadHook3
import HandS.Property
import PySem.Challenge.RW_keptparts_k03_two_stocks_made_even
import HandS.IsInst
import KE.KStateDown
import Lean
import HandS.Base
import HandS.Call
import HandS.Ends
import HandS.More
import HandS.Words
import HandS.WordsExc
import HandS.Head0
import HandS.Head1
import HandS.Head2
import HandS.HeadEnd
import HandS.Evl
import HandS.Walk
import HandS.Strs
import HandS.Conv
import HandS.OwnEq
import HandS.List
import KE.GoesMore
import HandS.Set
import HandS.SetFor
import HandS.SetTxtIn
import KE.KItemsList
import HandS.Zip0
import HandS.Zip
import HandS.ListItems
import HandS.ExcOwn
import HandS.WideBits
import HandS.SortRule
import KE.GoesZip
import HandS.ExcField
set_option Elab.async false
set_option linter.all false
set_option maxRecDepth 100000
set_option maxHeartbeats 4000000
/-! super().__init__(a, b, k=c) of a class of one base, in a def of the parameters self, a, b and the keyword-only k. -/
namespace SupI
open PySem PySem.Spec PyProof.Rows L2
abbrev supBody (nm na nb nk : Str) (p0 p1 p2 p3 p4 p5 p6 p7 p8 : Pos) : List Stmt :=
  [.Expr (.Call (.Attribute (.Call (.Name "super" p0) [] [] p1) nm p2) [.Name na p3, .Name nb p4] [⟨some nk, .Name nk p5, p6⟩] p7) p8]
/-- what the written part tells of such a def -/
structure SupTxt (P : Program) (K : PySem.W.Frag) (mg : Str → Option Value) (C f f2 cc cda : Addr) (fd : FuncData) (qual : Str) (params : Arguments) (body : List Stmt) (scope : Scope) : Prop where
  lk : ∃ (oc : Value) (od an : Option Addr) (Dk : Addr) (doc pm ct : Value) (osl : Array (Option Value)), fd = PySem.W.ksFn "__init__" qual params body scope .none (.ref Dk) doc pm an (.ref cda) ct cc ∧ K.lookup f = some ⟨oc, od, .func fd, osl⟩
  cd : PySem.W.codeIn K (.ref cda) qual = true
  co : ∃ (a : Value) (b : Option Addr) (vs : Array Value) (c : Array (Option Value)) (file : Str) (tf : Tok), K.lookup cda = some ⟨a, b, .fields vs, c⟩ ∧ vs[2]? = some (.str file tf) ∧ ((P.main.file : Str) == file) = true
  cell : ∃ (a : Value) (b : Option Addr) (c : Array (Option Value)), K.lookup cc = some ⟨a, b, .cell (some (.ref C)), c⟩
  sub : PySem.W.mroIn K C (.ref C) = some true
  sup : mg "super" = none
  find : PySem.W.ks_superIn K C C "__init__" = some (some (.ref f2))
  ty : PySem.W.typeIn K (.ref f2) = some (.type "function")
  fnI : PySem.W.fnIn K f2 = true
  opq : PySem.W.nsIn K cStatics "thirdparty.any" = some none
  top : (P.main.scope.names.lookup ("super" : Str)).isSome = false
theorem methodCall_at {M : Model} {A : Around} {c : Code} {E : Value → Shared → Prop} {s : Shared} {env : Env} {o : Expr} {name : Str} {apos pos : Pos} {args : List Expr} {kws : List Keyword} {pl : Sem Bool} {Q : Value → Shared → Prop}
    (h : _root_.PySem.wpAt M A c (attributeBase o name env (eval o env)) (fun ov s₁ => wpAny M A (getMethod ov name pl) (fun fx s₂ => wpAny M A (callWith pos fx.1 fx.2 (backTo pos (starEach args env)) (backToKw pos (keywordEach kws env))) Q E s₂) E s₁) E s)
    (he : eval (.Call (.Attribute o name apos) args kws pos) env = (do
      let ov ← attributeBase o name env (eval o env)
      standAt apos.atName
      let (f, first) ← holding [ov] (getMethod ov name pl)
      callWith pos f first (backTo pos (starEach args env)) (backToKw pos (keywordEach kws env))) := by rfl) :
    _root_.PySem.wpAt M A c (eval (.Call (.Attribute o name apos) args kws pos) env) Q E s := by
  rw [he]
  refine _root_.PySem.wpAt_bind (ks_wpAt_mono h (fun ov s₁ h₁ => wpAt_of_wpAny (wpAny_bind (wpAny_standAt (wpAny_bind (wpAny_holding (wpAny_mono h₁ (fun fx s₂ h₂ => ?_) fun _ _ x => x)))))) fun _ _ x => x)
  exact h₂

section
variable {P : Program} {w : World} {K : PySem.W.Frag} {mg : Str → Option Value} {base : Heap} {CX : CXT} {C f f2 cc cda : Addr} {fd fd2 : FuncData} {qual nm na nb nk ns : Str} {params : Arguments} {body : List Stmt} {scope : Scope} {k : Nat} {sp : Sp} {p0 p1 p2 p3 p4 p5 p6 p7 p8 : Pos}
/-- the context of such a body -/
def cxS (CX : CXT) (P : Program) (w : World) (K : PySem.W.Frag) (mg : Str → Option Value) (base : Heap) (N : List Str) (qual : Str) (scope : Scope) (f : Addr) (cda cc : Addr) (A : Around) (outer : List Env) (s : Shared) (H : Hp) (E : XK) : Cx where
  prog := P
  w := w
  K := K
  mg := mg
  base := base
  A := A.deeper (PySem.W.ksEnv qual scope s.heap.objs.size f (.ref cda) cc)
  N := N
  s_0 := s
  H_0 := H
  env := PySem.W.ksEnv qual scope s.heap.objs.size f (.ref cda) cc
  outer := outer
  stack := PySem.W.ksEnv qual scope s.heap.objs.size f (.ref cda) cc :: outer
  ex := []
  calm := true
  fn := fun _ => false
  pn := []
  xe := fun e s' => wpAny (model P w) (A.deeper (PySem.W.ksEnv qual scope s.heap.objs.size f (.ref cda) cc)) (leaving (PySem.W.ksEnv qual scope s.heap.objs.size f (.ref cda) cc) e) (fun _ s'' => CX outer H s E e s'') (fun e' s'' => CX outer H s E e' s'') s'
theorem one_cell {y : Str} {c cc : Addr} (h : ([("__class__", cc)] : List (Str × Addr)).lookup y = some c) : y = "__class__" ∧ c = cc := by
  unfold List.lookup at h
  cases e : (y == ("__class__" : Str)) with
  | true =>
    rw [e] at h
    exact ⟨eq_of_beq e, (Option.some.inj h).symm⟩
  | false =>
    rw [e] at h
    cases h
theorem inv_sup {A : Around} {outer : List Env} {s : Shared} {H : Hp} {E : XK} {us : List Value} {vs : List V} {h1 : Heap} {tk : Nat} {N : List Str}
    (T : SupTxt P K mg C f f2 cc cda fd qual params body scope) (hk : scope.kind = .function) (hfr : ∀ y, (scope.names.lookup y = some .cell ∨ scope.names.lookup y = some .free) → y = "__class__") (hl : ∀ y ∈ N, scope.names.lookup y = some .local)
    (hd : A.handled = none) (e0 : Env0 P w K mg base A outer s H) (r : Vals vs us) (hlen : vs.length = N.length)
    (hns : h1.Ns s.heap.objs.size (fun x => (N.zip us).reverse.lookup x)) (hlook : ∀ (i : Nat) (y : Str) (u : Value), N[i]? = some y → us[i]? = some u → (N.zip us).reverse.lookup y = some u) (keep : ∀ b o, s.heap.get? b = some o → h1.get? b = some o) :
    Inv (cxS CX P w K mg base N qual scope f cda cc A outer s H E) [] (vs.map some) H { s with heap := h1, toks := tk } := by
  obtain ⟨ca, cb, ccs, hcell⟩ := T.cell
  have hb : base.get? cc = some ⟨ca, cb, .cell (some (.ref C)), ccs⟩ := e0.mod.kin _ _ hcell
  have noA : ∀ b : Addr, b ∉ (cxS CX P w K mg base N qual scope f cda cc A outer s H E).ex := fun b z => absurd (show b ∈ ([] : List Addr) from z) (by simp)
  refine ⟨⟨e0.mod, hk, rfl, rfl, Nat.le_refl _, fun y z c h1 h2 => ?_, fun y hy => ?_, fun y c h _ => ?_, fun _ => hd, Around.frames_deeper e0.frames, .inr ⟨rfl, rfl⟩, fun b z => absurd z (noA b), e0.bs, e0.bsz, fun b _ _ => noA b, fun b z => absurd z (noA b), e0.funs, e0.frf⟩,
    rfl, e0.bare, Un.kept keep, ⟨_, hns, fun i y v h1 h2 h3 => ?_⟩, fun y c h => ?_, e0.hok.fresh (Nat.le_refl _), fun y c h => ?_, fun p hp => absurd (show p ∈ ([] : List (Addr × Obj)) from hp) (by simp), e0.hok.kept keep, ?_⟩
  · exact (one_cell h1).1.trans (one_cell h2).1.symm
  · have e : y = "__class__" := hfr y hy
    subst e
    exact ⟨cc, rfl⟩
  · cases h
  · have h2' : (vs.map some)[i]? = some (some v) := h2
    rw [List.getElem?_map] at h2'
    have ha : vs[i]? = some v := by
      cases e : vs[i]? with
      | none => rw [e] at h2'; cases h2'
      | some a => rw [e] at h2'; cases h2'; rfl
    obtain ⟨u, hu, rv⟩ := r.get ha
    exact ⟨u, rv, .inl ⟨hl y (List.mem_of_getElem? h1), hlook i y u h1 hu⟩⟩
  · obtain ⟨_, rfl⟩ := one_cell h
    exact ⟨_, _, keep _ _ (e0.bs _ _ hb).1, rfl⟩
  · obtain ⟨_, rfl⟩ := one_cell h
    exact (e0.bs _ _ hb).2
  · show (vs.map some).length = N.length
    rw [List.length_map, hlen]
/-- the promise: the instance is of the class itself; then what the base's __init__ wants -/
def spSup (C : Addr) (sp : Sp) : Sp := fun vs H Q E => (∃ x dx fs a b c, vs = [.ref x, a, b, c] ∧ H x = some (.ins C dx fs)) ∧ sp vs H (fun _ H' => Q .non H') E
theorem fn_super {c1 : Str}
    (T : SupTxt P K mg C f f2 cc cda fd qual params (supBody "__init__" na nb nk p0 p1 p2 p3 p4 p5 p6 p7 p8) scope)
    (hcls : ∃ cd, PySem.W.clsIn K C = some cd)
    (hk : scope.kind = .function) (hco : scope.isCoroutine = false) (hgen : scope.isGenerator = false)
    (hfr : ∀ y, (scope.names.lookup y = some .cell ∨ scope.names.lookup y = some .free) → y = "__class__") (hcell : ∀ x ∈ scope.names, x.2 ≠ .cell)
    (hl : ∀ y ∈ [ns, na, nb, nk], scope.names.lookup y = some .local) (hks : scope.names.lookup ("super" : Str) = some .globalImplicit) (hkc : scope.names.lookup ("__class__" : Str) = some .free)
    (hdb : ∀ y ∈ [ns, na, nb, nk], (y == ("__debug__" : Str)) = false ∧ (y == ("__classdict__" : Str)) = false)
    {ar : Arg} (hpar : (params.posonlyargs ++ params.args).head? = some ar) (har : ar.arg = ns)
    (hlook : ∀ (u1 u2 u3 u4 : Value) (i : Nat) (y : Str) (u : Value), [ns, na, nb, nk][i]? = some y → [u1, u2, u3, u4][i]? = some u → ([ns, na, nb, nk].zip [u1, u2, u3, u4]).reverse.lookup y = some u)
    {pl : Env → Sem Bool} (he : ∀ env : Env, eval (.Call (.Attribute (.Call (.Name "super" p0) [] [] p1) "__init__" p2) [.Name na p3, .Name nb p4] [⟨some nk, .Name nk p5, p6⟩] p7) env = (do
      let ov ← attributeBase (.Call (.Name "super" p0) [] [] p1) "__init__" env (eval (.Call (.Name "super" p0) [] [] p1) env)
      standAt p2.atName
      let (f, first) ← holding [ov] (getMethod ov "__init__" (pl env))
      callWith p7 f first (backTo p7 (starEach [.Name na p3, .Name nb p4] env)) (backToKw p7 (keywordEach [⟨some nk, .Name nk p5, p6⟩] env))))
    (F2 : FnOk P w K mg base CX0 k f2 fd2 [ns, na, nb, nk] sp) (hb : KBn K fd2 [ns, na, nb, nk] 3 [nk] (fun us ws => us ++ ws) (fun vs zs => vs ++ zs)) :
    FnOk P w K mg base CX0 (k + 1) f fd [ns, na, nb, nk] (spSup C sp) := by
  obtain ⟨oc, od, an, Dk, doc, pm, ct, osl, rfl, lk⟩ := T.lk
  obtain ⟨coa, cob, cvs, coc, file, tf, hcode, hvs, hfile⟩ := T.co
  obtain ⟨cla, clb, clc, hcel⟩ := T.cell
  obtain ⟨cd, hcd⟩ := hcls
  refine ⟨fun vs H Q E ⟨⟨x, dx, fs, a, b, c, e, _⟩, _⟩ => by rw [e]; rfl, fun A outer s H args us vs Q E hr e0 hbd r hsp => ?_⟩
  obtain ⟨⟨x, dx, fs, a, b, c, rfl, hxi⟩, hsp⟩ := hsp
  have r0 := r
  obtain ⟨u1, u2, u3, u4, rfl, ru1, ru2, ru3, ru4⟩ : ∃ u1 u2 u3 u4, us = [u1, u2, u3, u4] ∧ RelV (.ref x) u1 ∧ RelV a u2 ∧ RelV b u3 ∧ RelV c u4 := by
    cases r with
    | cons r1 r => cases r with
      | cons r2 r => cases r with
        | cons r3 r => cases r with
          | cons r4 r => cases r with
            | nil => exact ⟨_, _, _, _, rfl, r1, r2, r3, r4⟩
  obtain rfl : u1 = Value.ref x := ru1
  have KX : K.In s.heap := e0.mod.kin.keeps fun b o e => (e0.bs b o e).1
  have lim : s.heap.NoLimit := e0.mod.nolimit.keeps fun b o e => (e0.bs b o e).1
  have hroom : A.depth < recursionLimit := by have := hr.dp; omega
  refine PySem.ks_codeAny_call_defAt (fd := PySem.W.ksFn "__init__" qual params (supBody "__init__" na nb nk p0 p1 p2 p3 p4 p5 p6 p7 p8) scope .none (.ref Dk) doc pm an (.ref cda) ct cc) (body := supBody "__init__" na nb nk p0 p1 p2 p3 p4 p5 p6 p7 p8) hroom (KX _ _ lk) rfl lim (PySem.W.codeRec_of KX T.cd) rfl hbd hcell (fun y hy => hl _ (List.of_mem_zip (show (y.1, y.2) ∈ _ from hy)).1) (fun h1 hns keep => ?_) hco hgen hk
  have I : Inv (cxS CX0 P w K mg base [ns, na, nb, nk] qual scope f cda cc A outer s H E) [] [some (.ref x), some a, some b, some c] H { s with heap := h1, toks := s.toks + ([ns, na, nb, nk].zip [Value.ref x, u2, u3, u4]).length } :=
    inv_sup (vs := [.ref x, a, b, c]) T hk hfr hl hr.hd e0 r0 rfl hns (hlook _ _ _ _) keep
  let X := cxS CX0 P w K mg base [ns, na, nb, nk] qual scope f cda cc A outer s H E
  show _root_.PySem.wpAt (model P w) X.A (.func _ X.env) (execs _ X.env) _ X.xe _
  refine ks_wpAt_execs_cons (ks_wpAt_Expr_any (methodCall_at (pl := pl X.env) ?_ (he X.env)) I.quiet)
  obtain ⟨oC, hC1, hC2⟩ : ∃ oC, h1.get? C = some oC ∧ oC.data = .cls cd := by
    unfold PySem.W.clsIn at hcd
    split at hcd
    · rename_i c' d' cd' sl ho
      cases hcd
      exact ⟨_, I.kIn _ _ ho, rfl⟩
    · cases hcd
  obtain ⟨mA, O, _⟩ := ins_get I.hok hxi
  obtain ⟨od', J, _⟩ := O.look
  have hks' : X.env.kindOf "super" = some .globalImplicit := hks
  have hkc' : X.env.kindOf "__class__" = some .free := hkc
  refine PySem.ks_wpAt_super_base (env := X.env) hks' hkc' (by decide +kernel) rfl (I.kIn _ _ lk) rfl hpar rfl (I.kIn _ _ hcode) rfl hvs hfile T.top ?_
  obtain ⟨mb, hb1, hb2⟩ := I.mod.blt
  refine PySem.W.ks_loadName_global hk hks' (Calls.loadGlobal_builtin (env := X.env) (I.mod.glob.keeps I.bk) T.sup (hb1.keeps I.bk) ((hb2 _ (by decide +kernel)).trans (by decide +kernel)) ⟨rfl, ?_⟩)
  refine wpAny_loadName_free (env := X.env) hk hkc' rfl ⟨_, I.kIn _ _ hcel, rfl⟩ ?_
  rw [har]
  refine wpAny_loadName_local (env := X.env) hk (hl _ (by simp)) hns (hlook _ _ _ _ 0 ns (.ref x) rfl rfl) ?_
  refine PySem.ks_wpAny_isType_cls hC1 hC2 ⟨rfl, ?_⟩
  refine PySem.ks_wpAny_call_super hC1 hC2 J.at_ J.cls (fun c' e' => ?_) (PySem.W.looks_mroIn I.kIn T.sub) (fun h2 e2 k2 => ?_)
  · have := J.no
    unfold PySem.W.notCls at this
    rw [e'] at this
    exact Bool.noConfusion this
  have I2 := ClX.pin_new (t' := s.toks + ([ns, na, nb, nk].zip [Value.ref x, u2, u3, u4]).length) I k2 (Nat.le_refl _) e2 (fun v z => nomatch z)
  have hfind := T.find
  unfold PySem.W.ks_superIn at hfind
  rw [hcd] at hfind
  obtain ⟨of, hof, hofc⟩ : ∃ of, h2.get? f2 = some of ∧ of.cls = .type "function" := by
    have ht' : (K.lookup f2).map (·.cls) = some (.type "function") := T.ty
    cases z : K.lookup f2 with
    | none => rw [z] at ht'; cases ht'
    | some of => rw [z] at ht'; exact ⟨of, I2.kIn _ _ z, Option.some.inj ht'⟩
  refine PySem.ks_wpAny_getMethod_super e2 (PySem.W.looks_opaque I2.kIn T.opq) (l₀ := cd.mro) (fun A Q E s k q => wpAny_bind ((PySem.W.looks_clsIn I2.kIn hcd) A _ E s k (wpAny_pure q))) rfl I2.kIn hfind hof hofc (PySem.W.ks_ne I.kIn J hcd) (by decide +kernel) ?_
  have I3 := ClX.pin_new (t' := s.toks + ([ns, na, nb, nk].zip [Value.ref x, u2, u3, u4]).length + 1) (h' := h2.push (PySem.W.methodObj (.ref f2) (.ref x))) I2 (fun _ _ z => Heap.get?_push_of_some _ z) (Nat.le_refl _) (Heap.get?_push_size h2 rfl) (fun v z => nomatch z)
  have d1 := hdb na (by simp)
  have d2 := hdb nb (by simp)
  have d3 := hdb nk (by simp)
  have pa : PA X [.Name na p3, .Name nb p4] (tCons (tVar 1) (tCons (tVar 2) tNil)) := pa_cons (pv 1 rfl (.inl (hl na (by simp))) d1.1 d1.2) (pa_cons (pv 2 rfl (.inl (hl nb (by simp))) d2.1 d2.2) pa_nil)
  have pk : PK X [⟨some nk, .Name nk p5, p6⟩] (tCons (tVar 3) tNil) := pk_cons (pv 3 rfl (.inl (hl nk (by simp))) d3.1 d3.2) pk_nil
  refine PySem.W.callWith_of (P := PySem.W.MethP K h2.objs.size f2 (.ref x)) rfl (PySem.W.keeps_M T.fnI) (evalArgs_kw2 (env := X.env) rfl (thn (pa.run p7 _ _ _ H (fun vs H' => vs = [a, b] ∧ H' = H) I3 ⟨a, rfl, b, rfl, rfl, rfl⟩) fun us s5 ⟨vs, H5, I5, r5, e5, e5'⟩ => ?_))
  subst e5 e5'
  refine thn (pk.run p7 _ s5 _ H5 (fun vs H' => vs = [c] ∧ H' = H5) I5 ⟨c, rfl, rfl, rfl⟩) fun ws s6 ⟨zs, H6, I6, r6, e6, e6'⟩ => ?_
  subst e6 e6'
  have hq6 := ClX.pin_at I6
  refine ⟨⟨hq6, I6.kIn⟩, ?_⟩
  have lu : us.length = 2 := r5.length.symm
  have lw : ws.length = 1 := r6.length.symm
  have r7 : Vals [V.ref x, a, b] (Value.ref x :: us) := .cons rfl r5
  refine wpAny_call (PySem.W.method_call hq6 (codeAny_mono (F2.run X.A X.stack s6 _ ⟨Value.ref x :: us, [nk].zip ws⟩ (Value.ref x :: us ++ ws) [.ref x, a, b, c] (fun _ H' => Q .non H') E (hr.deeper _) I6.env0 (hb.to s6 (Value.ref x :: us) ws I6.kIn (by simp [lu]) lw) (hb.rel r7 r6) hsp) fun r s' hq' => ?_))
  cases r with
  | error e => exact hq'.elim
  | ok fl =>
    cases fl with
    | ret u =>
      obtain ⟨v, H', I7, rv, q3⟩ := I6.after hq'
      refine _root_.PySem.wpAt_of_wpAny (wpAny_execs_nil ?_)
      exact ⟨.non, H', I7.os, I7.bare, I7.base, I7.hok, rfl, q3⟩
    | next => exact False.elim hq'
    | brk => exact False.elim hq'
    | cont => exact False.elim hq'
end
end SupI


set_option Elab.async false
set_option linter.all false
set_option maxRecDepth 100000
set_option maxHeartbeats 4000000
/-! The program's own errors (each one keeps its field), and raise .. from. -/
namespace L2
open PySem PySem.Spec PyProof.Rows
def PMk6 (X : Cx) (e : Expr) (t : St → Hp → XK → Prop) : Prop :=
  ∀ (pins : List (Addr × Obj)) (s : Shared) (σ : St) (H : Hp) (Q : XK), Inv X pins σ H s → t σ H Q → wpAny (model X.prog X.w) X.A (eval e X.env) (fun u s' => MkP X pins σ Q u s' ∧ L2H.Six u s') X.xe s
end L2
namespace PySem
namespace BadTextX
open PySem.W PySem.Calls PyProof.Rows PySem.HandSPX
/-! ### the text of __init__ -/
def iA (p1 p2 : Pos) : Arguments := { posonlyargs := [], args := [{ arg := "self", annotation := none, pos := p1 }, { arg := "line", annotation := none, pos := p2 }], vararg := none, kwonlyargs := [], kw_defaults := [], kwarg := none, defaults := [] }
def iB (q1 q2 q3 q4 : Pos) : List Stmt := [.Assign [.Attribute (.Name "self" q1) "line" q2] (.Name "line" q3) q4]
def iS : Scope := { kind := .function, names := [(PySem.Str.ofString "self", .local), (PySem.Str.ofString "line", .local)], isGenerator := false, isCoroutine := false, more := [] }
/-- what the written part says of Low, at C, and of its __init__, at fI -/
structure BadTextTxt (K : Frag) (mg : Str → Option Value) (C fI : Addr) : Prop where
  gC : mg "BadText" = some (.ref C)
  cls : ∃ nm q N bs bm sn sub ab col dd k0 k1 k2 k3 k5, K.lookup C = some (excClassObj nm q C N bs bm true sn sub ab col dd k0 k1 k2 k3 k5 "ValueError.__new__") ∧ refsVE bm = true
  sa : findIn K (.ref C) "__setattr__" = some (some (.builtin "object.__setattr__"))
  ga : findIn K (.ref C) "__getattribute__" = some (some (.builtin "BaseException.__getattribute__"))
  gg : findIn K (.ref C) "__getattr__" = some none
  noN : findIn K (.ref C) "line" = some none
  iC : findIn K (.ref C) "__init__" = some (some (.ref fI))
  tC : typeIn K (.ref fI) = some (.type "function")
  kC : keepIn K (.ref C) = true
  exC : subIn K (.ref C) (.type "BaseException") = some true
  tyC : typeIn K (.ref C) = some (.type "type")
  hdC : hasDictIn K C = true
  te : exmOne K (.ref C) (.ref C) = some true
  fn : ∃ (oc : Value) (od : Option Addr) (kV doc pm : Value) (an : Option Addr) (cdv ct : Value) (osl : Array (Option Value)) (p1 p2 q1 q2 q3 q4 : Pos),
    K.lookup fI = some ⟨oc, od, .func (fnOf "__init__" "BadText.__init__" (iA p1 p2) (iB q1 q2 q3 q4) iS .none kV doc pm an cdv ct), osl⟩ ∧ codeIn K cdv "BadText.__init__" = true
theorem one_size (v : Value) : [v].length ≤ sizeLine := by
  rw [sizeLine_eq]
  exact (by decide : 1 ≤ 16777216)
theorem kept_but {K : Frag} {h h' : Heap} {x : Addr} (X : K.In h) (hx : K.lookup x = none) (k : ∀ b o, b ≠ x → h.get? b = some o → h'.get? b = some o) : K.In h' := fun a o e =>
  k a o (fun z => by rw [z, hx] at e; cases e) (X a o e)
theorem ldC {M : Model} {s : Shared} {name : Str} {scope : Scope} {L a : Addr} {cd : Value} {m : Str → Option Value} {x : Str} {pos : Pos} {v : Value} {Q : Value → Shared → Prop} {A : Around} {E : Value → Shared → Prop} (hn : s.heap.Ns L m) (hv : m x = some v) (h : Q v s)
    (hk : scope.kind = .function := by rfl) (hl : (envOfC name scope L a cd).kindOf x = some .local := by rfl) (hd : (x == ("__debug__" : Str)) = false := by decide) :
    wpAny M A (eval (.Name x pos) (envOfC name scope L a cd)) Q E s := wpAny_Name (wpAny_loadName_local hk hl hn hv h) hd
/-- what __init__ leaves of a fresh exception at x -/
structure InitEnd (h h' : Heap) (x C dx t1 : Addr) (v : Value) : Prop where
  keep : ∀ b o, b ≠ x → h.get? b = some o → h'.get? b = some o
  obj : h'.get? x = some { cls := .ref C, dict := some dx, data := .fields #[.ref t1, .none, .none, .none, .bool false, .none] }
  dbig : h.objs.size ≤ dx
  dne : dx ≠ x
  ns : h'.Ns1 dx (fun y => if y = "line" then some v else none)
/-- a made Low -/
structure OwnMade (h h' : Heap) (e C d : Addr) (v : Value) : Prop where
  keep : ∀ b o, h.get? b = some o → h'.get? b = some o
  new : h.objs.size ≤ e
  obj : ∃ oe vs, h'.get? e = some oe ∧ oe.cls = .ref C ∧ oe.dict = some d ∧ oe.data = .fields vs ∧ vs[1]? = some .none ∧ 4 < vs.size
  dbig : h.objs.size ≤ d
  dne : d ≠ e
  ns : h'.Ns1 d (fun y => if y = "line" then some v else none)
section
variable {prog : Program} {w : World} {A : Around} {E : Value → Shared → Prop} {R : Result → Shared → Prop} {s : Shared} {K : Frag} {mg : Str → Option Value} {C fI : Addr}
theorem init_BadText (T : BadTextTxt K mg C fI) {x t0 : Addr} {v : Value} (X : K.In s.heap) (hlim : s.heap.NoLimit) (hx : s.heap.get? x = some (excO C t0)) (hnx : K.lookup x = none) (hroom : A.depth < recursionLimit)
    (hq : ∀ h' tk dx, InitEnd s.heap h' x C dx t0 v → R (.ok (.ret .none)) { s with heap := h', toks := tk }) :
    codeAny (model prog w) A (.call (.ref fI) ⟨[.ref x, v], []⟩) R s := by
  obtain ⟨oc, od, kV, doc, pm, an, cdv, ct, osl, p1, p2, q1, q2, q3, q4, ho, hcd⟩ := T.fn
  obtain ⟨nm, q, N, bs, bm, sn, sub, ab, col, dd, k0, k1, k2, k3, k5, hC, hbm⟩ := T.cls
  have hcl : clsIn K C = some { name := nm, bases := bs, mro := .ref C :: bm, ns := N, qualname := q, hasDict := true, slotNames := sn, subclasses := sub, abstract := ab, collection := col, hasDel := false } := by unfold clsIn; rw [hC] <;> rfl
  refine Att.call_fn (binds := [("self", .ref x), ("line", v)]) X hlim ho hcd hroom (BindsTo.of_eq (by first | rfl | with_unfolding_all rfl)) (by first | rfl | decide | with_unfolding_all rfl) (fun s₁ IC => ?_) rfl rfl rfl
  obtain ⟨h₁, tk₁, rfl⟩ := IC.toInCall.same
  have k : ∀ b o, s.heap.get? b = some o → h₁.get? b = some o := IC.toInCall.keep
  have hn := IC.toInCall.ns
  have hxL : s.heap.objs.size ≠ x := Nat.ne_of_gt (Heap.lt_size hx)
  have X₁ : K.In h₁ := X.keeps k
  have hx₁ := k _ _ hx
  -- self.by = by
  show wpAny _ _ (execs _ _) _ _ _
  refine wpAny_execs_cons (plainObj_wpAny_Assign_Attribute ?_)
  refine ldC (v := v) hn (by first | rfl | with_unfolding_all rfl | kernel_rfl) (ldC (v := .ref x) hn (by first | rfl | with_unfolding_all rfl | kernel_rfl) ?_)
  refine set_plain X₁ (ox := excO C t0) (od := none) ⟨hx₁, rfl, rfl, trivial⟩ T.sa ?_
  refine exc_osa X₁ hx₁ hcl (show refsVE (.ref C :: bm) = true from hbm) rfl T.noN (fun h₃ tk₃ dx k₃ dn dne hx₃ hn₃ => ?_)
  show wpAny _ _ (execs _ _) _ _ _
  have z : s.heap.objs.size < h₁.objs.size := hn.lt
  exact wpAny_execs_nil (hq h₃ tk₃ dx ⟨fun b o hb e => k₃ b o hb (k b o e), hx₃, Nat.le_of_lt (Nat.lt_of_lt_of_le z dn), dne, hn₃⟩)
theorem made_BadText (T : BadTextTxt K mg C fI) {v : Value} (X : K.In s.heap) (hlim : s.heap.NoLimit) (hroom : A.depth + 1 < recursionLimit)
    (hq : ∀ h' tk e d, OwnMade s.heap h' e C d v → R (.ok (.ret (.ref e))) { s with heap := h', toks := tk }) :
    codeAny (model prog w) A (.call (.ref C) ⟨[v], []⟩) R s := by
  obtain ⟨nm, q, N, bs, bm, sn, sub, ab, col, dd, k0, k1, k2, k3, k5, hC, hbm⟩ := T.cls
  obtain ⟨hp, g, dr, tk, os⟩ := s
  have k : ∀ b o, hp.get? b = some o → ((hp.push (kdv_tup [v])).push (excO C hp.objs.size)).get? b = some o := fun b o e => Heap.get?_push_of_some _ (Heap.get?_push_of_some _ e)
  have hget : ((hp.push (kdv_tup [v])).push (excO C hp.objs.size)).get? (hp.objs.size + 1) = some (excO C hp.objs.size) := by heap_get
  have hnx : K.lookup (hp.objs.size + 1) = none := by
    cases e : K.lookup (hp.objs.size + 1) with
    | none => rfl
    | some o =>
      have z : hp.get? (hp.objs.size + 1) = some o := X _ _ e
      exact absurd (Nat.lt_of_succ_lt (Heap.lt_size z)) (Nat.lt_irrefl _)
  refine call_own F.excBase_ValueError (fun X => refsVE_contains X bm hbm) (X _ _ hC) (looks_findIn X T.iC) (fun self => bind_fn X self T.tC) (one_size v) ?_
  refine init_BadText (s := ⟨(hp.push (kdv_tup [v])).push (excO C hp.objs.size), g, dr, tk, os⟩) T (X.keeps k) (hlim.keeps k) hget hnx ?_ fun h' tk' dx ⟨k', hx, dn, dne, hns⟩ => ?_
  · show A.depth + 1 < recursionLimit
    exact hroom
  · have old : ∀ b o, hp.get? b = some o → h'.get? b = some o := fun b o e => k' b o (Nat.ne_of_lt (Nat.lt_succ_of_lt (Heap.lt_size e))) (k b o e)
    have z : hp.objs.size + 1 + 1 ≤ dx := by
      first
        | (simpa only [Heap.size_push] using dn)
        | exact dn
        | (have q := dn; rw [Heap.size_push, Heap.size_push] at q; exact q)
    exact ⟨rfl, hq h' tk' (hp.objs.size + 1) dx ⟨old, Nat.le_succ _, ⟨_, _, hx, rfl, rfl, rfl, rfl, (by show (4 : Nat) < 6; decide)⟩, Nat.le_trans (Nat.le_trans (Nat.le_succ _) (Nat.le_succ _)) z, dne, hns⟩⟩
end
end BadTextX
end PySem
namespace L2
open PySem PySem.Spec PyProof.Rows
theorem relO_BadText {v : V} {v' : Value} (r : RelV v v') (f : Str) : RelO (List.lookup f [(("line" : Str), v)]) (if f = "line" then some v' else none) := by
  by_cases hw : f = "line"
  · subst hw
    rw [if_pos rfl]
    have q : List.lookup ("line" : Str) [(("line" : Str), v)] = some v := by simp [List.lookup]
    rw [q]
    exact r
  · rw [if_neg hw]
    have qw : (f == ("line" : Str)) = false := by simpa using hw
    have q2 : List.lookup f [(("line" : Str), v)] = none := by simp [List.lookup, qw]
    rw [q2]
    trivial
section
variable {X : Cx} {C fI : Addr}
/-- Low(e) -/
def tMkBadText (C : Addr) (ta : TA) : St → Hp → XK → Prop := fun σ H Q => ta σ H fun vs H1 => ∃ v, vs = [v] ∧ ∀ d, H1 d = none → Q (.ref C) (some d) (upd H1 d (.xd [(("line" : Str), v)]))
theorem pmk_BadText {a : Expr} {ta : TA} {p pos : Pos} {k : Nat} (T : PySem.BadTextX.BadTextTxt X.K X.mg C fI) (hr : Room k X.A) (ha : PA X [a] ta) (hg : Gl X "BadText" := by rfl)
    (he : starEach (a :: []) X.env = (false, eval a X.env) :: starEach [] X.env := by rfl) (hpl : (backTo pos (starEach [] X.env)).any (·.1) = false := by rfl) :
    PMk X (.Call (.Name "BadText" p) [a] [] pos) (tMkBadText C ta) := by
  intro pins s σ H Q I h
  refine wpAny_Call_Name_kw (ld_glob I hg T.gC ?_)
  refine PySem.W.callWith_K (h₀ := X.base) I.ok.mod.kin T.kC (thn (ha.run pos pins s σ H _ I h) fun us s1 hh => ?_) he hpl
  obtain ⟨vs, H1, I1, r1, v, ev, q1⟩ := hh
  subst ev
  refine ⟨I1.kIn, ?_⟩
  cases r1 with
  | cons rv rn =>
    rename_i v' us'
    cases rn
    show wpAny _ _ (call (.ref C) [v']) _ _ _
    have hlim := I1.nolimit
    obtain ⟨hp, g, dr, tk, os⟩ := s1
    refine wpAny_call (PySem.BadTextX.made_BadText T I1.kIn hlim (by have := hr.dp; omega) fun h' tk' e d M => ?_)
    show MkP X pins σ Q (.ref e) ⟨h', g, dr, tk', os⟩
    obtain ⟨oe, fv, hoe, hc, hd, hdat, h1, _⟩ := M.obj
    have hns := M.ns
    obtain ⟨G', g1, g2⟩ := restrict h' fun b => decide (b ≠ e)
    have gk : ∀ b, b ≠ e → G'.get? b = h'.get? b := fun b hb => g1 b (decide_eq_true hb)
    have ge : G'.get? e = none := g2 e (by simp)
    have old : ∀ b o, hp.get? b = some o → G'.get? b = some o := fun b o q => (gk b (Nat.ne_of_lt (Nat.lt_of_lt_of_le (Heap.lt_size q) M.new))).trans (M.keep b o q)
    have ob : ObjOk X.prog X.w (upd H1 d (.xd [(("line" : Str), v)])) G' d (.xd [(("line" : Str), v)]) :=
      ⟨_, hns.at (fun o q => (gk d M.dne).trans q), fun f => relO_BadText rv f⟩
    have J : Inv X pins σ (upd H1 d (.xd [(("line" : Str), v)])) ⟨G', g, dr, tk', os⟩ := I1.laid (t' := tk') old M.dbig ob
    refine ⟨e, oe, fv, ⟨G', g, dr, tk', os⟩, _, .ref C, some d, rfl, J, fun b o q => ?_, ge, hoe, ⟨hc, hd⟩, hdat, h1, ?_, rfl, I1.bare, raises_own T.exC T.tyC, q1 d (I1.hok.fresh M.dbig)⟩
    · by_cases hb : b = e
      · have q' : G'.get? b = some o := q
        rw [hb, ge] at q'; cases q'
      · exact (gk b hb).symm.trans q
    · rw [upd_ne (Ne.symm M.dne)]
      exact I1.hok.fresh M.new
theorem pmk5_BadText {a : Expr} {ta : TA} {p pos : Pos} {k : Nat} (T : PySem.BadTextX.BadTextTxt X.K X.mg C fI) (hr : Room k X.A) (ha : PA X [a] ta) (hg : Gl X "BadText" := by rfl)
    (he : starEach (a :: []) X.env = (false, eval a X.env) :: starEach [] X.env := by rfl) (hpl : (backTo pos (starEach [] X.env)).any (·.1) = false := by rfl) :
    PMk6 X (.Call (.Name "BadText" p) [a] [] pos) (tMkBadText C ta) := by
  intro pins s σ H Q I h
  refine wpAny_Call_Name_kw (ld_glob I hg T.gC ?_)
  refine PySem.W.callWith_K (h₀ := X.base) I.ok.mod.kin T.kC (thn (ha.run pos pins s σ H _ I h) fun us s1 hh => ?_) he hpl
  obtain ⟨vs, H1, I1, r1, v, ev, q1⟩ := hh
  subst ev
  refine ⟨I1.kIn, ?_⟩
  cases r1 with
  | cons rv rn =>
    rename_i v' us'
    cases rn
    show wpAny _ _ (call (.ref C) [v']) _ _ _
    have hlim := I1.nolimit
    obtain ⟨hp, g, dr, tk, os⟩ := s1
    refine wpAny_call (PySem.BadTextX.made_BadText T I1.kIn hlim (by have := hr.dp; omega) fun h' tk' e d M => ?_)
    show MkP X pins σ Q (.ref e) ⟨h', g, dr, tk', os⟩ ∧ L2H.Six (.ref e) ⟨h', g, dr, tk', os⟩
    obtain ⟨oe, fv, hoe, hc, hd, hdat, h1, h6⟩ := M.obj
    have hns := M.ns
    obtain ⟨G', g1, g2⟩ := restrict h' fun b => decide (b ≠ e)
    have gk : ∀ b, b ≠ e → G'.get? b = h'.get? b := fun b hb => g1 b (decide_eq_true hb)
    have ge : G'.get? e = none := g2 e (by simp)
    have old : ∀ b o, hp.get? b = some o → G'.get? b = some o := fun b o q => (gk b (Nat.ne_of_lt (Nat.lt_of_lt_of_le (Heap.lt_size q) M.new))).trans (M.keep b o q)
    have ob : ObjOk X.prog X.w (upd H1 d (.xd [(("line" : Str), v)])) G' d (.xd [(("line" : Str), v)]) :=
      ⟨_, hns.at (fun o q => (gk d M.dne).trans q), fun f => relO_BadText rv f⟩
    have J : Inv X pins σ (upd H1 d (.xd [(("line" : Str), v)])) ⟨G', g, dr, tk', os⟩ := I1.laid (t' := tk') old M.dbig ob
    refine ⟨?_, fun a oe' vs' ea hg hdd => ?_⟩
    rotate_left
    · cases ea
      have hg' : h'.get? e = some oe' := hg
      rw [hoe] at hg'
      cases hg'
      rw [hdat] at hdd
      cases hdd
      exact h6
    refine ⟨e, oe, fv, ⟨G', g, dr, tk', os⟩, _, .ref C, some d, rfl, J, fun b o q => ?_, ge, hoe, ⟨hc, hd⟩, hdat, h1, ?_, rfl, I1.bare, raises_own T.exC T.tyC, q1 d (I1.hok.fresh M.dbig)⟩
    · by_cases hb : b = e
      · have q' : G'.get? b = some o := q
        rw [hb, ge] at q'; cases q'
      · exact (gk b hb).symm.trans q
    · rw [upd_ne (Ne.symm M.dne)]
      exact I1.hok.fresh M.new
/-- raise Low(e) -/
def tRaiseBadText (C : Addr) (W : WX) (ta : TA) : TS := fun _ σ H => tMkBadText C ta σ H fun cls d H' => W cls d σ H'
theorem ps_raiseBadText {a : Expr} {ta : TA} {W : WX} {p pos pos2 : Pos} {k : Nat} (hc : X.calm = true) (T : PySem.BadTextX.BadTextTxt X.K X.mg C fI) (hr : Room k X.A) (tk : Takes X W) (ha : PA X [a] ta) (hg : Gl X "BadText" := by rfl)
    (he : starEach (a :: []) X.env = (false, eval a X.env) :: starEach [] X.env := by rfl) (hpl : (backTo pos (starEach [] X.env)).any (·.1) = false := by rfl) :
    PS X (.Raise (some (.Call (.Name "BadText" p) [a] [] pos)) none pos2) (tRaiseBadText C W ta) := ps_raise hc tk (pmk_BadText T hr ha hg he hpl)
/-- low.by, low the exception that the suite holds (at a; its class cls, its dict d) -/
def tByBadText (C : Addr) (a : Addr) (cls : Value) (d : Option Addr) (te : TE) : TE := fun σ H Q => te σ H fun x H1 => x = .ref a ∧ cls = .ref C ∧ ∃ (dd : Addr) (v : V), d = some dd ∧ H1 dd = some (.xd [(("line" : Str), v)]) ∧ Q v H1
theorem pe_byBadText {a : Addr} {oe : Obj} {cls : Value} {d : Option Addr} {pn : List (Addr × Obj)} {e : Expr} {te : TE} {pos : Pos} (T : PySem.BadTextX.BadTextTxt X.K X.mg C fI) (hz : Zc cls d oe) (hf : ∃ vs, oe.data = .fields vs) (he : PE (X.suite a ((a, oe) :: pn)) e te)
    (hb : attributeBase e "line" X.env (eval e X.env) = eval e X.env := by rfl) :
    PE (X.suite a ((a, oe) :: pn)) (.Attribute e "line" pos) (tByBadText C a cls d te) := by
  refine ⟨fun pins s σ H Q I h => ?_⟩
  refine attr_of hb (thn (he.run pins s σ H _ I h) fun u s1 hh => ?_)
  obtain ⟨x, H1, I1, rx, ex, ec, dd, v, ed, ea, q⟩ := hh
  subst ex
  obtain rfl : u = Value.ref a := rx
  subst ec
  subst ed
  obtain ⟨ha, _⟩ := I1.pin (a, oe) (List.mem_append_left _ List.mem_cons_self)
  obtain ⟨vs, hd⟩ := hf
  have hx : ObjOk X.prog X.w H1 s1.heap dd (.xd [(("line" : Str), v)]) := I1.hok dd _ ea
  obtain ⟨mA, hns, hr⟩ := hx
  obtain ⟨od, ho, hl⟩ := lookIn_ns hns
  have l : List.lookup ("line" : Str) [(("line" : Str), v)] = some v := by simp [List.lookup]
  obtain ⟨u, hu, ru⟩ := RelO.some_of (v := v) (o := mA "line") (by rw [← l]; exact hr "line")
  have J : PySem.W.InstAt s1.heap a oe C (some od) := ⟨ha, hz.1, by unfold PySem.W.notCls; rw [hd] <;> rfl, by rw [hz.2]; exact ho⟩
  exact HandSPX.exc_get I1.kIn J T.ga T.gg T.exC (PySem.W.findObj_own T.hdC T.noN rfl (by rw [hl, hu])) (handed_of ru) ⟨v, H1, I1.tok _, ru, q⟩
end
end L2


namespace PySem
namespace BadNumberX
open PySem.W PySem.Calls PyProof.Rows PySem.HandSPX
/-! ### the text of __init__ -/
def iA (p1 p2 : Pos) : Arguments := { posonlyargs := [], args := [{ arg := "self", annotation := none, pos := p1 }, { arg := "name", annotation := none, pos := p2 }], vararg := none, kwonlyargs := [], kw_defaults := [], kwarg := none, defaults := [] }
def iB (q1 q2 q3 q4 : Pos) : List Stmt := [.Assign [.Attribute (.Name "self" q1) "name" q2] (.Name "name" q3) q4]
def iS : Scope := { kind := .function, names := [(PySem.Str.ofString "self", .local), (PySem.Str.ofString "name", .local)], isGenerator := false, isCoroutine := false, more := [] }
/-- what the written part says of Low, at C, and of its __init__, at fI -/
structure BadNumberTxt (K : Frag) (mg : Str → Option Value) (C fI : Addr) : Prop where
  gC : mg "BadNumber" = some (.ref C)
  cls : ∃ nm q N bs bm sn sub ab col dd k0 k1 k2 k3 k5, K.lookup C = some (excClassObj nm q C N bs bm true sn sub ab col dd k0 k1 k2 k3 k5 "ValueError.__new__") ∧ refsVE bm = true
  sa : findIn K (.ref C) "__setattr__" = some (some (.builtin "object.__setattr__"))
  ga : findIn K (.ref C) "__getattribute__" = some (some (.builtin "BaseException.__getattribute__"))
  gg : findIn K (.ref C) "__getattr__" = some none
  noN : findIn K (.ref C) "name" = some none
  iC : findIn K (.ref C) "__init__" = some (some (.ref fI))
  tC : typeIn K (.ref fI) = some (.type "function")
  kC : keepIn K (.ref C) = true
  exC : subIn K (.ref C) (.type "BaseException") = some true
  tyC : typeIn K (.ref C) = some (.type "type")
  hdC : hasDictIn K C = true
  te : exmOne K (.ref C) (.ref C) = some true
  fn : ∃ (oc : Value) (od : Option Addr) (kV doc pm : Value) (an : Option Addr) (cdv ct : Value) (osl : Array (Option Value)) (p1 p2 q1 q2 q3 q4 : Pos),
    K.lookup fI = some ⟨oc, od, .func (fnOf "__init__" "BadNumber.__init__" (iA p1 p2) (iB q1 q2 q3 q4) iS .none kV doc pm an cdv ct), osl⟩ ∧ codeIn K cdv "BadNumber.__init__" = true
theorem one_size (v : Value) : [v].length ≤ sizeLine := by
  rw [sizeLine_eq]
  exact (by decide : 1 ≤ 16777216)
theorem kept_but {K : Frag} {h h' : Heap} {x : Addr} (X : K.In h) (hx : K.lookup x = none) (k : ∀ b o, b ≠ x → h.get? b = some o → h'.get? b = some o) : K.In h' := fun a o e =>
  k a o (fun z => by rw [z, hx] at e; cases e) (X a o e)
theorem ldC {M : Model} {s : Shared} {name : Str} {scope : Scope} {L a : Addr} {cd : Value} {m : Str → Option Value} {x : Str} {pos : Pos} {v : Value} {Q : Value → Shared → Prop} {A : Around} {E : Value → Shared → Prop} (hn : s.heap.Ns L m) (hv : m x = some v) (h : Q v s)
    (hk : scope.kind = .function := by rfl) (hl : (envOfC name scope L a cd).kindOf x = some .local := by rfl) (hd : (x == ("__debug__" : Str)) = false := by decide) :
    wpAny M A (eval (.Name x pos) (envOfC name scope L a cd)) Q E s := wpAny_Name (wpAny_loadName_local hk hl hn hv h) hd
/-- what __init__ leaves of a fresh exception at x -/
structure InitEnd (h h' : Heap) (x C dx t1 : Addr) (v : Value) : Prop where
  keep : ∀ b o, b ≠ x → h.get? b = some o → h'.get? b = some o
  obj : h'.get? x = some { cls := .ref C, dict := some dx, data := .fields #[.ref t1, .none, .none, .none, .bool false, .none] }
  dbig : h.objs.size ≤ dx
  dne : dx ≠ x
  ns : h'.Ns1 dx (fun y => if y = "name" then some v else none)
/-- a made Low -/
structure OwnMade (h h' : Heap) (e C d : Addr) (v : Value) : Prop where
  keep : ∀ b o, h.get? b = some o → h'.get? b = some o
  new : h.objs.size ≤ e
  obj : ∃ oe vs, h'.get? e = some oe ∧ oe.cls = .ref C ∧ oe.dict = some d ∧ oe.data = .fields vs ∧ vs[1]? = some .none ∧ 4 < vs.size
  dbig : h.objs.size ≤ d
  dne : d ≠ e
  ns : h'.Ns1 d (fun y => if y = "name" then some v else none)
section
variable {prog : Program} {w : World} {A : Around} {E : Value → Shared → Prop} {R : Result → Shared → Prop} {s : Shared} {K : Frag} {mg : Str → Option Value} {C fI : Addr}
theorem init_BadNumber (T : BadNumberTxt K mg C fI) {x t0 : Addr} {v : Value} (X : K.In s.heap) (hlim : s.heap.NoLimit) (hx : s.heap.get? x = some (excO C t0)) (hnx : K.lookup x = none) (hroom : A.depth < recursionLimit)
    (hq : ∀ h' tk dx, InitEnd s.heap h' x C dx t0 v → R (.ok (.ret .none)) { s with heap := h', toks := tk }) :
    codeAny (model prog w) A (.call (.ref fI) ⟨[.ref x, v], []⟩) R s := by
  obtain ⟨oc, od, kV, doc, pm, an, cdv, ct, osl, p1, p2, q1, q2, q3, q4, ho, hcd⟩ := T.fn
  obtain ⟨nm, q, N, bs, bm, sn, sub, ab, col, dd, k0, k1, k2, k3, k5, hC, hbm⟩ := T.cls
  have hcl : clsIn K C = some { name := nm, bases := bs, mro := .ref C :: bm, ns := N, qualname := q, hasDict := true, slotNames := sn, subclasses := sub, abstract := ab, collection := col, hasDel := false } := by unfold clsIn; rw [hC] <;> rfl
  refine Att.call_fn (binds := [("self", .ref x), ("name", v)]) X hlim ho hcd hroom (BindsTo.of_eq (by first | rfl | with_unfolding_all rfl)) (by first | rfl | decide | with_unfolding_all rfl) (fun s₁ IC => ?_) rfl rfl rfl
  obtain ⟨h₁, tk₁, rfl⟩ := IC.toInCall.same
  have k : ∀ b o, s.heap.get? b = some o → h₁.get? b = some o := IC.toInCall.keep
  have hn := IC.toInCall.ns
  have hxL : s.heap.objs.size ≠ x := Nat.ne_of_gt (Heap.lt_size hx)
  have X₁ : K.In h₁ := X.keeps k
  have hx₁ := k _ _ hx
  -- self.by = by
  show wpAny _ _ (execs _ _) _ _ _
  refine wpAny_execs_cons (plainObj_wpAny_Assign_Attribute ?_)
  refine ldC (v := v) hn (by first | rfl | with_unfolding_all rfl | kernel_rfl) (ldC (v := .ref x) hn (by first | rfl | with_unfolding_all rfl | kernel_rfl) ?_)
  refine set_plain X₁ (ox := excO C t0) (od := none) ⟨hx₁, rfl, rfl, trivial⟩ T.sa ?_
  refine exc_osa X₁ hx₁ hcl (show refsVE (.ref C :: bm) = true from hbm) rfl T.noN (fun h₃ tk₃ dx k₃ dn dne hx₃ hn₃ => ?_)
  show wpAny _ _ (execs _ _) _ _ _
  have z : s.heap.objs.size < h₁.objs.size := hn.lt
  exact wpAny_execs_nil (hq h₃ tk₃ dx ⟨fun b o hb e => k₃ b o hb (k b o e), hx₃, Nat.le_of_lt (Nat.lt_of_lt_of_le z dn), dne, hn₃⟩)
theorem made_BadNumber (T : BadNumberTxt K mg C fI) {v : Value} (X : K.In s.heap) (hlim : s.heap.NoLimit) (hroom : A.depth + 1 < recursionLimit)
    (hq : ∀ h' tk e d, OwnMade s.heap h' e C d v → R (.ok (.ret (.ref e))) { s with heap := h', toks := tk }) :
    codeAny (model prog w) A (.call (.ref C) ⟨[v], []⟩) R s := by
  obtain ⟨nm, q, N, bs, bm, sn, sub, ab, col, dd, k0, k1, k2, k3, k5, hC, hbm⟩ := T.cls
  obtain ⟨hp, g, dr, tk, os⟩ := s
  have k : ∀ b o, hp.get? b = some o → ((hp.push (kdv_tup [v])).push (excO C hp.objs.size)).get? b = some o := fun b o e => Heap.get?_push_of_some _ (Heap.get?_push_of_some _ e)
  have hget : ((hp.push (kdv_tup [v])).push (excO C hp.objs.size)).get? (hp.objs.size + 1) = some (excO C hp.objs.size) := by heap_get
  have hnx : K.lookup (hp.objs.size + 1) = none := by
    cases e : K.lookup (hp.objs.size + 1) with
    | none => rfl
    | some o =>
      have z : hp.get? (hp.objs.size + 1) = some o := X _ _ e
      exact absurd (Nat.lt_of_succ_lt (Heap.lt_size z)) (Nat.lt_irrefl _)
  refine call_own F.excBase_ValueError (fun X => refsVE_contains X bm hbm) (X _ _ hC) (looks_findIn X T.iC) (fun self => bind_fn X self T.tC) (one_size v) ?_
  refine init_BadNumber (s := ⟨(hp.push (kdv_tup [v])).push (excO C hp.objs.size), g, dr, tk, os⟩) T (X.keeps k) (hlim.keeps k) hget hnx ?_ fun h' tk' dx ⟨k', hx, dn, dne, hns⟩ => ?_
  · show A.depth + 1 < recursionLimit
    exact hroom
  · have old : ∀ b o, hp.get? b = some o → h'.get? b = some o := fun b o e => k' b o (Nat.ne_of_lt (Nat.lt_succ_of_lt (Heap.lt_size e))) (k b o e)
    have z : hp.objs.size + 1 + 1 ≤ dx := by
      first
        | (simpa only [Heap.size_push] using dn)
        | exact dn
        | (have q := dn; rw [Heap.size_push, Heap.size_push] at q; exact q)
    exact ⟨rfl, hq h' tk' (hp.objs.size + 1) dx ⟨old, Nat.le_succ _, ⟨_, _, hx, rfl, rfl, rfl, rfl, (by show (4 : Nat) < 6; decide)⟩, Nat.le_trans (Nat.le_trans (Nat.le_succ _) (Nat.le_succ _)) z, dne, hns⟩⟩
end
end BadNumberX
end PySem
namespace L2
open PySem PySem.Spec PyProof.Rows
theorem relO_BadNumber {v : V} {v' : Value} (r : RelV v v') (f : Str) : RelO (List.lookup f [(("name" : Str), v)]) (if f = "name" then some v' else none) := by
  by_cases hw : f = "name"
  · subst hw
    rw [if_pos rfl]
    have q : List.lookup ("name" : Str) [(("name" : Str), v)] = some v := by simp [List.lookup]
    rw [q]
    exact r
  · rw [if_neg hw]
    have qw : (f == ("name" : Str)) = false := by simpa using hw
    have q2 : List.lookup f [(("name" : Str), v)] = none := by simp [List.lookup, qw]
    rw [q2]
    trivial
section
variable {X : Cx} {C fI : Addr}
/-- Low(e) -/
def tMkBadNumber (C : Addr) (ta : TA) : St → Hp → XK → Prop := fun σ H Q => ta σ H fun vs H1 => ∃ v, vs = [v] ∧ ∀ d, H1 d = none → Q (.ref C) (some d) (upd H1 d (.xd [(("name" : Str), v)]))
theorem pmk_BadNumber {a : Expr} {ta : TA} {p pos : Pos} {k : Nat} (T : PySem.BadNumberX.BadNumberTxt X.K X.mg C fI) (hr : Room k X.A) (ha : PA X [a] ta) (hg : Gl X "BadNumber" := by rfl)
    (he : starEach (a :: []) X.env = (false, eval a X.env) :: starEach [] X.env := by rfl) (hpl : (backTo pos (starEach [] X.env)).any (·.1) = false := by rfl) :
    PMk X (.Call (.Name "BadNumber" p) [a] [] pos) (tMkBadNumber C ta) := by
  intro pins s σ H Q I h
  refine wpAny_Call_Name_kw (ld_glob I hg T.gC ?_)
  refine PySem.W.callWith_K (h₀ := X.base) I.ok.mod.kin T.kC (thn (ha.run pos pins s σ H _ I h) fun us s1 hh => ?_) he hpl
  obtain ⟨vs, H1, I1, r1, v, ev, q1⟩ := hh
  subst ev
  refine ⟨I1.kIn, ?_⟩
  cases r1 with
  | cons rv rn =>
    rename_i v' us'
    cases rn
    show wpAny _ _ (call (.ref C) [v']) _ _ _
    have hlim := I1.nolimit
    obtain ⟨hp, g, dr, tk, os⟩ := s1
    refine wpAny_call (PySem.BadNumberX.made_BadNumber T I1.kIn hlim (by have := hr.dp; omega) fun h' tk' e d M => ?_)
    show MkP X pins σ Q (.ref e) ⟨h', g, dr, tk', os⟩
    obtain ⟨oe, fv, hoe, hc, hd, hdat, h1, _⟩ := M.obj
    have hns := M.ns
    obtain ⟨G', g1, g2⟩ := restrict h' fun b => decide (b ≠ e)
    have gk : ∀ b, b ≠ e → G'.get? b = h'.get? b := fun b hb => g1 b (decide_eq_true hb)
    have ge : G'.get? e = none := g2 e (by simp)
    have old : ∀ b o, hp.get? b = some o → G'.get? b = some o := fun b o q => (gk b (Nat.ne_of_lt (Nat.lt_of_lt_of_le (Heap.lt_size q) M.new))).trans (M.keep b o q)
    have ob : ObjOk X.prog X.w (upd H1 d (.xd [(("name" : Str), v)])) G' d (.xd [(("name" : Str), v)]) :=
      ⟨_, hns.at (fun o q => (gk d M.dne).trans q), fun f => relO_BadNumber rv f⟩
    have J : Inv X pins σ (upd H1 d (.xd [(("name" : Str), v)])) ⟨G', g, dr, tk', os⟩ := I1.laid (t' := tk') old M.dbig ob
    refine ⟨e, oe, fv, ⟨G', g, dr, tk', os⟩, _, .ref C, some d, rfl, J, fun b o q => ?_, ge, hoe, ⟨hc, hd⟩, hdat, h1, ?_, rfl, I1.bare, raises_own T.exC T.tyC, q1 d (I1.hok.fresh M.dbig)⟩
    · by_cases hb : b = e
      · have q' : G'.get? b = some o := q
        rw [hb, ge] at q'; cases q'
      · exact (gk b hb).symm.trans q
    · rw [upd_ne (Ne.symm M.dne)]
      exact I1.hok.fresh M.new
/-- raise Low(e) -/
def tRaiseBadNumber (C : Addr) (W : WX) (ta : TA) : TS := fun _ σ H => tMkBadNumber C ta σ H fun cls d H' => W cls d σ H'
theorem ps_raiseBadNumber {a : Expr} {ta : TA} {W : WX} {p pos pos2 : Pos} {k : Nat} (hc : X.calm = true) (T : PySem.BadNumberX.BadNumberTxt X.K X.mg C fI) (hr : Room k X.A) (tk : Takes X W) (ha : PA X [a] ta) (hg : Gl X "BadNumber" := by rfl)
    (he : starEach (a :: []) X.env = (false, eval a X.env) :: starEach [] X.env := by rfl) (hpl : (backTo pos (starEach [] X.env)).any (·.1) = false := by rfl) :
    PS X (.Raise (some (.Call (.Name "BadNumber" p) [a] [] pos)) none pos2) (tRaiseBadNumber C W ta) := ps_raise hc tk (pmk_BadNumber T hr ha hg he hpl)
/-- low.by, low the exception that the suite holds (at a; its class cls, its dict d) -/
def tByBadNumber (C : Addr) (a : Addr) (cls : Value) (d : Option Addr) (te : TE) : TE := fun σ H Q => te σ H fun x H1 => x = .ref a ∧ cls = .ref C ∧ ∃ (dd : Addr) (v : V), d = some dd ∧ H1 dd = some (.xd [(("name" : Str), v)]) ∧ Q v H1
theorem pe_byBadNumber {a : Addr} {oe : Obj} {cls : Value} {d : Option Addr} {pn : List (Addr × Obj)} {e : Expr} {te : TE} {pos : Pos} (T : PySem.BadNumberX.BadNumberTxt X.K X.mg C fI) (hz : Zc cls d oe) (hf : ∃ vs, oe.data = .fields vs) (he : PE (X.suite a ((a, oe) :: pn)) e te)
    (hb : attributeBase e "name" X.env (eval e X.env) = eval e X.env := by rfl) :
    PE (X.suite a ((a, oe) :: pn)) (.Attribute e "name" pos) (tByBadNumber C a cls d te) := by
  refine ⟨fun pins s σ H Q I h => ?_⟩
  refine attr_of hb (thn (he.run pins s σ H _ I h) fun u s1 hh => ?_)
  obtain ⟨x, H1, I1, rx, ex, ec, dd, v, ed, ea, q⟩ := hh
  subst ex
  obtain rfl : u = Value.ref a := rx
  subst ec
  subst ed
  obtain ⟨ha, _⟩ := I1.pin (a, oe) (List.mem_append_left _ List.mem_cons_self)
  obtain ⟨vs, hd⟩ := hf
  have hx : ObjOk X.prog X.w H1 s1.heap dd (.xd [(("name" : Str), v)]) := I1.hok dd _ ea
  obtain ⟨mA, hns, hr⟩ := hx
  obtain ⟨od, ho, hl⟩ := lookIn_ns hns
  have l : List.lookup ("name" : Str) [(("name" : Str), v)] = some v := by simp [List.lookup]
  obtain ⟨u, hu, ru⟩ := RelO.some_of (v := v) (o := mA "name") (by rw [← l]; exact hr "name")
  have J : PySem.W.InstAt s1.heap a oe C (some od) := ⟨ha, hz.1, by unfold PySem.W.notCls; rw [hd] <;> rfl, by rw [hz.2]; exact ho⟩
  exact HandSPX.exc_get I1.kIn J T.ga T.gg T.exC (PySem.W.findObj_own T.hdC T.noN rfl (by rw [hl, hu])) (handed_of ru) ⟨v, H1, I1.tok _, ru, q⟩
end
end L2


namespace PySem
namespace BadRunX
open PySem.W PySem.Calls PyProof.Rows PySem.HandSPX
/-! ### the text of __init__ -/
def iA (p1 p2 : Pos) : Arguments := { posonlyargs := [], args := [{ arg := "self", annotation := none, pos := p1 }, { arg := "place", annotation := none, pos := p2 }], vararg := none, kwonlyargs := [], kw_defaults := [], kwarg := none, defaults := [] }
def iB (q1 q2 q3 q4 : Pos) : List Stmt := [.Assign [.Attribute (.Name "self" q1) "place" q2] (.Name "place" q3) q4]
def iS : Scope := { kind := .function, names := [(PySem.Str.ofString "self", .local), (PySem.Str.ofString "place", .local)], isGenerator := false, isCoroutine := false, more := [] }
/-- what the written part says of Low, at C, and of its __init__, at fI -/
structure BadRunTxt (K : Frag) (mg : Str → Option Value) (C fI : Addr) : Prop where
  gC : mg "BadRun" = some (.ref C)
  cls : ∃ nm q N bs bm sn sub ab col dd k0 k1 k2 k3 k5, K.lookup C = some (excClassObj nm q C N bs bm true sn sub ab col dd k0 k1 k2 k3 k5 "ValueError.__new__") ∧ refsVE bm = true
  sa : findIn K (.ref C) "__setattr__" = some (some (.builtin "object.__setattr__"))
  ga : findIn K (.ref C) "__getattribute__" = some (some (.builtin "BaseException.__getattribute__"))
  gg : findIn K (.ref C) "__getattr__" = some none
  noN : findIn K (.ref C) "place" = some none
  iC : findIn K (.ref C) "__init__" = some (some (.ref fI))
  tC : typeIn K (.ref fI) = some (.type "function")
  kC : keepIn K (.ref C) = true
  exC : subIn K (.ref C) (.type "BaseException") = some true
  tyC : typeIn K (.ref C) = some (.type "type")
  hdC : hasDictIn K C = true
  te : exmOne K (.ref C) (.ref C) = some true
  fn : ∃ (oc : Value) (od : Option Addr) (kV doc pm : Value) (an : Option Addr) (cdv ct : Value) (osl : Array (Option Value)) (p1 p2 q1 q2 q3 q4 : Pos),
    K.lookup fI = some ⟨oc, od, .func (fnOf "__init__" "BadRun.__init__" (iA p1 p2) (iB q1 q2 q3 q4) iS .none kV doc pm an cdv ct), osl⟩ ∧ codeIn K cdv "BadRun.__init__" = true
theorem one_size (v : Value) : [v].length ≤ sizeLine := by
  rw [sizeLine_eq]
  exact (by decide : 1 ≤ 16777216)
theorem kept_but {K : Frag} {h h' : Heap} {x : Addr} (X : K.In h) (hx : K.lookup x = none) (k : ∀ b o, b ≠ x → h.get? b = some o → h'.get? b = some o) : K.In h' := fun a o e =>
  k a o (fun z => by rw [z, hx] at e; cases e) (X a o e)
theorem ldC {M : Model} {s : Shared} {name : Str} {scope : Scope} {L a : Addr} {cd : Value} {m : Str → Option Value} {x : Str} {pos : Pos} {v : Value} {Q : Value → Shared → Prop} {A : Around} {E : Value → Shared → Prop} (hn : s.heap.Ns L m) (hv : m x = some v) (h : Q v s)
    (hk : scope.kind = .function := by rfl) (hl : (envOfC name scope L a cd).kindOf x = some .local := by rfl) (hd : (x == ("__debug__" : Str)) = false := by decide) :
    wpAny M A (eval (.Name x pos) (envOfC name scope L a cd)) Q E s := wpAny_Name (wpAny_loadName_local hk hl hn hv h) hd
/-- what __init__ leaves of a fresh exception at x -/
structure InitEnd (h h' : Heap) (x C dx t1 : Addr) (v : Value) : Prop where
  keep : ∀ b o, b ≠ x → h.get? b = some o → h'.get? b = some o
  obj : h'.get? x = some { cls := .ref C, dict := some dx, data := .fields #[.ref t1, .none, .none, .none, .bool false, .none] }
  dbig : h.objs.size ≤ dx
  dne : dx ≠ x
  ns : h'.Ns1 dx (fun y => if y = "place" then some v else none)
/-- a made Low -/
structure OwnMade (h h' : Heap) (e C d : Addr) (v : Value) : Prop where
  keep : ∀ b o, h.get? b = some o → h'.get? b = some o
  new : h.objs.size ≤ e
  obj : ∃ oe vs, h'.get? e = some oe ∧ oe.cls = .ref C ∧ oe.dict = some d ∧ oe.data = .fields vs ∧ vs[1]? = some .none ∧ 4 < vs.size
  dbig : h.objs.size ≤ d
  dne : d ≠ e
  ns : h'.Ns1 d (fun y => if y = "place" then some v else none)
section
variable {prog : Program} {w : World} {A : Around} {E : Value → Shared → Prop} {R : Result → Shared → Prop} {s : Shared} {K : Frag} {mg : Str → Option Value} {C fI : Addr}
theorem init_BadRun (T : BadRunTxt K mg C fI) {x t0 : Addr} {v : Value} (X : K.In s.heap) (hlim : s.heap.NoLimit) (hx : s.heap.get? x = some (excO C t0)) (hnx : K.lookup x = none) (hroom : A.depth < recursionLimit)
    (hq : ∀ h' tk dx, InitEnd s.heap h' x C dx t0 v → R (.ok (.ret .none)) { s with heap := h', toks := tk }) :
    codeAny (model prog w) A (.call (.ref fI) ⟨[.ref x, v], []⟩) R s := by
  obtain ⟨oc, od, kV, doc, pm, an, cdv, ct, osl, p1, p2, q1, q2, q3, q4, ho, hcd⟩ := T.fn
  obtain ⟨nm, q, N, bs, bm, sn, sub, ab, col, dd, k0, k1, k2, k3, k5, hC, hbm⟩ := T.cls
  have hcl : clsIn K C = some { name := nm, bases := bs, mro := .ref C :: bm, ns := N, qualname := q, hasDict := true, slotNames := sn, subclasses := sub, abstract := ab, collection := col, hasDel := false } := by unfold clsIn; rw [hC] <;> rfl
  refine Att.call_fn (binds := [("self", .ref x), ("place", v)]) X hlim ho hcd hroom (BindsTo.of_eq (by first | rfl | with_unfolding_all rfl)) (by first | rfl | decide | with_unfolding_all rfl) (fun s₁ IC => ?_) rfl rfl rfl
  obtain ⟨h₁, tk₁, rfl⟩ := IC.toInCall.same
  have k : ∀ b o, s.heap.get? b = some o → h₁.get? b = some o := IC.toInCall.keep
  have hn := IC.toInCall.ns
  have hxL : s.heap.objs.size ≠ x := Nat.ne_of_gt (Heap.lt_size hx)
  have X₁ : K.In h₁ := X.keeps k
  have hx₁ := k _ _ hx
  -- self.by = by
  show wpAny _ _ (execs _ _) _ _ _
  refine wpAny_execs_cons (plainObj_wpAny_Assign_Attribute ?_)
  refine ldC (v := v) hn (by first | rfl | with_unfolding_all rfl | kernel_rfl) (ldC (v := .ref x) hn (by first | rfl | with_unfolding_all rfl | kernel_rfl) ?_)
  refine set_plain X₁ (ox := excO C t0) (od := none) ⟨hx₁, rfl, rfl, trivial⟩ T.sa ?_
  refine exc_osa X₁ hx₁ hcl (show refsVE (.ref C :: bm) = true from hbm) rfl T.noN (fun h₃ tk₃ dx k₃ dn dne hx₃ hn₃ => ?_)
  show wpAny _ _ (execs _ _) _ _ _
  have z : s.heap.objs.size < h₁.objs.size := hn.lt
  exact wpAny_execs_nil (hq h₃ tk₃ dx ⟨fun b o hb e => k₃ b o hb (k b o e), hx₃, Nat.le_of_lt (Nat.lt_of_lt_of_le z dn), dne, hn₃⟩)
theorem made_BadRun (T : BadRunTxt K mg C fI) {v : Value} (X : K.In s.heap) (hlim : s.heap.NoLimit) (hroom : A.depth + 1 < recursionLimit)
    (hq : ∀ h' tk e d, OwnMade s.heap h' e C d v → R (.ok (.ret (.ref e))) { s with heap := h', toks := tk }) :
    codeAny (model prog w) A (.call (.ref C) ⟨[v], []⟩) R s := by
  obtain ⟨nm, q, N, bs, bm, sn, sub, ab, col, dd, k0, k1, k2, k3, k5, hC, hbm⟩ := T.cls
  obtain ⟨hp, g, dr, tk, os⟩ := s
  have k : ∀ b o, hp.get? b = some o → ((hp.push (kdv_tup [v])).push (excO C hp.objs.size)).get? b = some o := fun b o e => Heap.get?_push_of_some _ (Heap.get?_push_of_some _ e)
  have hget : ((hp.push (kdv_tup [v])).push (excO C hp.objs.size)).get? (hp.objs.size + 1) = some (excO C hp.objs.size) := by heap_get
  have hnx : K.lookup (hp.objs.size + 1) = none := by
    cases e : K.lookup (hp.objs.size + 1) with
    | none => rfl
    | some o =>
      have z : hp.get? (hp.objs.size + 1) = some o := X _ _ e
      exact absurd (Nat.lt_of_succ_lt (Heap.lt_size z)) (Nat.lt_irrefl _)
  refine call_own F.excBase_ValueError (fun X => refsVE_contains X bm hbm) (X _ _ hC) (looks_findIn X T.iC) (fun self => bind_fn X self T.tC) (one_size v) ?_
  refine init_BadRun (s := ⟨(hp.push (kdv_tup [v])).push (excO C hp.objs.size), g, dr, tk, os⟩) T (X.keeps k) (hlim.keeps k) hget hnx ?_ fun h' tk' dx ⟨k', hx, dn, dne, hns⟩ => ?_
  · show A.depth + 1 < recursionLimit
    exact hroom
  · have old : ∀ b o, hp.get? b = some o → h'.get? b = some o := fun b o e => k' b o (Nat.ne_of_lt (Nat.lt_succ_of_lt (Heap.lt_size e))) (k b o e)
    have z : hp.objs.size + 1 + 1 ≤ dx := by
      first
        | (simpa only [Heap.size_push] using dn)
        | exact dn
        | (have q := dn; rw [Heap.size_push, Heap.size_push] at q; exact q)
    exact ⟨rfl, hq h' tk' (hp.objs.size + 1) dx ⟨old, Nat.le_succ _, ⟨_, _, hx, rfl, rfl, rfl, rfl, (by show (4 : Nat) < 6; decide)⟩, Nat.le_trans (Nat.le_trans (Nat.le_succ _) (Nat.le_succ _)) z, dne, hns⟩⟩
end
end BadRunX
end PySem
namespace L2
open PySem PySem.Spec PyProof.Rows
theorem relO_BadRun {v : V} {v' : Value} (r : RelV v v') (f : Str) : RelO (List.lookup f [(("place" : Str), v)]) (if f = "place" then some v' else none) := by
  by_cases hw : f = "place"
  · subst hw
    rw [if_pos rfl]
    have q : List.lookup ("place" : Str) [(("place" : Str), v)] = some v := by simp [List.lookup]
    rw [q]
    exact r
  · rw [if_neg hw]
    have qw : (f == ("place" : Str)) = false := by simpa using hw
    have q2 : List.lookup f [(("place" : Str), v)] = none := by simp [List.lookup, qw]
    rw [q2]
    trivial
section
variable {X : Cx} {C fI : Addr}
/-- Low(e) -/
def tMkBadRun (C : Addr) (ta : TA) : St → Hp → XK → Prop := fun σ H Q => ta σ H fun vs H1 => ∃ v, vs = [v] ∧ ∀ d, H1 d = none → Q (.ref C) (some d) (upd H1 d (.xd [(("place" : Str), v)]))
theorem pmk_BadRun {a : Expr} {ta : TA} {p pos : Pos} {k : Nat} (T : PySem.BadRunX.BadRunTxt X.K X.mg C fI) (hr : Room k X.A) (ha : PA X [a] ta) (hg : Gl X "BadRun" := by rfl)
    (he : starEach (a :: []) X.env = (false, eval a X.env) :: starEach [] X.env := by rfl) (hpl : (backTo pos (starEach [] X.env)).any (·.1) = false := by rfl) :
    PMk X (.Call (.Name "BadRun" p) [a] [] pos) (tMkBadRun C ta) := by
  intro pins s σ H Q I h
  refine wpAny_Call_Name_kw (ld_glob I hg T.gC ?_)
  refine PySem.W.callWith_K (h₀ := X.base) I.ok.mod.kin T.kC (thn (ha.run pos pins s σ H _ I h) fun us s1 hh => ?_) he hpl
  obtain ⟨vs, H1, I1, r1, v, ev, q1⟩ := hh
  subst ev
  refine ⟨I1.kIn, ?_⟩
  cases r1 with
  | cons rv rn =>
    rename_i v' us'
    cases rn
    show wpAny _ _ (call (.ref C) [v']) _ _ _
    have hlim := I1.nolimit
    obtain ⟨hp, g, dr, tk, os⟩ := s1
    refine wpAny_call (PySem.BadRunX.made_BadRun T I1.kIn hlim (by have := hr.dp; omega) fun h' tk' e d M => ?_)
    show MkP X pins σ Q (.ref e) ⟨h', g, dr, tk', os⟩
    obtain ⟨oe, fv, hoe, hc, hd, hdat, h1, _⟩ := M.obj
    have hns := M.ns
    obtain ⟨G', g1, g2⟩ := restrict h' fun b => decide (b ≠ e)
    have gk : ∀ b, b ≠ e → G'.get? b = h'.get? b := fun b hb => g1 b (decide_eq_true hb)
    have ge : G'.get? e = none := g2 e (by simp)
    have old : ∀ b o, hp.get? b = some o → G'.get? b = some o := fun b o q => (gk b (Nat.ne_of_lt (Nat.lt_of_lt_of_le (Heap.lt_size q) M.new))).trans (M.keep b o q)
    have ob : ObjOk X.prog X.w (upd H1 d (.xd [(("place" : Str), v)])) G' d (.xd [(("place" : Str), v)]) :=
      ⟨_, hns.at (fun o q => (gk d M.dne).trans q), fun f => relO_BadRun rv f⟩
    have J : Inv X pins σ (upd H1 d (.xd [(("place" : Str), v)])) ⟨G', g, dr, tk', os⟩ := I1.laid (t' := tk') old M.dbig ob
    refine ⟨e, oe, fv, ⟨G', g, dr, tk', os⟩, _, .ref C, some d, rfl, J, fun b o q => ?_, ge, hoe, ⟨hc, hd⟩, hdat, h1, ?_, rfl, I1.bare, raises_own T.exC T.tyC, q1 d (I1.hok.fresh M.dbig)⟩
    · by_cases hb : b = e
      · have q' : G'.get? b = some o := q
        rw [hb, ge] at q'; cases q'
      · exact (gk b hb).symm.trans q
    · rw [upd_ne (Ne.symm M.dne)]
      exact I1.hok.fresh M.new
/-- raise Low(e) -/
def tRaiseBadRun (C : Addr) (W : WX) (ta : TA) : TS := fun _ σ H => tMkBadRun C ta σ H fun cls d H' => W cls d σ H'
theorem ps_raiseBadRun {a : Expr} {ta : TA} {W : WX} {p pos pos2 : Pos} {k : Nat} (hc : X.calm = true) (T : PySem.BadRunX.BadRunTxt X.K X.mg C fI) (hr : Room k X.A) (tk : Takes X W) (ha : PA X [a] ta) (hg : Gl X "BadRun" := by rfl)
    (he : starEach (a :: []) X.env = (false, eval a X.env) :: starEach [] X.env := by rfl) (hpl : (backTo pos (starEach [] X.env)).any (·.1) = false := by rfl) :
    PS X (.Raise (some (.Call (.Name "BadRun" p) [a] [] pos)) none pos2) (tRaiseBadRun C W ta) := ps_raise hc tk (pmk_BadRun T hr ha hg he hpl)
/-- low.by, low the exception that the suite holds (at a; its class cls, its dict d) -/
def tByBadRun (C : Addr) (a : Addr) (cls : Value) (d : Option Addr) (te : TE) : TE := fun σ H Q => te σ H fun x H1 => x = .ref a ∧ cls = .ref C ∧ ∃ (dd : Addr) (v : V), d = some dd ∧ H1 dd = some (.xd [(("place" : Str), v)]) ∧ Q v H1
theorem pe_byBadRun {a : Addr} {oe : Obj} {cls : Value} {d : Option Addr} {pn : List (Addr × Obj)} {e : Expr} {te : TE} {pos : Pos} (T : PySem.BadRunX.BadRunTxt X.K X.mg C fI) (hz : Zc cls d oe) (hf : ∃ vs, oe.data = .fields vs) (he : PE (X.suite a ((a, oe) :: pn)) e te)
    (hb : attributeBase e "place" X.env (eval e X.env) = eval e X.env := by rfl) :
    PE (X.suite a ((a, oe) :: pn)) (.Attribute e "place" pos) (tByBadRun C a cls d te) := by
  refine ⟨fun pins s σ H Q I h => ?_⟩
  refine attr_of hb (thn (he.run pins s σ H _ I h) fun u s1 hh => ?_)
  obtain ⟨x, H1, I1, rx, ex, ec, dd, v, ed, ea, q⟩ := hh
  subst ex
  obtain rfl : u = Value.ref a := rx
  subst ec
  subst ed
  obtain ⟨ha, _⟩ := I1.pin (a, oe) (List.mem_append_left _ List.mem_cons_self)
  obtain ⟨vs, hd⟩ := hf
  have hx : ObjOk X.prog X.w H1 s1.heap dd (.xd [(("place" : Str), v)]) := I1.hok dd _ ea
  obtain ⟨mA, hns, hr⟩ := hx
  obtain ⟨od, ho, hl⟩ := lookIn_ns hns
  have l : List.lookup ("place" : Str) [(("place" : Str), v)] = some v := by simp [List.lookup]
  obtain ⟨u, hu, ru⟩ := RelO.some_of (v := v) (o := mA "place") (by rw [← l]; exact hr "place")
  have J : PySem.W.InstAt s1.heap a oe C (some od) := ⟨ha, hz.1, by unfold PySem.W.notCls; rw [hd] <;> rfl, by rw [hz.2]; exact ho⟩
  exact HandSPX.exc_get I1.kIn J T.ga T.gg T.exC (PySem.W.findObj_own T.hdC T.noN rfl (by rw [hl, hu])) (handed_of ru) ⟨v, H1, I1.tok _, ru, q⟩
end
end L2



namespace L2
open PySem PySem.Spec PyProof.Rows HotX
/-- an argument that makes nothing -/
def Plain1 (X : Cx) (a : Expr) (t : St → Prop) : Prop := ∀ (pins : List (Addr × Obj)) (s : Shared) (σ : St) (H : Hp) (Q : Value → Shared → Prop), Inv X pins σ H s → t σ → (∀ u tk, Q u { s with toks := tk }) → wpAny (model X.prog X.w) X.A (eval a X.env) Q X.xe s
theorem plain_str {X : Cx} {x : Str} {j pos} : Plain1 X (.Constant (.str x) j pos) (fun _ => True) := fun _ _ _ _ _ _ _ h => Calls.Constant_str (h _ _)
theorem plain_var {X : Cx} {i : Nat} {x : Str} {pos : Pos} (hN : X.N[i]? = some x) (hv : Vis X.env.scope x) (hd : (x == ("__debug__" : Str)) = false := by decide) (hcd : (x == ("__classdict__" : Str)) = false := by decide) :
    Plain1 X (.Name x pos) (fun σ => ∃ v, σ[i]? = some (some v)) := by
  intro pins s σ H Q I ⟨v, e⟩ h
  obtain ⟨m, hn, hl⟩ := I.loc
  obtain ⟨u, r, l⟩ := hl i x v hN e hv
  rcases l with ⟨hk, hm⟩ | ⟨hk, c, hc, hcell⟩
  · exact wpAny_Name (wpAny_loadName_local I.ok.kind hk hn hm (h u s.toks)) hd
  · rcases hk with hk | hk
    · exact wpAny_Name (wpAny_loadName_cell I.ok.kind hk hc hcell (h u s.toks)) hd
    · exact wpAny_Name (wpAny_loadName_free I.ok.kind hk hc hcell (h u s.toks) hcd) hd
/-- an expression that makes an exception; all that stood stands -/
def Caus (X : Cx) (c : Expr) (t : St → Prop) : Prop := ∀ (pins : List (Addr × Obj)) (s : Shared) (σ : St) (H : Hp) (Q : Value → Shared → Prop), Inv X pins σ H s → t σ →
  (∀ (h' : Heap) (tk : Nat) (b : Addr) (ob : Obj) (cls : Value) (vs : Array Value), (∀ a o, s.heap.get? a = some o → h'.get? a = some o) → h'.get? b = some ob → ob.cls = cls → ob.data = .fields vs → Raises X cls → Q (.ref b) { s with heap := h', toks := tk }) →
  wpAny (model X.prog X.w) X.A (eval c X.env) Q X.xe s

theorem caus_BadNumber {X : Cx} {C fI : Addr} {a : Expr} {ta : St → Prop} {p pos : Pos} {k : Nat} (T : PySem.BadNumberX.BadNumberTxt X.K X.mg C fI) (hr : Room k X.A) (ha : Plain1 X a ta) (hg : Gl X "BadNumber" := by rfl)
    (he : starEach (a :: []) X.env = (false, eval a X.env) :: starEach [] X.env := by rfl) (hpl : (backTo pos (starEach [] X.env)).any (·.1) = false := by rfl) :
    Caus X (.Call (.Name "BadNumber" p) [a] [] pos) ta := by
  intro pins s σ H Q I h hq
  refine wpAny_Call_Name_kw (ld_glob I hg T.gC ?_)
  refine PySem.W.callWith_K (h₀ := X.base) I.ok.mod.kin T.kC ?_ he hpl
  rw [he]
  show wpAny _ _ (spliced ((false, eval a X.env) :: backTo pos (starEach [] X.env))) _ _ s
  refine Calls.spliced_cons (ha pins s σ H _ I h fun u tk => ?_)
  refine PySem.Calls.spliced_nil ?_
  have I2 : Inv X pins σ H { s with toks := tk } := I.tok tk
  refine ⟨I2.kIn, wpAny_call (PySem.BadNumberX.made_BadNumber (s := { s with toks := tk }) T I2.kIn I2.nolimit (by have := hr.dp; omega) fun h' tk' e d M => ?_)⟩
  obtain ⟨oe, fv, hoe, hc, hd, hdat, h1, _⟩ := M.obj
  exact hq h' tk' e oe (.ref C) fv M.keep hoe hc hdat (raises_own T.exC T.tyC)

theorem caus_BadRun {X : Cx} {C fI : Addr} {a : Expr} {ta : St → Prop} {p pos : Pos} {k : Nat} (T : PySem.BadRunX.BadRunTxt X.K X.mg C fI) (hr : Room k X.A) (ha : Plain1 X a ta) (hg : Gl X "BadRun" := by rfl)
    (he : starEach (a :: []) X.env = (false, eval a X.env) :: starEach [] X.env := by rfl) (hpl : (backTo pos (starEach [] X.env)).any (·.1) = false := by rfl) :
    Caus X (.Call (.Name "BadRun" p) [a] [] pos) ta := by
  intro pins s σ H Q I h hq
  refine wpAny_Call_Name_kw (ld_glob I hg T.gC ?_)
  refine PySem.W.callWith_K (h₀ := X.base) I.ok.mod.kin T.kC ?_ he hpl
  rw [he]
  show wpAny _ _ (spliced ((false, eval a X.env) :: backTo pos (starEach [] X.env))) _ _ s
  refine Calls.spliced_cons (ha pins s σ H _ I h fun u tk => ?_)
  refine PySem.Calls.spliced_nil ?_
  have I2 : Inv X pins σ H { s with toks := tk } := I.tok tk
  refine ⟨I2.kIn, wpAny_call (PySem.BadRunX.made_BadRun (s := { s with toks := tk }) T I2.kIn I2.nolimit (by have := hr.dp; omega) fun h' tk' e d M => ?_)⟩
  obtain ⟨oe, fv, hoe, hc, hd, hdat, h1, _⟩ := M.obj
  exact hq h' tk' e oe (.ref C) fv M.keep hoe hc hdat (raises_own T.exC T.tyC)

/-- the heap behind «from c» -/
def causeIn (h : Heap) (a : Addr) (c : Value) : Heap := (h.update a (Obj.mapFields (·.setIfInBounds 3 c))).update a (Obj.mapFields (·.setIfInBounds 4 (.bool true)))
theorem causeIn_at {h : Heap} {a : Addr} {c : Value} {oe : Obj} {vs : Array Value} (ha : h.get? a = some oe) (hd : oe.data = .fields vs) :
    (causeIn h a c).get? a = some ((oe.mapFields (·.setIfInBounds 3 c)).mapFields (·.setIfInBounds 4 (.bool true))) ∧ ((oe.mapFields (·.setIfInBounds 3 c)).mapFields (·.setIfInBounds 4 (.bool true))).data = .fields ((vs.setIfInBounds 3 c).setIfInBounds 4 (.bool true)) := by
  have hd3 := Obj.data_mapFields hd (·.setIfInBounds 3 c)
  have ha3 := Heap.get?_update_self (Obj.mapFields (·.setIfInBounds 3 c)) ha (Obj.isFreed_of_fields hd3)
  have hd4 := Obj.data_mapFields hd3 (·.setIfInBounds 4 (.bool true))
  exact ⟨Heap.get?_update_self (Obj.mapFields (·.setIfInBounds 4 (.bool true))) ha3 (Obj.isFreed_of_fields hd4), hd4⟩
theorem causeIn_other {h : Heap} {a b : Addr} {c : Value} (hne : a ≠ b) : (causeIn h a c).get? b = h.get? b := by
  unfold causeIn
  rw [Heap.get?_update_other _ _ hne, Heap.get?_update_other _ _ hne]
theorem raise_made_from {M : Model} {A : Around} {E : Value → Shared → Prop} {env : Env} {s : Shared} {x c : Sem Value} {Q : Flow → Shared → Prop} (hh : A.handled = none)
    (h : wpAny M A x (fun v s₁ => wpAny M A c (fun cv s₂ => ∃ a oe vs cls b ob cls2 ws, v = .ref a ∧ cv = .ref b ∧ s₂.heap.get? a = some oe ∧ oe.cls = cls ∧ oe.data = .fields vs ∧ vs[1]? = some .none ∧ 4 < vs.size ∧
      s₂.heap.get? b = some ob ∧ ob.cls = cls2 ∧ ob.data = .fields ws ∧
      PySem.W.Looks M s₂.heap (isSubtype cls (.type "BaseException")) true ∧ PySem.W.Looks M (causeIn s₂.heap a cv) (typeOf cls) (.type "type") ∧ PySem.W.Looks M s₂.heap (isSubtype cls2 (.type "BaseException")) true ∧ E (.ref a) { s₂ with heap := causeIn s₂.heap a cv }) E s₁) E s) :
    wpAny M A (raiseStmt env (some x) (some c)) Q E s := by
  unfold raiseStmt
  dsimp only
  refine wpAny_bind (wpAny_mono h (fun v s₁ h₁ => ?_) fun _ _ x => x)
  refine wpAny_bind (wpAny_holding (wpAny_mono h₁ (fun cv s₂ h₂ => ?_) fun _ _ x => x))
  obtain ⟨a, oe, vs, cls, b, ob, cls2, ws, rfl, rfl, ha, hcls, hd, h1, hi, hb, hcls2, hd2, L1, L3, L2', hE⟩ := h₂
  have LT : PySem.W.Looks M s₂.heap (typeOf (.ref a)) cls := fun A Q E s k q => wpAny_typeOf_ref (k _ _ ha) (by rw [hcls]; exact q)
  have LI : PySem.W.Looks M s₂.heap (isInstance (.ref a) (.type "BaseException")) true := LT.andThen L1
  have LTb : PySem.W.Looks M s₂.heap (typeOf (.ref b)) cls2 := fun A Q E s k q => wpAny_typeOf_ref (k _ _ hb) (by rw [hcls2]; exact q)
  have LIb : PySem.W.Looks M s₂.heap (isInstance (.ref b) (.type "BaseException")) true := LTb.andThen L2'
  have hnt : ∀ {Q' : Bool → Shared → Prop}, Q' false s₂ → wpAny M A (isType (.ref a)) Q' E s₂ := by
    intro Q' hq
    simp only [isType, loadHead]
    refine wpAny_bind (wpAny_loadPart ha ?_)
    rw [hd]; exact wpAny_pure hq
  have hntb : ∀ {Q' : Bool → Shared → Prop}, Q' false s₂ → wpAny M A (isType (.ref b)) Q' E s₂ := by
    intro Q' hq
    simp only [isType, loadHead]
    refine wpAny_bind (wpAny_loadPart hb ?_)
    rw [hd2]; exact wpAny_pure hq
  have hd3 := Obj.data_mapFields hd (·.setIfInBounds 3 (.ref b))
  have ha3 := Heap.get?_update_self (Obj.mapFields (·.setIfInBounds 3 (.ref b))) ha (Obj.isFreed_of_fields hd3)
  obtain ⟨ha4, hd4⟩ := causeIn_at (c := .ref b) ha hd
  have s3 : 3 < vs.size := by omega
  have s4 : 4 < (vs.setIfInBounds 3 (Value.ref b)).size := by rw [set_size]; exact hi
  have h14 : ((vs.setIfInBounds 3 (Value.ref b)).setIfInBounds 4 (Value.bool true))[1]? = some Value.none := set_other (by decide) (set_other (by decide) h1)
  have hcls4 : ((oe.mapFields (·.setIfInBounds 3 (.ref b))).mapFields (·.setIfInBounds 4 (.bool true))).cls = cls := by rw [Obj.cls_mapFields, Obj.cls_mapFields]; exact hcls
  have LT4 : PySem.W.Looks M (causeIn s₂.heap a (.ref b)) (typeOf (.ref a)) cls := fun A Q E s k q => wpAny_typeOf_ref (k _ _ ha4) (by rw [hcls4]; exact q)
  have hnt4 : ∀ {Q' : Bool → Shared → Prop}, Q' false { s₂ with heap := causeIn s₂.heap a (.ref b) } → wpAny M A (isType (.ref a)) Q' E { s₂ with heap := causeIn s₂.heap a (.ref b) } := by
    intro Q' hq
    simp only [isType, loadHead]
    refine wpAny_bind (wpAny_loadPart ha4 ?_)
    rw [hd4]; exact wpAny_pure hq
  have rest : wpAny M A (do
      let b ← isType (.ref a)
      if b = true then do
        let e ← holding [.ref a] (raisedFor (.ref a) (.ref a))
        setFlight e none
        raiseNew e
      else do
        let e ← raisedInstance (.ref a)
        setFlight e none
        raiseNew e : Sem Flow) Q E { s₂ with heap := causeIn s₂.heap a (.ref b) } := by
    refine wpAny_bind (hnt4 ?_)
    simp only [Bool.false_eq_true, if_false]
    unfold raisedInstance
    refine wpAny_bind (wpAny_bind (LT4.here (wpAny_bind (L3.here ?_))))
    rw [if_pos (beq_self_eq_true _)]
    refine wpAny_pure ?_
    unfold setFlight raiseNew
    refine wpAny_bind (wpAny_bind (wpAny_field ha4 hd4 h14 ?_))
    rw [if_neg (by decide)]
    refine wpAny_pure (wpAny_bind (wpAny_handled ?_))
    rw [hh]
    first
      | exact wpAny_throw hE
      | exact wpAny_bind (wpAny_pure (wpAny_throw hE))
  refine wpAny_bind (wpAny_pure ?_)
  dsimp only
  refine wpAny_bind (wpAny_holding ?_)
  unfold excFromValue isExcClass
  refine wpAny_bind (wpAny_bind (hnt ?_))
  simp only [Bool.false_eq_true, if_false]
  refine wpAny_pure ?_
  simp only [Bool.false_eq_true, if_false]
  refine wpAny_bind (LI.here ?_)
  simp only [if_true]
  refine wpAny_pure ?_
  rw [if_neg (show ¬ ((Value.ref b == Value.none) = true) from Bool.false_ne_true)]
  refine wpAny_bind (wpAny_holding ?_)
  refine wpAny_bind (wpAny_bind (hntb ?_))
  simp only [Bool.false_eq_true, if_false]
  refine wpAny_pure ?_
  simp only [Bool.false_eq_true, if_false]
  refine wpAny_bind (LIb.here ?_)
  simp only [if_true]
  refine wpAny_pure ?_
  refine wpAny_bind (wpAny_setField ha hd s3 (wpAny_bind (wpAny_setField ha3 hd3 s4 ?_)))
  exact rest
/-- raise X(..) from Y(..) -/
theorem ps_raiseFrom {X : Cx} {W : WX} {e c : Expr} {t : St → Hp → XK → Prop} {tc : St → Prop} {pos : Pos} (hc : X.calm = true) (tk : Takes X W) (he : PMk6 X e t) (hcs : Caus X c tc) :
    PS X (.Raise (some e) (some c) pos) (fun _ σ H => tc σ ∧ t σ H fun cls d H' => W cls d σ H') := by
  refine ⟨fun pins s σ H D I h => ?_⟩
  obtain ⟨h0, h⟩ := h
  show wpAny _ _ (do standAt pos; raiseStmt X.env (some (do let v ← eval e X.env; standAt pos; pure v)) (some (do let v ← eval c X.env; standAt pos; pure v))) _ _ _
  refine wpAny_bind (wpAny_standAt (raise_made_from (I.ok.hd hc) (wpAny_bind (wpAny_mono (he pins s σ H _ I h) (fun u s1 hu => wpAny_bind (wpAny_standAt (wpAny_pure ?_))) fun _ _ x => x))))
  obtain ⟨⟨a, oe, vs, sI, H', cls, d, rfl, J, k, hne, ha, hz, hd, h1, na, os, ag, r, q⟩, h5⟩ := hu
  have hi : 4 < vs.size := h5 a oe vs rfl ha hd
  have J1 : Inv X pins σ H' s1 := by
    obtain ⟨hh, g, dr, tk', os'⟩ := s1
    obtain rfl : os' = sI.os := os
    exact J.call (h' := hh) (g' := g) (t' := tk') (d' := dr) (ch := []) (Un.kept k) (J.hok.kept k) ag (fun b z => absurd z (by simp))
  refine wpAny_bind (wpAny_mono (hcs pins s1 σ H' (fun cv s2 => ∃ a' oe' vs' cls' b ob cls2 ws, Value.ref a = .ref a' ∧ cv = .ref b ∧ s2.heap.get? a' = some oe' ∧ oe'.cls = cls' ∧ oe'.data = .fields vs' ∧ vs'[1]? = some .none ∧ 4 < vs'.size ∧
      s2.heap.get? b = some ob ∧ ob.cls = cls2 ∧ ob.data = .fields ws ∧
      PySem.W.Looks (model X.prog X.w) s2.heap (isSubtype cls' (.type "BaseException")) true ∧ PySem.W.Looks (model X.prog X.w) (causeIn s2.heap a' cv) (typeOf cls') (.type "type") ∧ PySem.W.Looks (model X.prog X.w) s2.heap (isSubtype cls2 (.type "BaseException")) true ∧ X.xe (.ref a') { s2 with heap := causeIn s2.heap a' cv }) J1 h0 fun h' tk' b ob cls2 ws k2 hb hcl hw r2 => ?_) (fun u s1 hu => wpAny_bind (wpAny_standAt (wpAny_pure hu))) fun _ _ x => x)
  have ha2 := k2 _ _ ha
  have kk : ∀ y u, sI.heap.get? y = some u → (causeIn h' a (.ref b)).get? y = some u := fun y u z => by
    have nay : a ≠ y := fun e => by
      rw [← e, hne] at z
      cases z
    rw [causeIn_other nay]
    exact k2 _ _ (k y u z)
  obtain ⟨r3, _⟩ := r (model X.prog X.w) h' (J1.kIn.keeps k2)
  obtain ⟨_, r4⟩ := r (model X.prog X.w) (causeIn h' a (.ref b)) (J.kIn.keeps kk)
  obtain ⟨r5, _⟩ := r2 (model X.prog X.w) h' (J1.kIn.keeps k2)
  obtain ⟨ha4, hd4⟩ := causeIn_at (c := .ref b) ha2 hd
  refine ⟨a, oe, vs, cls, b, ob, cls2, ws, rfl, rfl, ha2, hz.1, hd, h1, hi, hb, hcl, hw, r3, r4, r5, tk _ _ (XE.new (s' := { s1 with heap := causeIn h' a (.ref b), toks := tk' }) J kk hne ha4 ⟨?_, ?_⟩ hd4 (set_other (by decide) (set_other (by decide) h1)) na os ag q)⟩
  · rw [Obj.cls_mapFields, Obj.cls_mapFields]
    exact hz.1
  · rw [HandSPX.dict_mapFields, HandSPX.dict_mapFields]
    exact hz.2
end L2


set_option Elab.async false
set_option linter.all false
set_option maxRecDepth 100000
set_option maxHeartbeats 4000000
/-! The head's facts: names, defs, defs over a cell, and a row of Bools. -/
namespace HkK
open PySem PySem.Spec PyProof.Rows L2 He
/-- a def that closes over one cell -/
abbrev FnC : Type := Option (Str × Str × Arguments × FuncBody × Scope × Addr × Addr)
def fnC (K : PySem.W.Frag) (p : Str × Option Str) : FnC := match K.lookup (fAd K p) with
  | some ⟨_, _, .func fd, _⟩ => some (fd.name, fd.qualname, fd.params, fd.body, fd.scope, fd.globals, fd.builtins)
  | _ => none
def valC (d : DefD) : FnC := some (d.name, d.qual, d.params, .stmts d.body, d.scope, mainGlobals, builtinsNs)
/-- the cell of its closure, its code -/
def cellAd (K : PySem.W.Frag) (p : Str × Option Str) : Addr := match K.lookup (fAd K p) with
  | some ⟨_, _, .func fd, _⟩ => (match fd.closure with
    | (_, c) :: _ => c
    | _ => 0)
  | _ => 0
def codeAd (K : PySem.W.Frag) (p : Str × Option Str) : Addr := match K.lookup (fAd K p) with
  | some ⟨_, _, .func fd, _⟩ => (match fd.code with
    | .ref c => c
    | _ => 0)
  | _ => 0
def supB (P : Program) (K : PySem.W.Frag) (C f2 : Addr) (p : Str × Option Str) (qual : Str) : Bool :=
  (match K.lookup (fAd K p) with
    | some ⟨_, _, .func fd, _⟩ => (match fd.closure with
      | [(x, c)] => decide (x = "__class__") && ((match fd.code with
        | .ref _ => true
        | _ => false) && ((match fd.defaults with
        | .none => true
        | _ => false) && (match fd.kwdefaults with
        | .ref _ => true
        | _ => false)))
      | _ => false)
    | _ => false) &&
  (PySem.W.codeIn K (.ref (codeAd K p)) qual && ((match K.lookup (codeAd K p) with
    | some ⟨_, _, .fields vs, _⟩ => (match ((vs : Array Value)[2]? : Option Value) with
      | some (.str file _) => ((P.main.file : Str) == file)
      | _ => false)
    | _ => false) && ((match K.lookup (cellAd K p) with
    | some ⟨_, _, .cell (some (.ref D)), _⟩ => decide (D = C)
    | _ => false) && (decide (PySem.W.mroIn K C (.ref C) = some true) && (eqO (PySem.W.ks_superIn K C C "__init__") (some (some (.ref f2))) && (decide (PySem.W.typeIn K (.ref f2) = some (.type "function")) && (PySem.W.fnIn K f2 &&
      (eqO (PySem.W.nsIn K cStatics "thirdparty.any") (some none) && (!(P.main.scope.names.lookup ("super" : Str)).isSome && (PySem.W.clsIn K C).isSome)))))))))
theorem supB_ok {P : Program} {K : PySem.W.Frag} {mg : Str → Option Value} {C f2 : Addr} {d : DefD} (e : fnC K d.at_ = valC d) (h : supB P K C f2 d.at_ d.qual = true) (hs : mg "super" = none) (hn : d.name = "__init__") :
    ∃ fd, SupI.SupTxt P K mg C (fAd K d.at_) f2 (cellAd K d.at_) (codeAd K d.at_) fd d.qual d.params d.body d.scope ∧ ∃ cd, PySem.W.clsIn K C = some cd := by
  obtain ⟨h1, h⟩ := ba h
  obtain ⟨h2, h⟩ := ba h
  obtain ⟨h3, h⟩ := ba h
  obtain ⟨h4, h⟩ := ba h
  obtain ⟨h5, h⟩ := ba h
  obtain ⟨h6, h⟩ := ba h
  obtain ⟨h7, h⟩ := ba h
  obtain ⟨h8, h⟩ := ba h
  obtain ⟨h9, h⟩ := ba h
  obtain ⟨h10, h11⟩ := ba h
  unfold fnC at e
  cases q : K.lookup (fAd K d.at_) with
  | none =>
    rw [q] at h1
    cases h1
  | some o =>
    obtain ⟨oc, od, dt, osl⟩ := o
    rw [q] at h1 e
    cases dt with
    | func fd =>
      obtain ⟨n1, n2, n3, n4, n5, n6, n7, n8, n9, n10, n11, n12, n13, n14, n15⟩ := fd
      have e2 : (some (n1, n2, n3, n4, n5, n6, n15) : FnC) = some (d.name, d.qual, d.params, .stmts d.body, d.scope, mainGlobals, builtinsNs) := e
      simp only [Option.some.injEq, Prod.mk.injEq] at e2
      obtain ⟨e1, e2, e3, e4, e5, e6, e7⟩ := e2
      subst e1 e2 e3 e4 e5 e6 e7
      cases n7 with
      | nil => cases h1
      | cons xc rest =>
        obtain ⟨x, c⟩ := xc
        cases rest with
        | cons _ _ => cases h1
        | nil =>
        obtain ⟨hx, h1'⟩ := ba h1
        obtain ⟨h1a, h1b⟩ := ba h1'
        obtain ⟨h1b, h1c⟩ := ba h1b
        obtain ⟨cda, rfl⟩ : ∃ cda, n13 = Value.ref cda := by
          cases n13 with
          | ref a => exact ⟨a, rfl⟩
          | _ => cases h1a
        obtain rfl : n8 = Value.none := by
          cases n8 with
          | none => rfl
          | _ => cases h1b
        obtain ⟨Dk, rfl⟩ : ∃ Dk, n9 = Value.ref Dk := by
          cases n9 with
          | ref a => exact ⟨a, rfl⟩
          | _ => cases h1c
        have hx' : x = "__class__" := of_decide_eq_true hx
        subst hx'
        have ec : cellAd K d.at_ = c := by
          unfold cellAd
          rw [q]
        have ed : codeAd K d.at_ = cda := by
          unfold codeAd
          rw [q]
        refine ⟨_, ⟨⟨oc, od, n12, Dk, n10, n11, n14, osl, ?_, q⟩, h2, ?_, ?_, of_decide_eq_true h5, hs, eqO_ok h6, of_decide_eq_true h7, h8, eqO_ok h9, by simpa using h10⟩, Option.isSome_iff_exists.mp h11⟩
        · rw [hn, ec, ed]
        · split at h3
          · rename_i a b vs cc hh
            split at h3
            · rename_i file tf hv
              exact ⟨a, b, vs, cc, file, tf, hh, hv, h3⟩
            · cases h3
          · cases h3
        · split at h4
          · rename_i a b D cc hh
            have : D = C := of_decide_eq_true h4
            subst this
            exact ⟨a, b, cc, hh⟩
          · cases h4
    | _ => cases h1
/-- an exception class of the program, its __init__ -/
def excB (K : PySem.W.Frag) (C : Addr) : Bool := match K.lookup C with
  | some ⟨.type "type", _, .cls cd, sl⟩ => (match cd.mro, sl.toList with
    | .ref C' :: bm, [_, _, _, _, some (.builtin n), _] => decide (C' = C) && (decide (n = "ValueError.__new__") && (!cd.hasDel && (cd.hasDict && PySem.HandSPX.refsVE bm)))
    | _, _ => false)
  | _ => false
theorem excB_ok {K : PySem.W.Frag} {C : Addr} (h : excB K C = true) : ∃ nm q N bs bm sn sub ab col dd k0 k1 k2 k3 k5, K.lookup C = some (excClassObj nm q C N bs bm true sn sub ab col dd k0 k1 k2 k3 k5 "ValueError.__new__") ∧ PySem.HandSPX.refsVE bm = true := by
  unfold excB at h
  split at h
  · rename_i dd cd sl ho
    split at h
    · rename_i C' bm k0 k1 k2 k3 n k5 hm hs
      obtain ⟨h1, h⟩ := ba h
      obtain ⟨h2, h⟩ := ba h
      obtain ⟨h3, h⟩ := ba h
      obtain ⟨h4, h5⟩ := ba h
      have e1 : C' = C := of_decide_eq_true h1
      have e2 : n = "ValueError.__new__" := of_decide_eq_true h2
      subst e1 e2
      obtain ⟨nm, bs, mro, ns, qn, hd, sn, sb, ab, col, del⟩ := cd
      dsimp only at hm h3 h4
      subst hm
      have e3 : del = false := by simpa using h3
      subst e3 h4
      have e4 : sl = #[k0, k1, k2, k3, some (.builtin "ValueError.__new__"), k5] := by
        apply Array.ext'
        simpa using hs
      subst e4
      exact ⟨nm, qn, ns, bs, bm, sn, sb, ab, col, dd, k0, k1, k2, k3, k5, ho, h5⟩
    · cases h
  · cases h
/-! ### the Hook -/
abbrev AlK : Type := AlD × List FnC × Bool
def obsK (fa : List Fa) (fn fc : List DefD) (ex : PySem.W.Frag → List Bool) (K : PySem.W.Frag) : AlK := (obsD fa fn K, fc.map (fun d => fnC K d.at_), (ex K).all id)
def valK (fn fc : List DefD) : AlK := (valD fn, fc.map valC, true)
def frK (n : Nat) (g : Addr → Option Obj) : PySem.W.Frag := frG g (asD g n ++ [cStatics])
def hookK (n : Nat) (fa : List Fa) (fn fc : List DefD) (ex : PySem.W.Frag → List Bool) : PySem.W.Hook where
  α := AlK
  obs := fun s => obsK fa fn fc ex (frK n s.heap.get?)
  val := fun _ => valK fn fc
  says := fun _ h => ∃ K : PySem.W.Frag, K.In h ∧ obsK fa fn fc ex K = valK fn fc
  of := fun _ _ e => ⟨_, frG_in, e⟩
  keeps := fun _ _ _ ⟨K, hK, c⟩ k => ⟨K, PySem.W.Frag.In.keeps hK k, c⟩
theorem obsK_eq {n : Nat} {fa : List Fa} {fn fc : List DefD} {ex : PySem.W.Frag → List Bool} {g : Addr → Option Obj} {s : Shared} (h : ∀ a, g a = s.heap.get? a) : obsK fa fn fc ex (frK n g) = (hookK n fa fn fc ex).obs s := by
  have e : g = s.heap.get? := funext h
  rw [e] <;> rfl
section
variable {fa : List Fa} {fn fc : List DefD} {ex : PySem.W.Frag → List Bool} {K : PySem.W.Frag}
theorem saysD_of (c : obsK fa fn fc ex K = valK fn fc) : SaysD fa fn K := congrArg (fun z : AlK => z.1) c
theorem says_ex (c : obsK fa fn fc ex K = valK fn fc) (i : Nat) {b : Bool} (h : (ex K)[i]? = some b) : b = true := by
  have e : (ex K).all id = true := congrArg (fun z : AlK => z.2.2) c
  exact List.all_eq_true.mp e b (List.mem_of_getElem? h)
theorem says_fc (c : obsK fa fn fc ex K = valK fn fc) (i : Nat) {d : DefD} (h : fc[i]? = some d) : fnC K d.at_ = valC d := by
  have e : fc.map (fun d => fnC K d.at_) = fc.map valC := congrArg (fun z : AlK => z.2.1) c
  have e2 : (fc.map fun d => fnC K d.at_)[i]? = (fc.map valC)[i]? := by rw [e]
  rw [List.getElem?_map, List.getElem?_map, h] at e2
  exact Option.some.inj e2
end
end HkK


set_option Elab.async false
set_option linter.all false
set_option maxRecDepth 100000
set_option maxHeartbeats 4000000
/-! The head's facts, widened by the getters of properties. -/
namespace HkQ
open PySem PySem.Spec PyProof.Rows L2 He HkK
def gAd (K : PySem.W.Frag) (p : Str × Option Str) : Addr := match PySem.W.recIn K (fAd K p) "property" with
  | some (.ref g :: _) => g
  | _ => 0
def fnG (K : PySem.W.Frag) (p : Str × Option Str) : FnV := match K.lookup (gAd K p) with
  | some ⟨_, _, .func fd, _⟩ => some (fd.name, fd.qualname, fd.params, fd.body, fd.scope, fd.globals, fd.closure, fd.defaults, fd.builtins)
  | _ => none
def valG (d : DefD) : FnV := some (d.name, d.qual, d.params, .stmts d.body, d.scope, mainGlobals, [], .none, builtinsNs)
def codeG (K : PySem.W.Frag) (p : Str × Option Str) (q : Str) : Bool := (match K.lookup (gAd K p) with
    | some ⟨_, _, .func fd, _⟩ => PySem.W.codeIn K fd.code q
    | _ => false) && PySem.W.keepIn K (.ref (gAd K p))
theorem fnG_ok {K : PySem.W.Frag} {d : DefD} (e : fnG K d.at_ = valG d) (c : codeG K d.at_ d.qual = true) : ∃ fd, FunD K d.name d.qual d.params d.body d.scope [] [] (gAd K d.at_) fd := by
  obtain ⟨c2, c3⟩ := ba c
  unfold fnG at e
  cases q : K.lookup (gAd K d.at_) with
  | none =>
    rw [q] at c2
    cases c2
  | some o =>
    obtain ⟨oc, od, dt, osl⟩ := o
    rw [q] at c2 e
    cases dt with
    | func fd =>
      obtain ⟨n1, n2, n3, n4, n5, n6, n7, n8, n9, n10, n11, n12, n13, n14, n15⟩ := fd
      have e2 : (some (n1, n2, n3, n4, n5, n6, n7, n8, n15) : FnV) = some (d.name, d.qual, d.params, .stmts d.body, d.scope, mainGlobals, [], .none, builtinsNs) := e
      simp only [Option.some.injEq, Prod.mk.injEq] at e2
      obtain ⟨h1, h2, h3, h4, h5, h6, h7, h8, h9⟩ := e2
      subst h1 h2 h3 h4 h5 h6 h7 h8 h9
      exact ⟨_, ⟨oc, od, .none, n9, n10, n11, n12, n13, n14, osl, rfl, q, c2, .inl ⟨rfl, rfl⟩, .inl rfl⟩, c3⟩
    | _ => cases c2
def prB (K : PySem.W.Frag) (C : Addr) (f : Str) (p g : Addr) : Bool :=
  eqO (PySem.W.findIn K (.ref C) f) (some (some (.ref p))) && (eqO (PySem.W.specialIn K (.ref p) "__get__") (some (some (.builtin "property.__get__"))) && (decide (PySem.W.takesIn K (.ref p) = some true) && (match PySem.W.recIn K p "property" with
    | some (.ref g' :: _) => decide (g' = g)
    | _ => false)))
theorem prB_ok {K : PySem.W.Frag} {C : Addr} {f : Str} {p g : Addr} (h : prB K C f p g = true) : PropOf K C f p g := by
  obtain ⟨h1, h⟩ := ba h
  obtain ⟨h2, h⟩ := ba h
  obtain ⟨h3, h4⟩ := ba h
  refine ⟨eqO_ok h1, eqO_ok h2, of_decide_eq_true h3, ?_⟩
  split at h4
  · rename_i g' r q
    have e : g' = g := of_decide_eq_true h4
    exact ⟨r, by rw [q, e]⟩
  · cases h4
abbrev AlQ : Type := AlK × List FnV
def obsQ (fa : List Fa) (fn fc fg : List DefD) (ex : PySem.W.Frag → List Bool) (K : PySem.W.Frag) : AlQ := (obsK fa fn fc ex K, fg.map (fun d => fnG K d.at_))
def valQ (fn fc fg : List DefD) : AlQ := (valK fn fc, fg.map valG)
def hookQ (n : Nat) (fa : List Fa) (fn fc fg : List DefD) (ex : PySem.W.Frag → List Bool) : PySem.W.Hook where
  α := AlQ
  obs := fun s => obsQ fa fn fc fg ex (frK n s.heap.get?)
  val := fun _ => valQ fn fc fg
  says := fun _ h => ∃ K : PySem.W.Frag, K.In h ∧ obsQ fa fn fc fg ex K = valQ fn fc fg
  of := fun _ _ e => ⟨_, frG_in, e⟩
  keeps := fun _ _ _ ⟨K, hK, c⟩ k => ⟨K, PySem.W.Frag.In.keeps hK k, c⟩
theorem obsQ_eq {n : Nat} {fa : List Fa} {fn fc fg : List DefD} {ex : PySem.W.Frag → List Bool} {g : Addr → Option Obj} {s : Shared} (h : ∀ a, g a = s.heap.get? a) : obsQ fa fn fc fg ex (frK n g) = (hookQ n fa fn fc fg ex).obs s := by
  have e : g = s.heap.get? := funext h
  rw [e] <;> rfl
section
variable {fa : List Fa} {fn fc fg : List DefD} {ex : PySem.W.Frag → List Bool} {K : PySem.W.Frag}
theorem saysK (c : obsQ fa fn fc fg ex K = valQ fn fc fg) : obsK fa fn fc ex K = valK fn fc := congrArg (fun z : AlQ => z.1) c
theorem says_fg (c : obsQ fa fn fc fg ex K = valQ fn fc fg) (i : Nat) {d : DefD} (h : fg[i]? = some d) : fnG K d.at_ = valG d := by
  have e : fg.map (fun d => fnG K d.at_) = fg.map valG := congrArg (fun z : AlQ => z.2) c
  have e2 : (fg.map fun d => fnG K d.at_)[i]? = (fg.map valG)[i]? := by rw [e]
  rw [List.getElem?_map, List.getElem?_map, h] at e2
  exact Option.some.inj e2
end
end HkQ


set_option Elab.async false
set_option linter.all false
set_option maxRecDepth 100000
set_option maxHeartbeats 4000000
namespace K03
open PySem PySem.Spec PyProof.Rows L2
def top (i : Nat) : Stmt := PySem.Challenge.pw_keptparts_k03_two_stocks_made_even.main.body.getD i (.Pass ⟨0, 0, 0, 0⟩)
abbrev s__wall : Stmt := top 0
abbrev s_BadNumber___init__ : Stmt := inClass (top 3) 0
abbrev s_BadRun___init__ : Stmt := inClass (top 4) 0
abbrev s_BadSet___init__ : Stmt := inClass (top 5) 0
abbrev s_BadDemand___init__ : Stmt := inClass (top 6) 0
abbrev s_NotJoin___init__ : Stmt := inClass (top 7) 0
abbrev s_is_whole : Stmt := top 9
abbrev s_is_within : Stmt := top 10
abbrev s_is_count : Stmt := top 11
abbrev s_is_row : Stmt := top 12
abbrev s_is_pair : Stmt := top 13
abbrev s_is_run : Stmt := top 14
abbrev s_first_wrong : Stmt := top 15
abbrev s_set_of : Stmt := top 17
abbrev s_both : Stmt := top 18
abbrev s_common : Stmt := top 19
abbrev s_minus : Stmt := top 20
abbrev s_Market___init__ : Stmt := inClass (top 23) 1
abbrev s_Market_many : Stmt := inClass (top 23) 2
abbrev s_Market_there : Stmt := inClass (top 23) 3
abbrev s_Market_run_of : Stmt := inClass (top 23) 4
abbrev s_Market_parts_over : Stmt := inClass (top 23) 5
abbrev s_Market___len__ : Stmt := inClass (top 23) 6
abbrev s_Market___iter__ : Stmt := inClass (top 23) 7
abbrev s_Market___contains__ : Stmt := inClass (top 23) 8
abbrev s_Market___eq__ : Stmt := inClass (top 23) 9
abbrev s_Join___init__ : Stmt := inClass (top 24) 1
abbrev s_Join_lose : Stmt := inClass (top 24) 2
abbrev s_Join_keep : Stmt := inClass (top 24) 3
abbrev s_Join_and_run : Stmt := inClass (top 24) 4
abbrev s_Join___sub__ : Stmt := inClass (top 24) 5
abbrev s_Join___add__ : Stmt := inClass (top 24) 6
abbrev s_Join___or__ : Stmt := inClass (top 24) 7
abbrev s_Join___invert__ : Stmt := inClass (top 24) 8
abbrev s_Join___mul__ : Stmt := inClass (top 24) 9
abbrev s_Lap___init__ : Stmt := inClass (top 25) 1
abbrev s_Lap_lose : Stmt := inClass (top 25) 2
abbrev s_Lap_keep : Stmt := inClass (top 25) 3
abbrev s_Lap_and_run : Stmt := inClass (top 25) 4
abbrev s_Lap___sub__ : Stmt := inClass (top 25) 5
abbrev s_Lap___add__ : Stmt := inClass (top 25) 6
abbrev s_Lap___or__ : Stmt := inClass (top 25) 7
abbrev s_Lap___invert__ : Stmt := inClass (top 25) 8
abbrev s_Lap___mul__ : Stmt := inClass (top 25) 9
abbrev s_checked_runs : Stmt := top 26
abbrev s_gone_after : Stmt := top 27
abbrev s_end_to_end_shape : Stmt := top 28
abbrev s_beside_shape : Stmt := top 29
abbrev s_joined_gone : Stmt := top 30
abbrev s_turned_runs : Stmt := top 31
abbrev s_repeated_parts : Stmt := top 32
abbrev s_check_times : Stmt := top 33
abbrev s_is_lap : Stmt := top 34
abbrev s_check_join : Stmt := top 35
abbrev s_check_run : Stmt := top 36
abbrev s_demand_of : Stmt := top 38
abbrev s_covered : Stmt := top 39
abbrev s_fits_place : Stmt := top 40
abbrev s_wrong_place : Stmt := top 41
abbrev s_is_stock_of : Stmt := top 42
abbrev s_is_stock : Stmt := top 43
abbrev s_changed : Stmt := top 44
abbrev s_halved : Stmt := top 46
abbrev s_partners : Stmt := top 47
abbrev s_sides_of : Stmt := top 48
abbrev s_remade : Stmt := top 49
abbrev s__law_draws : Stmt := top 51
abbrev s__law_take : Stmt := top 52
abbrev s__law_int : Stmt := top 53
abbrev s__law_set : Stmt := top 54
abbrev s__law_chains : Stmt := top 55
abbrev s__law_special : Stmt := top 56
abbrev s__law_market : Stmt := top 57
abbrev s__law_built : Stmt := top 58
abbrev s__law_kind : Stmt := top 59
abbrev s__law_run : Stmt := top 60
abbrev s__law_parts : Stmt := top 61
abbrev s__law_cover : Stmt := top 62
abbrev s__law_remade_right : Stmt := top 63
abbrev s__law_refused : Stmt := top 64
abbrev s__law_chain : Stmt := top 65
abbrev s__law_two_stocks : Stmt := top 66
abbrev s_law : Stmt := top 67
/-- the keyword-only default x of the def at f, if it is an object -/
def kwA (f : Str × Option Str) (x : Str) (K : PySem.W.Frag) : Addr := match K.lookup (He.fAd K f) with
  | some ⟨_, _, .func fd, _⟩ => (match fd.kwdefaults with
    | .ref D => (match PySem.W.nsIn K D x with
      | some (some (.ref a)) => a
      | _ => 0)
    | _ => 0)
  | _ => 0
def d__wall : He.DefD := ⟨("_wall", none), "_wall", "_wall", defArgs s__wall, defBody s__wall, defScope s__wall, [], []⟩
def d_BadNumber___init__ : He.DefD := ⟨("BadNumber", some "__init__"), "__init__", "BadNumber.__init__", defArgs s_BadNumber___init__, defBody s_BadNumber___init__, defScope s_BadNumber___init__, [], []⟩
def d_BadRun___init__ : He.DefD := ⟨("BadRun", some "__init__"), "__init__", "BadRun.__init__", defArgs s_BadRun___init__, defBody s_BadRun___init__, defScope s_BadRun___init__, [], []⟩
def d_BadSet___init__ : He.DefD := ⟨("BadSet", some "__init__"), "__init__", "BadSet.__init__", defArgs s_BadSet___init__, defBody s_BadSet___init__, defScope s_BadSet___init__, [], []⟩
def d_BadDemand___init__ : He.DefD := ⟨("BadDemand", some "__init__"), "__init__", "BadDemand.__init__", defArgs s_BadDemand___init__, defBody s_BadDemand___init__, defScope s_BadDemand___init__, [], []⟩
def d_NotJoin___init__ : He.DefD := ⟨("NotJoin", some "__init__"), "__init__", "NotJoin.__init__", defArgs s_NotJoin___init__, defBody s_NotJoin___init__, defScope s_NotJoin___init__, [], []⟩
def d_is_whole : He.DefD := ⟨("is_whole", none), "is_whole", "is_whole", defArgs s_is_whole, defBody s_is_whole, defScope s_is_whole, [], []⟩
def d_is_within : He.DefD := ⟨("is_within", none), "is_within", "is_within", defArgs s_is_within, defBody s_is_within, defScope s_is_within, [], []⟩
def d_is_count : He.DefD := ⟨("is_count", none), "is_count", "is_count", defArgs s_is_count, defBody s_is_count, defScope s_is_count, [], []⟩
def d_is_row : He.DefD := ⟨("is_row", none), "is_row", "is_row", defArgs s_is_row, defBody s_is_row, defScope s_is_row, [], []⟩
def d_is_pair : He.DefD := ⟨("is_pair", none), "is_pair", "is_pair", defArgs s_is_pair, defBody s_is_pair, defScope s_is_pair, [], []⟩
def d_is_run : He.DefD := ⟨("is_run", none), "is_run", "is_run", defArgs s_is_run, defBody s_is_run, defScope s_is_run, [], []⟩
def d_first_wrong : He.DefD := ⟨("first_wrong", none), "first_wrong", "first_wrong", defArgs s_first_wrong, defBody s_first_wrong, defScope s_first_wrong, [], []⟩
def d_set_of : He.DefD := ⟨("set_of", none), "set_of", "set_of", defArgs s_set_of, defBody s_set_of, defScope s_set_of, [], []⟩
def d_both : He.DefD := ⟨("both", none), "both", "both", defArgs s_both, defBody s_both, defScope s_both, [], []⟩
def d_common : He.DefD := ⟨("common", none), "common", "common", defArgs s_common, defBody s_common, defScope s_common, [], []⟩
def d_minus : He.DefD := ⟨("minus", none), "minus", "minus", defArgs s_minus, defBody s_minus, defScope s_minus, [], []⟩
def d_Market___init__ : He.DefD := ⟨("Market", some "__init__"), "__init__", "Market.__init__", defArgs s_Market___init__, defBody s_Market___init__, defScope s_Market___init__, [], [("gone", .adr (kwA (("Market", some "__init__")) "gone"))]⟩
def d_Market_many : He.DefD := ⟨("Market", some "many"), "many", "Market.many", defArgs s_Market_many, defBody s_Market_many, defScope s_Market_many, [], []⟩
def d_Market_there : He.DefD := ⟨("Market", some "there"), "there", "Market.there", defArgs s_Market_there, defBody s_Market_there, defScope s_Market_there, [], []⟩
def d_Market_run_of : He.DefD := ⟨("Market", some "run_of"), "run_of", "Market.run_of", defArgs s_Market_run_of, defBody s_Market_run_of, defScope s_Market_run_of, [], []⟩
def d_Market_parts_over : He.DefD := ⟨("Market", some "parts_over"), "parts_over", "Market.parts_over", defArgs s_Market_parts_over, defBody s_Market_parts_over, defScope s_Market_parts_over, [], []⟩
def d_Market___len__ : He.DefD := ⟨("Market", some "__len__"), "__len__", "Market.__len__", defArgs s_Market___len__, defBody s_Market___len__, defScope s_Market___len__, [], []⟩
def d_Market___iter__ : He.DefD := ⟨("Market", some "__iter__"), "__iter__", "Market.__iter__", defArgs s_Market___iter__, defBody s_Market___iter__, defScope s_Market___iter__, [], []⟩
def d_Market___contains__ : He.DefD := ⟨("Market", some "__contains__"), "__contains__", "Market.__contains__", defArgs s_Market___contains__, defBody s_Market___contains__, defScope s_Market___contains__, [], []⟩
def d_Market___eq__ : He.DefD := ⟨("Market", some "__eq__"), "__eq__", "Market.__eq__", defArgs s_Market___eq__, defBody s_Market___eq__, defScope s_Market___eq__, [], []⟩
def d_Join___init__ : He.DefD := ⟨("Join", some "__init__"), "__init__", "Join.__init__", defArgs s_Join___init__, defBody s_Join___init__, defScope s_Join___init__, [], [("gone", .adr (kwA (("Join", some "__init__")) "gone"))]⟩
def d_Join_lose : He.DefD := ⟨("Join", some "lose"), "lose", "Join.lose", defArgs s_Join_lose, defBody s_Join_lose, defScope s_Join_lose, [], []⟩
def d_Join_keep : He.DefD := ⟨("Join", some "keep"), "keep", "Join.keep", defArgs s_Join_keep, defBody s_Join_keep, defScope s_Join_keep, [], []⟩
def d_Join_and_run : He.DefD := ⟨("Join", some "and_run"), "and_run", "Join.and_run", defArgs s_Join_and_run, defBody s_Join_and_run, defScope s_Join_and_run, [], []⟩
def d_Join___sub__ : He.DefD := ⟨("Join", some "__sub__"), "__sub__", "Join.__sub__", defArgs s_Join___sub__, defBody s_Join___sub__, defScope s_Join___sub__, [], []⟩
def d_Join___add__ : He.DefD := ⟨("Join", some "__add__"), "__add__", "Join.__add__", defArgs s_Join___add__, defBody s_Join___add__, defScope s_Join___add__, [], []⟩
def d_Join___or__ : He.DefD := ⟨("Join", some "__or__"), "__or__", "Join.__or__", defArgs s_Join___or__, defBody s_Join___or__, defScope s_Join___or__, [], []⟩
def d_Join___invert__ : He.DefD := ⟨("Join", some "__invert__"), "__invert__", "Join.__invert__", defArgs s_Join___invert__, defBody s_Join___invert__, defScope s_Join___invert__, [], []⟩
def d_Join___mul__ : He.DefD := ⟨("Join", some "__mul__"), "__mul__", "Join.__mul__", defArgs s_Join___mul__, defBody s_Join___mul__, defScope s_Join___mul__, [], []⟩
def d_Lap___init__ : He.DefD := ⟨("Lap", some "__init__"), "__init__", "Lap.__init__", defArgs s_Lap___init__, defBody s_Lap___init__, defScope s_Lap___init__, [], [("gone", .adr (kwA (("Lap", some "__init__")) "gone"))]⟩
def d_Lap_lose : He.DefD := ⟨("Lap", some "lose"), "lose", "Lap.lose", defArgs s_Lap_lose, defBody s_Lap_lose, defScope s_Lap_lose, [], []⟩
def d_Lap_keep : He.DefD := ⟨("Lap", some "keep"), "keep", "Lap.keep", defArgs s_Lap_keep, defBody s_Lap_keep, defScope s_Lap_keep, [], []⟩
def d_Lap_and_run : He.DefD := ⟨("Lap", some "and_run"), "and_run", "Lap.and_run", defArgs s_Lap_and_run, defBody s_Lap_and_run, defScope s_Lap_and_run, [], []⟩
def d_Lap___sub__ : He.DefD := ⟨("Lap", some "__sub__"), "__sub__", "Lap.__sub__", defArgs s_Lap___sub__, defBody s_Lap___sub__, defScope s_Lap___sub__, [], []⟩
def d_Lap___add__ : He.DefD := ⟨("Lap", some "__add__"), "__add__", "Lap.__add__", defArgs s_Lap___add__, defBody s_Lap___add__, defScope s_Lap___add__, [], []⟩
def d_Lap___or__ : He.DefD := ⟨("Lap", some "__or__"), "__or__", "Lap.__or__", defArgs s_Lap___or__, defBody s_Lap___or__, defScope s_Lap___or__, [], []⟩
def d_Lap___invert__ : He.DefD := ⟨("Lap", some "__invert__"), "__invert__", "Lap.__invert__", defArgs s_Lap___invert__, defBody s_Lap___invert__, defScope s_Lap___invert__, [], []⟩
def d_Lap___mul__ : He.DefD := ⟨("Lap", some "__mul__"), "__mul__", "Lap.__mul__", defArgs s_Lap___mul__, defBody s_Lap___mul__, defScope s_Lap___mul__, [], []⟩
def d_checked_runs : He.DefD := ⟨("checked_runs", none), "checked_runs", "checked_runs", defArgs s_checked_runs, defBody s_checked_runs, defScope s_checked_runs, [], []⟩
def d_gone_after : He.DefD := ⟨("gone_after", none), "gone_after", "gone_after", defArgs s_gone_after, defBody s_gone_after, defScope s_gone_after, [], []⟩
def d_end_to_end_shape : He.DefD := ⟨("end_to_end_shape", none), "end_to_end_shape", "end_to_end_shape", defArgs s_end_to_end_shape, defBody s_end_to_end_shape, defScope s_end_to_end_shape, [], []⟩
def d_beside_shape : He.DefD := ⟨("beside_shape", none), "beside_shape", "beside_shape", defArgs s_beside_shape, defBody s_beside_shape, defScope s_beside_shape, [], []⟩
def d_joined_gone : He.DefD := ⟨("joined_gone", none), "joined_gone", "joined_gone", defArgs s_joined_gone, defBody s_joined_gone, defScope s_joined_gone, [], []⟩
def d_turned_runs : He.DefD := ⟨("turned_runs", none), "turned_runs", "turned_runs", defArgs s_turned_runs, defBody s_turned_runs, defScope s_turned_runs, [], []⟩
def d_repeated_parts : He.DefD := ⟨("repeated_parts", none), "repeated_parts", "repeated_parts", defArgs s_repeated_parts, defBody s_repeated_parts, defScope s_repeated_parts, [], []⟩
def d_check_times : He.DefD := ⟨("check_times", none), "check_times", "check_times", defArgs s_check_times, defBody s_check_times, defScope s_check_times, [], []⟩
def d_is_lap : He.DefD := ⟨("is_lap", none), "is_lap", "is_lap", defArgs s_is_lap, defBody s_is_lap, defScope s_is_lap, [], []⟩
def d_check_join : He.DefD := ⟨("check_join", none), "check_join", "check_join", defArgs s_check_join, defBody s_check_join, defScope s_check_join, [], []⟩
def d_check_run : He.DefD := ⟨("check_run", none), "check_run", "check_run", defArgs s_check_run, defBody s_check_run, defScope s_check_run, [], []⟩
def d_demand_of : He.DefD := ⟨("demand_of", none), "demand_of", "demand_of", defArgs s_demand_of, defBody s_demand_of, defScope s_demand_of, [], []⟩
def d_covered : He.DefD := ⟨("covered", none), "covered", "covered", defArgs s_covered, defBody s_covered, defScope s_covered, [], []⟩
def d_fits_place : He.DefD := ⟨("fits_place", none), "fits_place", "fits_place", defArgs s_fits_place, defBody s_fits_place, defScope s_fits_place, [], []⟩
def d_wrong_place : He.DefD := ⟨("wrong_place", none), "wrong_place", "wrong_place", defArgs s_wrong_place, defBody s_wrong_place, defScope s_wrong_place, [], []⟩
def d_is_stock_of : He.DefD := ⟨("is_stock_of", none), "is_stock_of", "is_stock_of", defArgs s_is_stock_of, defBody s_is_stock_of, defScope s_is_stock_of, [], []⟩
def d_is_stock : He.DefD := ⟨("is_stock", none), "is_stock", "is_stock", defArgs s_is_stock, defBody s_is_stock, defScope s_is_stock, [], []⟩
def d_changed : He.DefD := ⟨("changed", none), "changed", "changed", defArgs s_changed, defBody s_changed, defScope s_changed, [], []⟩
def d_halved : He.DefD := ⟨("halved", none), "halved", "halved", defArgs s_halved, defBody s_halved, defScope s_halved, [], []⟩
def d_partners : He.DefD := ⟨("partners", none), "partners", "partners", defArgs s_partners, defBody s_partners, defScope s_partners, [], []⟩
def d_sides_of : He.DefD := ⟨("sides_of", none), "sides_of", "sides_of", defArgs s_sides_of, defBody s_sides_of, defScope s_sides_of, [], []⟩
def d_remade : He.DefD := ⟨("remade", none), "remade", "remade", defArgs s_remade, defBody s_remade, defScope s_remade, [], []⟩
def d__law_draws : He.DefD := ⟨("_law_draws", none), "_law_draws", "_law_draws", defArgs s__law_draws, defBody s__law_draws, defScope s__law_draws, [], []⟩
def d__law_take : He.DefD := ⟨("_law_take", none), "_law_take", "_law_take", defArgs s__law_take, defBody s__law_take, defScope s__law_take, [], []⟩
def d__law_int : He.DefD := ⟨("_law_int", none), "_law_int", "_law_int", defArgs s__law_int, defBody s__law_int, defScope s__law_int, [], []⟩
def d__law_set : He.DefD := ⟨("_law_set", none), "_law_set", "_law_set", defArgs s__law_set, defBody s__law_set, defScope s__law_set, [], []⟩
def d__law_chains : He.DefD := ⟨("_law_chains", none), "_law_chains", "_law_chains", defArgs s__law_chains, defBody s__law_chains, defScope s__law_chains, [], []⟩
def d__law_special : He.DefD := ⟨("_law_special", none), "_law_special", "_law_special", defArgs s__law_special, defBody s__law_special, defScope s__law_special, [], []⟩
def d__law_market : He.DefD := ⟨("_law_market", none), "_law_market", "_law_market", defArgs s__law_market, defBody s__law_market, defScope s__law_market, [], []⟩
def d__law_built : He.DefD := ⟨("_law_built", none), "_law_built", "_law_built", defArgs s__law_built, defBody s__law_built, defScope s__law_built, [], []⟩
def d__law_kind : He.DefD := ⟨("_law_kind", none), "_law_kind", "_law_kind", defArgs s__law_kind, defBody s__law_kind, defScope s__law_kind, [], []⟩
def d__law_run : He.DefD := ⟨("_law_run", none), "_law_run", "_law_run", defArgs s__law_run, defBody s__law_run, defScope s__law_run, [], []⟩
def d__law_parts : He.DefD := ⟨("_law_parts", none), "_law_parts", "_law_parts", defArgs s__law_parts, defBody s__law_parts, defScope s__law_parts, [], []⟩
def d__law_cover : He.DefD := ⟨("_law_cover", none), "_law_cover", "_law_cover", defArgs s__law_cover, defBody s__law_cover, defScope s__law_cover, [], []⟩
def d__law_remade_right : He.DefD := ⟨("_law_remade_right", none), "_law_remade_right", "_law_remade_right", defArgs s__law_remade_right, defBody s__law_remade_right, defScope s__law_remade_right, [], []⟩
def d__law_refused : He.DefD := ⟨("_law_refused", none), "_law_refused", "_law_refused", defArgs s__law_refused, defBody s__law_refused, defScope s__law_refused, [], []⟩
def d__law_chain : He.DefD := ⟨("_law_chain", none), "_law_chain", "_law_chain", defArgs s__law_chain, defBody s__law_chain, defScope s__law_chain, [], []⟩
def d__law_two_stocks : He.DefD := ⟨("_law_two_stocks", none), "_law_two_stocks", "_law_two_stocks", defArgs s__law_two_stocks, defBody s__law_two_stocks, defScope s__law_two_stocks, [], []⟩
def d_law : He.DefD := ⟨("law", none), "law", "law", defArgs s_law, defBody s_law, defScope s_law, [], []⟩
end K03


set_option Elab.async false
set_option linter.all false
set_option maxRecDepth 100000
set_option maxHeartbeats 4000000
namespace K03
open PySem PySem.Spec PyProof.Rows L2
abbrev PP : Program := (PySem.Challenge.rw_keptparts_k03_two_stocks_made_even).prog
def fn : List He.DefD := [d_is_whole, d_is_within, d_is_count, d_is_row, d_is_pair, d_is_run, d_first_wrong, d_set_of, d_both, d_common, d_minus, d_Market___init__, d_checked_runs, d_is_lap, d_check_run, d_demand_of, d_covered, d_fits_place, d_wrong_place, d_is_stock_of, d_is_stock, d_changed, d_halved, d_partners, d_sides_of, d_remade, d__law_draws, d__law_take, d__law_int, d__law_set, d__law_chains, d__law_special, d__law_market, d__law_built, d__law_kind, d__law_run, d__law_parts, d__law_cover, d__law_remade_right, d__law_refused, d__law_chain, d__law_two_stocks, d_law, d_BadSet___init__]
def fc : List He.DefD := [d_Join___init__, d_Lap___init__]
def fg : List He.DefD := [d_Market_many]
def fa1 : List He.Fa := [.glo "is_whole", .glo "is_within", .glo "is_count", .glo "is_row", .glo "is_pair", .glo "is_run", .glo "first_wrong", .glo "set_of", .glo "both", .glo "common", .glo "minus", .glo "checked_runs", .glo "is_lap", .glo "check_run", .glo "demand_of", .glo "covered", .glo "fits_place", .glo "wrong_place", .glo "is_stock_of", .glo "is_stock", .glo "changed", .glo "halved", .glo "partners", .glo "sides_of", .glo "remade", .glo "_law_draws", .glo "_law_take", .glo "_law_int", .glo "_law_set", .glo "_law_chains"]
def fa2 : List He.Fa := [.glo "_law_special", .glo "_law_market", .glo "_law_built", .glo "_law_kind", .glo "_law_run", .glo "_law_parts", .glo "_law_cover", .glo "_law_remade_right", .glo "_law_refused", .glo "_law_chain", .glo "_law_two_stocks", .glo "law", .glo "Market", .glo "Join", .glo "Lap", .glo "PartsError", .glo "BadSet", .free "len", .free "isinstance", .free "int", .free "bool", .free "tuple", .free "list", .free "enumerate", .free "range", .free "set", .free "sorted", .free "min", .free "super", .free "zip", .free "any", .free "abs", .int "GREATEST_SIZE" 30, .cls "Join", .mkr "Join", .noat "Join" "size", .noat "Join" "runs", .noat "Join" "gone", .cls "Lap", .mkr "Lap", .noat "Lap" "size", .noat "Lap" "runs", .noat "Lap" "gone", .exm "BadSet" "BadSet" true]
def fa : List He.Fa := fa1 ++ fa2
def ex0 (K : PySem.W.Frag) : List Bool := [HkK.supB PP K (He.ga K "Join") (He.ma K (He.ga K "Market") "__init__") ("Join", some "__init__") "Join.__init__", He.conB K "Join" "KIND" (.str "join"), He.eqO (PySem.W.findIn K (.ref (He.ga K "Join")) "__class__") (some (some (.builtin "object.__class__"))), decide (PySem.W.mroIn K (He.ga K "Join") (.type "object") = some true), HkQ.prB K (He.ga K "Join") "many" (He.ma K (He.ga K "Join") "many") (HkQ.gAd K ("Market", some "many")), HkK.supB PP K (He.ga K "Lap") (He.ma K (He.ga K "Market") "__init__") ("Lap", some "__init__") "Lap.__init__", He.conB K "Lap" "KIND" (.str "lap"), He.eqO (PySem.W.findIn K (.ref (He.ga K "Lap")) "__class__") (some (some (.builtin "object.__class__"))), decide (PySem.W.mroIn K (He.ga K "Lap") (.type "object") = some true), HkQ.prB K (He.ga K "Lap") "many" (He.ma K (He.ga K "Lap") "many") (HkQ.gAd K ("Market", some "many")), HkQ.codeG K d_Market_many.at_ d_Market_many.qual, He.eqO (PySem.W.specialIn K (.builtin "object.__class__") "__get__") (some (some (.builtin "getset_descriptor.__get__")))]
def ex1 (K : PySem.W.Frag) : List Bool := [decide (PySem.W.takesIn K (.builtin "object.__class__") = some true), HkK.excB K (He.ga K "BadSet"), He.eqO (PySem.W.findIn K (.ref (He.ga K "BadSet")) "__setattr__") (some (some (.builtin "object.__setattr__"))), He.eqO (PySem.W.findIn K (.ref (He.ga K "BadSet")) "__getattribute__") (some (some (.builtin "BaseException.__getattribute__"))), He.eqO (PySem.W.findIn K (.ref (He.ga K "BadSet")) "__getattr__") (some none), He.eqO (PySem.W.findIn K (.ref (He.ga K "BadSet")) "place") (some none), He.eqO (PySem.W.findIn K (.ref (He.ga K "BadSet")) "__init__") (some (some (.ref (He.ma K (He.ga K "BadSet") "__init__")))), He.eqO (PySem.W.findIn K (.ref (He.ga K "BadSet")) "__class__") (some (some (.builtin "object.__class__"))), decide (PySem.W.typeIn K (.ref (He.ma K (He.ga K "BadSet") "__init__")) = some (.type "function")), PySem.W.keepIn K (.ref (He.ga K "BadSet")), decide (PySem.W.subIn K (.ref (He.ga K "BadSet")) (.type "BaseException") = some true), decide (PySem.W.typeIn K (.ref (He.ga K "BadSet")) = some (.type "type"))]
def ex2 (K : PySem.W.Frag) : List Bool := [PySem.W.hasDictIn K (He.ga K "BadSet"), decide (PySem.W.mroIn K (He.ga K "BadSet") (.type "object") = some true), decide (PySem.W.kitOne K (.ref (He.ga K "BadSet")) (.ref (He.ga K "PartsError")) = some true)]
def ex (K : PySem.W.Frag) : List Bool := ex0 K ++ ex1 K ++ ex2 K
structure Ctx (K : PySem.W.Frag) (mg : Str → Option Value) : Prop where
  g_is_whole : mg "is_whole" = some (.ref (He.ga K "is_whole"))
  g_is_within : mg "is_within" = some (.ref (He.ga K "is_within"))
  g_is_count : mg "is_count" = some (.ref (He.ga K "is_count"))
  g_is_row : mg "is_row" = some (.ref (He.ga K "is_row"))
  g_is_pair : mg "is_pair" = some (.ref (He.ga K "is_pair"))
  g_is_run : mg "is_run" = some (.ref (He.ga K "is_run"))
  g_first_wrong : mg "first_wrong" = some (.ref (He.ga K "first_wrong"))
  g_set_of : mg "set_of" = some (.ref (He.ga K "set_of"))
  g_both : mg "both" = some (.ref (He.ga K "both"))
  g_common : mg "common" = some (.ref (He.ga K "common"))
  g_minus : mg "minus" = some (.ref (He.ga K "minus"))
  g_checked_runs : mg "checked_runs" = some (.ref (He.ga K "checked_runs"))
  g_is_lap : mg "is_lap" = some (.ref (He.ga K "is_lap"))
  g_check_run : mg "check_run" = some (.ref (He.ga K "check_run"))
  g_demand_of : mg "demand_of" = some (.ref (He.ga K "demand_of"))
  g_covered : mg "covered" = some (.ref (He.ga K "covered"))
  g_fits_place : mg "fits_place" = some (.ref (He.ga K "fits_place"))
  g_wrong_place : mg "wrong_place" = some (.ref (He.ga K "wrong_place"))
  g_is_stock_of : mg "is_stock_of" = some (.ref (He.ga K "is_stock_of"))
  g_is_stock : mg "is_stock" = some (.ref (He.ga K "is_stock"))
  g_changed : mg "changed" = some (.ref (He.ga K "changed"))
  g_halved : mg "halved" = some (.ref (He.ga K "halved"))
  g_partners : mg "partners" = some (.ref (He.ga K "partners"))
  g_sides_of : mg "sides_of" = some (.ref (He.ga K "sides_of"))
  g_remade : mg "remade" = some (.ref (He.ga K "remade"))
  g__law_draws : mg "_law_draws" = some (.ref (He.ga K "_law_draws"))
  g__law_take : mg "_law_take" = some (.ref (He.ga K "_law_take"))
  g__law_int : mg "_law_int" = some (.ref (He.ga K "_law_int"))
  g__law_set : mg "_law_set" = some (.ref (He.ga K "_law_set"))
  g__law_chains : mg "_law_chains" = some (.ref (He.ga K "_law_chains"))
  g__law_special : mg "_law_special" = some (.ref (He.ga K "_law_special"))
  g__law_market : mg "_law_market" = some (.ref (He.ga K "_law_market"))
  g__law_built : mg "_law_built" = some (.ref (He.ga K "_law_built"))
  g__law_kind : mg "_law_kind" = some (.ref (He.ga K "_law_kind"))
  g__law_run : mg "_law_run" = some (.ref (He.ga K "_law_run"))
  g__law_parts : mg "_law_parts" = some (.ref (He.ga K "_law_parts"))
  g__law_cover : mg "_law_cover" = some (.ref (He.ga K "_law_cover"))
  g__law_remade_right : mg "_law_remade_right" = some (.ref (He.ga K "_law_remade_right"))
  g__law_refused : mg "_law_refused" = some (.ref (He.ga K "_law_refused"))
  g__law_chain : mg "_law_chain" = some (.ref (He.ga K "_law_chain"))
  g__law_two_stocks : mg "_law_two_stocks" = some (.ref (He.ga K "_law_two_stocks"))
  g_law : mg "law" = some (.ref (He.ga K "law"))
  g_Market : mg "Market" = some (.ref (He.ga K "Market"))
  g_Join : mg "Join" = some (.ref (He.ga K "Join"))
  g_Lap : mg "Lap" = some (.ref (He.ga K "Lap"))
  g_PartsError : mg "PartsError" = some (.ref (He.ga K "PartsError"))
  g_BadSet : mg "BadSet" = some (.ref (He.ga K "BadSet"))
  b_len : mg "len" = none
  b_isinstance : mg "isinstance" = none
  b_int : mg "int" = none
  b_bool : mg "bool" = none
  b_tuple : mg "tuple" = none
  b_list : mg "list" = none
  b_enumerate : mg "enumerate" = none
  b_range : mg "range" = none
  b_set : mg "set" = none
  b_sorted : mg "sorted" = none
  b_min : mg "min" = none
  b_super : mg "super" = none
  b_zip : mg "zip" = none
  b_any : mg "any" = none
  b_abs : mg "abs" = none
  c_GREATEST_SIZE : ∃ t, mg "GREATEST_SIZE" = some (.int 30 t)
  cl_Join : Cls K (He.ga K "Join")
  mk_Join : Mk K (He.ga K "Join") (He.ma K (He.ga K "Join") "__init__")
  no_Join_size : NoAttr K (He.ga K "Join") "size"
  no_Join_runs : NoAttr K (He.ga K "Join") "runs"
  no_Join_gone : NoAttr K (He.ga K "Join") "gone"
  cl_Lap : Cls K (He.ga K "Lap")
  mk_Lap : Mk K (He.ga K "Lap") (He.ma K (He.ga K "Lap") "__init__")
  no_Lap_size : NoAttr K (He.ga K "Lap") "size"
  no_Lap_runs : NoAttr K (He.ga K "Lap") "runs"
  no_Lap_gone : NoAttr K (He.ga K "Lap") "gone"
  te_BadSet : PySem.W.exmOne K (.ref (He.ga K "BadSet")) (.ref (He.ga K "BadSet")) = some true
  d_is_whole : ∃ fd, FunD K d_is_whole.name d_is_whole.qual d_is_whole.params d_is_whole.body d_is_whole.scope (d_is_whole.dvs K) (d_is_whole.kws K) (He.fAd K d_is_whole.at_) fd
  d_is_within : ∃ fd, FunD K d_is_within.name d_is_within.qual d_is_within.params d_is_within.body d_is_within.scope (d_is_within.dvs K) (d_is_within.kws K) (He.fAd K d_is_within.at_) fd
  d_is_count : ∃ fd, FunD K d_is_count.name d_is_count.qual d_is_count.params d_is_count.body d_is_count.scope (d_is_count.dvs K) (d_is_count.kws K) (He.fAd K d_is_count.at_) fd
  d_is_row : ∃ fd, FunD K d_is_row.name d_is_row.qual d_is_row.params d_is_row.body d_is_row.scope (d_is_row.dvs K) (d_is_row.kws K) (He.fAd K d_is_row.at_) fd
  d_is_pair : ∃ fd, FunD K d_is_pair.name d_is_pair.qual d_is_pair.params d_is_pair.body d_is_pair.scope (d_is_pair.dvs K) (d_is_pair.kws K) (He.fAd K d_is_pair.at_) fd
  d_is_run : ∃ fd, FunD K d_is_run.name d_is_run.qual d_is_run.params d_is_run.body d_is_run.scope (d_is_run.dvs K) (d_is_run.kws K) (He.fAd K d_is_run.at_) fd
  d_first_wrong : ∃ fd, FunD K d_first_wrong.name d_first_wrong.qual d_first_wrong.params d_first_wrong.body d_first_wrong.scope (d_first_wrong.dvs K) (d_first_wrong.kws K) (He.fAd K d_first_wrong.at_) fd
  d_set_of : ∃ fd, FunD K d_set_of.name d_set_of.qual d_set_of.params d_set_of.body d_set_of.scope (d_set_of.dvs K) (d_set_of.kws K) (He.fAd K d_set_of.at_) fd
  d_both : ∃ fd, FunD K d_both.name d_both.qual d_both.params d_both.body d_both.scope (d_both.dvs K) (d_both.kws K) (He.fAd K d_both.at_) fd
  d_common : ∃ fd, FunD K d_common.name d_common.qual d_common.params d_common.body d_common.scope (d_common.dvs K) (d_common.kws K) (He.fAd K d_common.at_) fd
  d_minus : ∃ fd, FunD K d_minus.name d_minus.qual d_minus.params d_minus.body d_minus.scope (d_minus.dvs K) (d_minus.kws K) (He.fAd K d_minus.at_) fd
  d_Market___init__ : ∃ fd, FunD K d_Market___init__.name d_Market___init__.qual d_Market___init__.params d_Market___init__.body d_Market___init__.scope (d_Market___init__.dvs K) (d_Market___init__.kws K) (He.fAd K d_Market___init__.at_) fd
  d_checked_runs : ∃ fd, FunD K d_checked_runs.name d_checked_runs.qual d_checked_runs.params d_checked_runs.body d_checked_runs.scope (d_checked_runs.dvs K) (d_checked_runs.kws K) (He.fAd K d_checked_runs.at_) fd
  d_is_lap : ∃ fd, FunD K d_is_lap.name d_is_lap.qual d_is_lap.params d_is_lap.body d_is_lap.scope (d_is_lap.dvs K) (d_is_lap.kws K) (He.fAd K d_is_lap.at_) fd
  d_check_run : ∃ fd, FunD K d_check_run.name d_check_run.qual d_check_run.params d_check_run.body d_check_run.scope (d_check_run.dvs K) (d_check_run.kws K) (He.fAd K d_check_run.at_) fd
  d_demand_of : ∃ fd, FunD K d_demand_of.name d_demand_of.qual d_demand_of.params d_demand_of.body d_demand_of.scope (d_demand_of.dvs K) (d_demand_of.kws K) (He.fAd K d_demand_of.at_) fd
  d_covered : ∃ fd, FunD K d_covered.name d_covered.qual d_covered.params d_covered.body d_covered.scope (d_covered.dvs K) (d_covered.kws K) (He.fAd K d_covered.at_) fd
  d_fits_place : ∃ fd, FunD K d_fits_place.name d_fits_place.qual d_fits_place.params d_fits_place.body d_fits_place.scope (d_fits_place.dvs K) (d_fits_place.kws K) (He.fAd K d_fits_place.at_) fd
  d_wrong_place : ∃ fd, FunD K d_wrong_place.name d_wrong_place.qual d_wrong_place.params d_wrong_place.body d_wrong_place.scope (d_wrong_place.dvs K) (d_wrong_place.kws K) (He.fAd K d_wrong_place.at_) fd
  d_is_stock_of : ∃ fd, FunD K d_is_stock_of.name d_is_stock_of.qual d_is_stock_of.params d_is_stock_of.body d_is_stock_of.scope (d_is_stock_of.dvs K) (d_is_stock_of.kws K) (He.fAd K d_is_stock_of.at_) fd
  d_is_stock : ∃ fd, FunD K d_is_stock.name d_is_stock.qual d_is_stock.params d_is_stock.body d_is_stock.scope (d_is_stock.dvs K) (d_is_stock.kws K) (He.fAd K d_is_stock.at_) fd
  d_changed : ∃ fd, FunD K d_changed.name d_changed.qual d_changed.params d_changed.body d_changed.scope (d_changed.dvs K) (d_changed.kws K) (He.fAd K d_changed.at_) fd
  d_halved : ∃ fd, FunD K d_halved.name d_halved.qual d_halved.params d_halved.body d_halved.scope (d_halved.dvs K) (d_halved.kws K) (He.fAd K d_halved.at_) fd
  d_partners : ∃ fd, FunD K d_partners.name d_partners.qual d_partners.params d_partners.body d_partners.scope (d_partners.dvs K) (d_partners.kws K) (He.fAd K d_partners.at_) fd
  d_sides_of : ∃ fd, FunD K d_sides_of.name d_sides_of.qual d_sides_of.params d_sides_of.body d_sides_of.scope (d_sides_of.dvs K) (d_sides_of.kws K) (He.fAd K d_sides_of.at_) fd
  d_remade : ∃ fd, FunD K d_remade.name d_remade.qual d_remade.params d_remade.body d_remade.scope (d_remade.dvs K) (d_remade.kws K) (He.fAd K d_remade.at_) fd
  d__law_draws : ∃ fd, FunD K d__law_draws.name d__law_draws.qual d__law_draws.params d__law_draws.body d__law_draws.scope (d__law_draws.dvs K) (d__law_draws.kws K) (He.fAd K d__law_draws.at_) fd
  d__law_take : ∃ fd, FunD K d__law_take.name d__law_take.qual d__law_take.params d__law_take.body d__law_take.scope (d__law_take.dvs K) (d__law_take.kws K) (He.fAd K d__law_take.at_) fd
  d__law_int : ∃ fd, FunD K d__law_int.name d__law_int.qual d__law_int.params d__law_int.body d__law_int.scope (d__law_int.dvs K) (d__law_int.kws K) (He.fAd K d__law_int.at_) fd
  d__law_set : ∃ fd, FunD K d__law_set.name d__law_set.qual d__law_set.params d__law_set.body d__law_set.scope (d__law_set.dvs K) (d__law_set.kws K) (He.fAd K d__law_set.at_) fd
  d__law_chains : ∃ fd, FunD K d__law_chains.name d__law_chains.qual d__law_chains.params d__law_chains.body d__law_chains.scope (d__law_chains.dvs K) (d__law_chains.kws K) (He.fAd K d__law_chains.at_) fd
  d__law_special : ∃ fd, FunD K d__law_special.name d__law_special.qual d__law_special.params d__law_special.body d__law_special.scope (d__law_special.dvs K) (d__law_special.kws K) (He.fAd K d__law_special.at_) fd
  d__law_market : ∃ fd, FunD K d__law_market.name d__law_market.qual d__law_market.params d__law_market.body d__law_market.scope (d__law_market.dvs K) (d__law_market.kws K) (He.fAd K d__law_market.at_) fd
  d__law_built : ∃ fd, FunD K d__law_built.name d__law_built.qual d__law_built.params d__law_built.body d__law_built.scope (d__law_built.dvs K) (d__law_built.kws K) (He.fAd K d__law_built.at_) fd
  d__law_kind : ∃ fd, FunD K d__law_kind.name d__law_kind.qual d__law_kind.params d__law_kind.body d__law_kind.scope (d__law_kind.dvs K) (d__law_kind.kws K) (He.fAd K d__law_kind.at_) fd
  d__law_run : ∃ fd, FunD K d__law_run.name d__law_run.qual d__law_run.params d__law_run.body d__law_run.scope (d__law_run.dvs K) (d__law_run.kws K) (He.fAd K d__law_run.at_) fd
  d__law_parts : ∃ fd, FunD K d__law_parts.name d__law_parts.qual d__law_parts.params d__law_parts.body d__law_parts.scope (d__law_parts.dvs K) (d__law_parts.kws K) (He.fAd K d__law_parts.at_) fd
  d__law_cover : ∃ fd, FunD K d__law_cover.name d__law_cover.qual d__law_cover.params d__law_cover.body d__law_cover.scope (d__law_cover.dvs K) (d__law_cover.kws K) (He.fAd K d__law_cover.at_) fd
  d__law_remade_right : ∃ fd, FunD K d__law_remade_right.name d__law_remade_right.qual d__law_remade_right.params d__law_remade_right.body d__law_remade_right.scope (d__law_remade_right.dvs K) (d__law_remade_right.kws K) (He.fAd K d__law_remade_right.at_) fd
  d__law_refused : ∃ fd, FunD K d__law_refused.name d__law_refused.qual d__law_refused.params d__law_refused.body d__law_refused.scope (d__law_refused.dvs K) (d__law_refused.kws K) (He.fAd K d__law_refused.at_) fd
  d__law_chain : ∃ fd, FunD K d__law_chain.name d__law_chain.qual d__law_chain.params d__law_chain.body d__law_chain.scope (d__law_chain.dvs K) (d__law_chain.kws K) (He.fAd K d__law_chain.at_) fd
  d__law_two_stocks : ∃ fd, FunD K d__law_two_stocks.name d__law_two_stocks.qual d__law_two_stocks.params d__law_two_stocks.body d__law_two_stocks.scope (d__law_two_stocks.dvs K) (d__law_two_stocks.kws K) (He.fAd K d__law_two_stocks.at_) fd
  d_law : ∃ fd, FunD K d_law.name d_law.qual d_law.params d_law.body d_law.scope (d_law.dvs K) (d_law.kws K) (He.fAd K d_law.at_) fd
  d_BadSet___init__ : ∃ fd, FunD K d_BadSet___init__.name d_BadSet___init__.qual d_BadSet___init__.params d_BadSet___init__.body d_BadSet___init__.scope (d_BadSet___init__.dvs K) (d_BadSet___init__.kws K) (He.fAd K d_BadSet___init__.at_) fd
  sup_Join : ∃ fd, SupI.SupTxt PP K mg (He.ga K "Join") (He.fAd K d_Join___init__.at_) (He.ma K (He.ga K "Market") "__init__") (HkK.cellAd K d_Join___init__.at_) (HkK.codeAd K d_Join___init__.at_) fd d_Join___init__.qual d_Join___init__.params d_Join___init__.body d_Join___init__.scope ∧ ∃ cd, PySem.W.clsIn K (He.ga K "Join") = some cd
  kind_Join : ∃ u, Con K (He.ga K "Join") "KIND" (.str "join") u
  cc_Join : PySem.W.findIn K (.ref (He.ga K "Join")) "__class__" = some (some (.builtin "object.__class__"))
  mo_Join : PySem.W.mroIn K (He.ga K "Join") (.type "object") = some true
  pr_many_Join : PropOf K (He.ga K "Join") "many" (He.ma K (He.ga K "Join") "many") (HkQ.gAd K ("Market", some "many"))
  sup_Lap : ∃ fd, SupI.SupTxt PP K mg (He.ga K "Lap") (He.fAd K d_Lap___init__.at_) (He.ma K (He.ga K "Market") "__init__") (HkK.cellAd K d_Lap___init__.at_) (HkK.codeAd K d_Lap___init__.at_) fd d_Lap___init__.qual d_Lap___init__.params d_Lap___init__.body d_Lap___init__.scope ∧ ∃ cd, PySem.W.clsIn K (He.ga K "Lap") = some cd
  kind_Lap : ∃ u, Con K (He.ga K "Lap") "KIND" (.str "lap") u
  cc_Lap : PySem.W.findIn K (.ref (He.ga K "Lap")) "__class__" = some (some (.builtin "object.__class__"))
  mo_Lap : PySem.W.mroIn K (He.ga K "Lap") (.type "object") = some true
  pr_many_Lap : PropOf K (He.ga K "Lap") "many" (He.ma K (He.ga K "Lap") "many") (HkQ.gAd K ("Market", some "many"))
  d_Market_many : ∃ fd, FunD K d_Market_many.name d_Market_many.qual d_Market_many.params d_Market_many.body d_Market_many.scope [] [] (HkQ.gAd K d_Market_many.at_) fd
  gs : PySem.W.specialIn K (.builtin "object.__class__") "__get__" = some (some (.builtin "getset_descriptor.__get__"))
  tk : PySem.W.takesIn K (.builtin "object.__class__") = some true
  xc_BadSet : ∃ nm q N bs bm sn sub ab col dd k0 k1 k2 k3 k5, K.lookup (He.ga K "BadSet") = some (excClassObj nm q (He.ga K "BadSet") N bs bm true sn sub ab col dd k0 k1 k2 k3 k5 "ValueError.__new__") ∧ PySem.HandSPX.refsVE bm = true
  xsa_BadSet : PySem.W.findIn K (.ref (He.ga K "BadSet")) "__setattr__" = some (some (.builtin "object.__setattr__"))
  xga_BadSet : PySem.W.findIn K (.ref (He.ga K "BadSet")) "__getattribute__" = some (some (.builtin "BaseException.__getattribute__"))
  xgg_BadSet : PySem.W.findIn K (.ref (He.ga K "BadSet")) "__getattr__" = some none
  xnn_BadSet : PySem.W.findIn K (.ref (He.ga K "BadSet")) "place" = some none
  xii_BadSet : PySem.W.findIn K (.ref (He.ga K "BadSet")) "__init__" = some (some (.ref (He.ma K (He.ga K "BadSet") "__init__")))
  xcc_BadSet : PySem.W.findIn K (.ref (He.ga K "BadSet")) "__class__" = some (some (.builtin "object.__class__"))
  xt_BadSet : PySem.W.typeIn K (.ref (He.ma K (He.ga K "BadSet") "__init__")) = some (.type "function")
  xk_BadSet : PySem.W.keepIn K (.ref (He.ga K "BadSet")) = true
  xs_BadSet : PySem.W.subIn K (.ref (He.ga K "BadSet")) (.type "BaseException") = some true
  xy_BadSet : PySem.W.typeIn K (.ref (He.ga K "BadSet")) = some (.type "type")
  xd_BadSet : PySem.W.hasDictIn K (He.ga K "BadSet") = true
  xo_BadSet : PySem.W.mroIn K (He.ga K "BadSet") (.type "object") = some true
  ki_BadSet_PartsError : PySem.W.kitOne K (.ref (He.ga K "BadSet")) (.ref (He.ga K "PartsError")) = some true
theorem ctx_of {K : PySem.W.Frag} {h : Heap} {mg : Str → Option Value} (X : K.In h) (G : h.Ns mainGlobals mg) (c : HkQ.obsQ fa fn fc fg ex K = HkQ.valQ fn fc fg) : Ctx K mg := by
  have ck := HkQ.saysK c
  have S := HkK.saysD_of ck
  exact {
    g_is_whole := He.glo_ok X G (S.fact 0 rfl),
    g_is_within := He.glo_ok X G (S.fact 1 rfl),
    g_is_count := He.glo_ok X G (S.fact 2 rfl),
    g_is_row := He.glo_ok X G (S.fact 3 rfl),
    g_is_pair := He.glo_ok X G (S.fact 4 rfl),
    g_is_run := He.glo_ok X G (S.fact 5 rfl),
    g_first_wrong := He.glo_ok X G (S.fact 6 rfl),
    g_set_of := He.glo_ok X G (S.fact 7 rfl),
    g_both := He.glo_ok X G (S.fact 8 rfl),
    g_common := He.glo_ok X G (S.fact 9 rfl),
    g_minus := He.glo_ok X G (S.fact 10 rfl),
    g_checked_runs := He.glo_ok X G (S.fact 11 rfl),
    g_is_lap := He.glo_ok X G (S.fact 12 rfl),
    g_check_run := He.glo_ok X G (S.fact 13 rfl),
    g_demand_of := He.glo_ok X G (S.fact 14 rfl),
    g_covered := He.glo_ok X G (S.fact 15 rfl),
    g_fits_place := He.glo_ok X G (S.fact 16 rfl),
    g_wrong_place := He.glo_ok X G (S.fact 17 rfl),
    g_is_stock_of := He.glo_ok X G (S.fact 18 rfl),
    g_is_stock := He.glo_ok X G (S.fact 19 rfl),
    g_changed := He.glo_ok X G (S.fact 20 rfl),
    g_halved := He.glo_ok X G (S.fact 21 rfl),
    g_partners := He.glo_ok X G (S.fact 22 rfl),
    g_sides_of := He.glo_ok X G (S.fact 23 rfl),
    g_remade := He.glo_ok X G (S.fact 24 rfl),
    g__law_draws := He.glo_ok X G (S.fact 25 rfl),
    g__law_take := He.glo_ok X G (S.fact 26 rfl),
    g__law_int := He.glo_ok X G (S.fact 27 rfl),
    g__law_set := He.glo_ok X G (S.fact 28 rfl),
    g__law_chains := He.glo_ok X G (S.fact 29 rfl),
    g__law_special := He.glo_ok X G (S.fact 30 rfl),
    g__law_market := He.glo_ok X G (S.fact 31 rfl),
    g__law_built := He.glo_ok X G (S.fact 32 rfl),
    g__law_kind := He.glo_ok X G (S.fact 33 rfl),
    g__law_run := He.glo_ok X G (S.fact 34 rfl),
    g__law_parts := He.glo_ok X G (S.fact 35 rfl),
    g__law_cover := He.glo_ok X G (S.fact 36 rfl),
    g__law_remade_right := He.glo_ok X G (S.fact 37 rfl),
    g__law_refused := He.glo_ok X G (S.fact 38 rfl),
    g__law_chain := He.glo_ok X G (S.fact 39 rfl),
    g__law_two_stocks := He.glo_ok X G (S.fact 40 rfl),
    g_law := He.glo_ok X G (S.fact 41 rfl),
    g_Market := He.glo_ok X G (S.fact 42 rfl),
    g_Join := He.glo_ok X G (S.fact 43 rfl),
    g_Lap := He.glo_ok X G (S.fact 44 rfl),
    g_PartsError := He.glo_ok X G (S.fact 45 rfl),
    g_BadSet := He.glo_ok X G (S.fact 46 rfl),
    b_len := He.free_ok X G (S.fact 47 rfl),
    b_isinstance := He.free_ok X G (S.fact 48 rfl),
    b_int := He.free_ok X G (S.fact 49 rfl),
    b_bool := He.free_ok X G (S.fact 50 rfl),
    b_tuple := He.free_ok X G (S.fact 51 rfl),
    b_list := He.free_ok X G (S.fact 52 rfl),
    b_enumerate := He.free_ok X G (S.fact 53 rfl),
    b_range := He.free_ok X G (S.fact 54 rfl),
    b_set := He.free_ok X G (S.fact 55 rfl),
    b_sorted := He.free_ok X G (S.fact 56 rfl),
    b_min := He.free_ok X G (S.fact 57 rfl),
    b_super := He.free_ok X G (S.fact 58 rfl),
    b_zip := He.free_ok X G (S.fact 59 rfl),
    b_any := He.free_ok X G (S.fact 60 rfl),
    b_abs := He.free_ok X G (S.fact 61 rfl),
    c_GREATEST_SIZE := He.int_ok X G (S.fact 62 rfl),
    cl_Join := He.cls_ok (S.fact 63 rfl),
    mk_Join := He.mkr_ok (S.fact 64 rfl),
    no_Join_size := He.noat_ok (S.fact 65 rfl),
    no_Join_runs := He.noat_ok (S.fact 66 rfl),
    no_Join_gone := He.noat_ok (S.fact 67 rfl),
    cl_Lap := He.cls_ok (S.fact 68 rfl),
    mk_Lap := He.mkr_ok (S.fact 69 rfl),
    no_Lap_size := He.noat_ok (S.fact 70 rfl),
    no_Lap_runs := He.noat_ok (S.fact 71 rfl),
    no_Lap_gone := He.noat_ok (S.fact 72 rfl),
    te_BadSet := He.exm_ok (S.fact 73 rfl),
    d_is_whole := S.def_ 0 rfl,
    d_is_within := S.def_ 1 rfl,
    d_is_count := S.def_ 2 rfl,
    d_is_row := S.def_ 3 rfl,
    d_is_pair := S.def_ 4 rfl,
    d_is_run := S.def_ 5 rfl,
    d_first_wrong := S.def_ 6 rfl,
    d_set_of := S.def_ 7 rfl,
    d_both := S.def_ 8 rfl,
    d_common := S.def_ 9 rfl,
    d_minus := S.def_ 10 rfl,
    d_Market___init__ := S.def_ 11 rfl,
    d_checked_runs := S.def_ 12 rfl,
    d_is_lap := S.def_ 13 rfl,
    d_check_run := S.def_ 14 rfl,
    d_demand_of := S.def_ 15 rfl,
    d_covered := S.def_ 16 rfl,
    d_fits_place := S.def_ 17 rfl,
    d_wrong_place := S.def_ 18 rfl,
    d_is_stock_of := S.def_ 19 rfl,
    d_is_stock := S.def_ 20 rfl,
    d_changed := S.def_ 21 rfl,
    d_halved := S.def_ 22 rfl,
    d_partners := S.def_ 23 rfl,
    d_sides_of := S.def_ 24 rfl,
    d_remade := S.def_ 25 rfl,
    d__law_draws := S.def_ 26 rfl,
    d__law_take := S.def_ 27 rfl,
    d__law_int := S.def_ 28 rfl,
    d__law_set := S.def_ 29 rfl,
    d__law_chains := S.def_ 30 rfl,
    d__law_special := S.def_ 31 rfl,
    d__law_market := S.def_ 32 rfl,
    d__law_built := S.def_ 33 rfl,
    d__law_kind := S.def_ 34 rfl,
    d__law_run := S.def_ 35 rfl,
    d__law_parts := S.def_ 36 rfl,
    d__law_cover := S.def_ 37 rfl,
    d__law_remade_right := S.def_ 38 rfl,
    d__law_refused := S.def_ 39 rfl,
    d__law_chain := S.def_ 40 rfl,
    d__law_two_stocks := S.def_ 41 rfl,
    d_law := S.def_ 42 rfl,
    d_BadSet___init__ := S.def_ 43 rfl,
    sup_Join := HkK.supB_ok (d := d_Join___init__) (HkK.says_fc ck 0 rfl) (HkK.says_ex ck 0 rfl) (He.free_ok X G (S.fact 58 rfl)) rfl,
    kind_Join := He.conB_ok (HkK.says_ex ck 1 rfl),
    cc_Join := He.eqO_ok (HkK.says_ex ck 2 rfl),
    mo_Join := of_decide_eq_true (HkK.says_ex ck 3 rfl),
    pr_many_Join := HkQ.prB_ok (HkK.says_ex ck 4 rfl),
    sup_Lap := HkK.supB_ok (d := d_Lap___init__) (HkK.says_fc ck 1 rfl) (HkK.says_ex ck 5 rfl) (He.free_ok X G (S.fact 58 rfl)) rfl,
    kind_Lap := He.conB_ok (HkK.says_ex ck 6 rfl),
    cc_Lap := He.eqO_ok (HkK.says_ex ck 7 rfl),
    mo_Lap := of_decide_eq_true (HkK.says_ex ck 8 rfl),
    pr_many_Lap := HkQ.prB_ok (HkK.says_ex ck 9 rfl),
    d_Market_many := HkQ.fnG_ok (d := d_Market_many) (HkQ.says_fg c 0 rfl) (HkK.says_ex ck 10 rfl),
    gs := He.eqO_ok (HkK.says_ex ck 11 rfl),
    tk := of_decide_eq_true (HkK.says_ex ck 12 rfl),
    xc_BadSet := HkK.excB_ok (HkK.says_ex ck 13 rfl),
    xsa_BadSet := He.eqO_ok (HkK.says_ex ck 14 rfl),
    xga_BadSet := He.eqO_ok (HkK.says_ex ck 15 rfl),
    xgg_BadSet := He.eqO_ok (HkK.says_ex ck 16 rfl),
    xnn_BadSet := He.eqO_ok (HkK.says_ex ck 17 rfl),
    xii_BadSet := He.eqO_ok (HkK.says_ex ck 18 rfl),
    xcc_BadSet := He.eqO_ok (HkK.says_ex ck 19 rfl),
    xt_BadSet := of_decide_eq_true (HkK.says_ex ck 20 rfl),
    xk_BadSet := (HkK.says_ex ck 21 rfl),
    xs_BadSet := of_decide_eq_true (HkK.says_ex ck 22 rfl),
    xy_BadSet := of_decide_eq_true (HkK.says_ex ck 23 rfl),
    xd_BadSet := (HkK.says_ex ck 24 rfl),
    xo_BadSet := of_decide_eq_true (HkK.says_ex ck 25 rfl),
    ki_BadSet_PartsError := of_decide_eq_true (HkK.says_ex ck 26 rfl) }
end K03


set_option Elab.async false
set_option linter.all false
set_option maxRecDepth 100000
set_option maxHeartbeats 0
namespace K03
open PySem PySem.Spec PyProof.Rows L2
abbrev R : PySem.W.OpenRow := PySem.W.OpenLaw.row PySem.Challenge.rw_keptparts_k03_two_stocks_made_even
abbrev hk : PySem.W.Hook := HkQ.hookQ 6 fa fn fc fg ex
def ob (s : PySem.W.SharedT) : HkQ.AlQ := HkQ.obsQ fa fn fc fg ex (HkK.frK 6 (HandSHeadRun.getT s))
theorem ob_eq (s : PySem.W.SharedT) : ob s = hk.obs s.abs := HkQ.obsQ_eq (HandSHeadRun.getT_eq s)
def names1 : List PySem.Str := ["_wall", "PartsError", "BadNumber", "BadRun", "BadSet", "BadDemand", "NotJoin", "is_whole", "is_within", "is_count", "is_row", "is_pair", "is_run", "first_wrong", "set_of", "both", "common", "minus", "GREATEST_SIZE", "Market", "Join", "Lap", "checked_runs", "gone_after"]
def names2 : List PySem.Str := ["end_to_end_shape", "beside_shape", "joined_gone", "turned_runs", "repeated_parts", "check_times", "is_lap", "check_join", "check_run", "demand_of", "covered", "fits_place", "wrong_place", "is_stock_of", "is_stock", "changed", "halved", "partners", "sides_of", "remade", "_law_draws", "_law_take", "_law_int", "_law_set"]
def names3 : List PySem.Str := ["_law_chains", "_law_special", "_law_market", "_law_built", "_law_kind", "_law_run", "_law_parts", "_law_cover", "_law_remade_right", "_law_refused", "_law_chain", "_law_two_stocks"]
def names : List PySem.Str := names1 ++ names2 ++ names3
theorem map3 {α β γ δ ε ζ : Type} {o : Option α} {f : α → β × γ} {g : α → δ} {h : α → ε × ζ} {b : β} {b2 : γ} {c : δ} {d : ε} {d2 : ζ} (h1 : o.map f = some (b, b2)) (h2 : o.map g = some c) (h3 : o.map h = some (d, d2)) :
    o.map (fun s => ((f s).1, (f s).2, ((g s, (h s).1), (h s).2))) = some (b, b2, ((c, d), d2)) := by
  cases o with
  | none => cases h1
  | some s =>
    have e1 : f s = (b, b2) := Option.some.inj h1
    have e2 : g s = c := Option.some.inj h2
    have e3 : h s = (d, d2) := Option.some.inj h3
    show some ((f s).1, (f s).2, ((g s, (h s).1), (h s).2)) = _
    rw [e1, e2, e3]
theorem runA (w : World) (os : PySem.OsState) : (HandSHeadRun.endF (HandSHeadRun.stepQ (HandSHeadRun.denQ HandSHeadRun.tabQ) R.prog w) 40000 R.prog w os).map (fun s => (HandSHeadRun.looksF R.prog (PySem.W.boot_heap w.params) s.abs, HandSHeadRun.seenQ (PySem.W.view R.prog [67]) names (PySem.importedModules R.prog.main.body) (fun s => PySem.W.xlAt (PySem.W.view R.prog [67]) [] s && PySem.W.recOk R.toRowW.records s) s.abs)) = some (true, PySem.W.openGood (PySem.W.view R.prog [67]) names) := by
  kernel_rfl
theorem runC (w : World) (os : PySem.OsState) : (HandSHeadRun.endF (HandSHeadRun.stepQ (HandSHeadRun.denQ HandSHeadRun.tabQ) R.prog w) 40000 R.prog w os).map (fun s => He.obsD fa fn (HkK.frK 6 (HandSHeadRun.getT s))) = some (He.valD fn) := by
  kernel_rfl
theorem runD (w : World) (os : PySem.OsState) : (HandSHeadRun.endF (HandSHeadRun.stepQ (HandSHeadRun.denQ HandSHeadRun.tabQ) R.prog w) 40000 R.prog w os).map (fun s => ((fc.map (fun d => HkK.fnC (HkK.frK 6 (HandSHeadRun.getT s)) d.at_), (ex (HkK.frK 6 (HandSHeadRun.getT s))).all id), fg.map (fun d => HkQ.fnG (HkK.frK 6 (HandSHeadRun.getT s)) d.at_))) = some ((fc.map HkK.valC, true), fg.map HkQ.valG) := by
  kernel_rfl
theorem run (w : World) : HandSHeadRun.RunEq R (PySem.W.view R.prog [67]) hk ob 40000 names w := by
  intro os
  have a := runA w os
  have c := runC w os
  have d := runD w os
  revert a c d
  generalize HandSHeadRun.endF (HandSHeadRun.stepQ (HandSHeadRun.denQ HandSHeadRun.tabQ) R.prog w) 40000 R.prog w os = o
  intro a c d
  exact map3 a c d
end K03


set_option Elab.async false
set_option linter.all false
set_option maxRecDepth 100000
set_option maxHeartbeats 4000000
namespace K03
open PySem PySem.Spec PyProof.Rows L2
open Evl (Ex)
section
variable {w : World} {K : PySem.W.Frag} {mg : Str → Option Value} {base : Heap}
/-- the module's def x keeps the promise -/
def Has (w : World) (K : PySem.W.Frag) (mg : Str → Option Value) (base : Heap) (CX : CXT) (x : Str) (k : Nat) (ps : List Str) (sp : Sp) : Prop :=
  ∃ (f : Addr) (fd : FuncData), mg x = some (.ref f) ∧ PySem.W.keepIn K (.ref f) = true ∧ FnOk PP w K mg base CX k f fd ps sp ∧ Binds K fd ps []
theorem has_of {x : Str} {st : Stmt} {f : Addr} {CX : CXT} {k : Nat} {ps : List Str} {sp : Sp} (d : ∃ fd, FunD K x x (defArgs st) (defBody st) (defScope st) [] [] f fd) (g : mg x = some (.ref f))
    (h : ∀ (kV doc pm : Value) (an : Option Addr) (cdv ct : Value) (us : List Value), us.length = ps.length → bindArgs (PySem.W.fnOf x x (defArgs st) (defBody st) (defScope st) .none kV doc pm an cdv ct) ⟨us, []⟩ = pure (ps.zip us))
    (ok : ∀ fd, FunD K x x (defArgs st) (defBody st) (defScope st) [] [] f fd → FnOk PP w K mg base CX k f fd ps sp) : Has w K mg base CX x k ps sp := by
  obtain ⟨fd, F⟩ := d
  exact ⟨f, fd, g, F.kp, ok fd F, F.bindsN h⟩
theorem Has.imp {CX : CXT} {x : Str} {k : Nat} {ps : List Str} {sp sp' : Sp} (H : Has w K mg base CX x k ps sp) (h : ∀ vs H Q E, sp' vs H Q E → sp vs H Q E) : Has w K mg base CX x k ps sp' := by
  obtain ⟨f, fd, a, b, c, d⟩ := H
  exact ⟨f, fd, a, b, c.imp h, d⟩
theorem ok0 {x : Str} {st : Stmt} {f : Addr} {fd : FuncData} {N ps : List Str} {k : Nat} {sp : Sp} {dvs : List V} {kws : List (Str × V)} {qual : Str} (F : FunD K x qual (defArgs st) (defBody st) (defScope st) dvs kws f fd) (S : FnScope N ps (defScope st)) (len : ∀ vs H Q E, sp vs H Q E → vs.length = ps.length)
    (hbody : ∀ (cdv : Value) (A : Around) (outer : List Env) (s : Shared) (H : Hp) (vs : List V) (Q : VK) (E : XK), Room k (A.deeper (envOfC qual (defScope st) s.heap.objs.size f cdv)) → sp vs H Q E →
      ∃ t, PSs (cxOf CX0 PP w K mg base N qual (defScope st) f cdv A outer s H E).nox (defBody st) t ∧ t { nx := fun _ H' => Q .non H', rt := Q } (start N vs) H) : FnOk PP w K mg base CX0 (k + 1) f fd ps sp := by
  refine F.ok S len fun cdv A outer s H vs Q E hr h => ?_
  obtain ⟨t, h1, h2⟩ := hbody cdv A outer s H vs Q E hr h
  exact ⟨t, h1.nox, h2⟩
/-- isinstance(an int, int | bool | str ..) -/
theorem isi_b {K : PySem.W.Frag} {H : Hp} {x : V} {a b : String} {r : Bool} {Q : VK} (hx : TyX K H x (.type a)) (hk : kitB a b = some r) (q : Q (.bl r) H) : rIsi K [x, .ty b] H Q := ⟨x, .ty b, _, _, r, rfl, .ty b, hx, kit_ty hk, q⟩

/-! ### checks -/
def spWhole : Sp := fun vs H Q _ => ∃ n : Int, vs = [.int n] ∧ Q (.bl true) H
theorem sc_is_whole : FnScope ["value"] ["value"] (defScope s_is_whole) := ⟨rfl, rfl, rfl, by decide +kernel, rfl, by decide +kernel, by decide +kernel⟩
theorem has_is_whole (T : Ctx K mg) : Has w K mg base CX0 "is_whole" 1 ["value"] spWhole := by
  refine has_of (st := s_is_whole) (f := He.ga K "is_whole") T.d_is_whole T.g_is_whole (fun _ _ _ _ _ _ us hl => match us, hl with | [_], _ => rfl) fun fd F => ?_
  refine ok0 F sc_is_whole (fun vs H Q E h => ?_) (fun cdv A outer s H vs Q E hr h => ?_)
  · obtain ⟨n, rfl, _⟩ := h
    rfl
  · obtain ⟨n, rfl, k⟩ := h
    refine ⟨_, pss_one (ps_ret (pe_and (pe_callB call_isi (by rfl) T.b_isinstance (by decide +kernel) (pa_cons (pv 0) (pa_cons (pe_bltn (by rfl) T.b_int (by decide +kernel) (v := .ty "int") rfl) pa_nil)))
      (pe_one (pe_not (pe_callB call_isi (by rfl) T.b_isinstance (by decide +kernel) (pa_cons (pv 0) (pa_cons (pe_bltn (by rfl) T.b_bool (by decide +kernel) (v := .ty "bool") rfl) pa_nil))))))), ?_⟩
    refine ⟨_, rfl, _, _, _, _, true, rfl, .ty "int", .base (.int n), kit_ty (by decide +kernel), true, rfl, iteT ?_⟩
    exact ⟨_, rfl, _, _, _, _, false, rfl, .ty "bool", .base (.int n), kit_ty (by decide +kernel), false, rfl, k⟩

def spWithin : Sp := fun vs H Q _ => ∃ n lo hi : Int, vs = [.int n, .int lo, .int hi] ∧ Q (.bl (decide (lo ≤ n ∧ n ≤ hi))) H
theorem sc_is_within : FnScope ["value", "low", "high"] ["value", "low", "high"] (defScope s_is_within) := ⟨rfl, rfl, rfl, by decide +kernel, rfl, by decide +kernel, by decide +kernel⟩
theorem has_is_within (T : Ctx K mg) : Has w K mg base CX0 "is_within" 2 ["value", "low", "high"] spWithin := by
  obtain ⟨f1, fd1, m1, kp1, F1, b1⟩ := has_is_whole (w := w) (base := base) T
  refine has_of (st := s_is_within) (f := He.ga K "is_within") T.d_is_within T.g_is_within (fun _ _ _ _ _ _ us hl => match us, hl with | [_, _, _], _ => rfl) fun fd F => ?_
  refine ok0 F sc_is_within (fun vs H Q E h => ?_) (fun cdv A outer s H vs Q E hr h => ?_)
  · obtain ⟨n, lo, hi, rfl, _⟩ := h
    rfl
  · obtain ⟨n, lo, hi, rfl, k⟩ := h
    refine ⟨_, pss_one (ps_ret (pe_and (pe_call F1 hr (by rfl) m1 kp1 b1 .nil pass0 (pa_cons (pv 0) pa_nil)) (pe_one (pe_chain op_le op_le (pv 1) (pv 0) (pv 2))))), ?_⟩
    refine ⟨_, rfl, n, rfl, true, rfl, iteT ?_⟩
    refine ⟨_, rfl, _, rfl, _, _, rfl, rfl, _, rfl, ?_⟩
    by_cases c : lo ≤ n
    · rw [decide_eq_true c]
      refine iteT ⟨_, rfl, _, _, rfl, rfl, ?_⟩
      have e : decide (lo ≤ n ∧ n ≤ hi) = decide (n ≤ hi) := by simp [c]
      rw [e] at k
      exact k
    · rw [decide_eq_false c]
      refine iteF ?_
      have e : decide (lo ≤ n ∧ n ≤ hi) = false := by simp [c]
      rw [e] at k
      exact k
def spCount : Sp := fun vs H Q _ => ∃ n : Int, vs = [.int n] ∧ Q (.bl (decide (0 ≤ n))) H
theorem sc_is_count : FnScope ["value"] ["value"] (defScope s_is_count) := ⟨rfl, rfl, rfl, by decide +kernel, rfl, by decide +kernel, by decide +kernel⟩
theorem has_is_count (T : Ctx K mg) : Has w K mg base CX0 "is_count" 2 ["value"] spCount := by
  obtain ⟨f1, fd1, m1, kp1, F1, b1⟩ := has_is_whole (w := w) (base := base) T
  refine has_of (st := s_is_count) (f := He.ga K "is_count") T.d_is_count T.g_is_count (fun _ _ _ _ _ _ us hl => match us, hl with | [_], _ => rfl) fun fd F => ?_
  refine ok0 F sc_is_count (fun vs H Q E h => ?_) (fun cdv A outer s H vs Q E hr h => ?_)
  · obtain ⟨n, rfl, _⟩ := h
    rfl
  · obtain ⟨n, rfl, k⟩ := h
    refine ⟨_, pss_one (ps_ret (pe_and (pe_call F1 hr (by rfl) m1 kp1 b1 .nil pass0 (pa_cons (pv 0) pa_nil)) (pe_one (pe_cmpR op_ge (pv 0) pe_int (nomark _))))), ?_⟩
    exact ⟨_, rfl, n, rfl, true, rfl, iteT ⟨_, rfl, _, _, rfl, rfl, k⟩⟩
/-- a list or a tuple stands at a -/
def RowAt (H : Hp) (a : Addr) : Prop := (∃ xs, H a = some (.lst xs)) ∨ ∃ xs, H a = some (.tup xs)
def spRow : Sp := fun vs H Q _ => ∃ a, vs = [.ref a] ∧ RowAt H a ∧ ∀ H', Ex H H' → Q (.bl true) H'
theorem sc_is_row : FnScope ["value"] ["value"] (defScope s_is_row) := ⟨rfl, rfl, rfl, by decide +kernel, rfl, by decide +kernel, by decide +kernel⟩
theorem has_is_row (T : Ctx K mg) : Has w K mg base CX0 "is_row" 1 ["value"] spRow := by
  refine has_of (st := s_is_row) (f := He.ga K "is_row") T.d_is_row T.g_is_row (fun _ _ _ _ _ _ us hl => match us, hl with | [_], _ => rfl) fun fd F => ?_
  refine ok0 F sc_is_row (fun vs H Q E h => ?_) (fun cdv A outer s H vs Q E hr h => ?_)
  · obtain ⟨a, rfl, _⟩ := h
    rfl
  · obtain ⟨a, rfl, ha, k⟩ := h
    refine ⟨_, pss_one (ps_ret (pe_callB call_isiT (by rfl) T.b_isinstance (by decide +kernel) (pa_cons (pv 0) (pa_cons (pe_tup (pa_cons (pe_bltn (by rfl) T.b_tuple (by decide +kernel) (v := .ty "tuple") rfl) (pa_cons (pe_bltn (by rfl) T.b_list (by decide +kernel) (v := .ty "list") rfl) pa_nil))) pa_nil)))), ?_⟩
    refine ⟨_, rfl, (by show 2 ≤ sizeLine; decide), fun p hp => ?_⟩
    have hk : ∀ o, H a = some o → upd H p (.tup [.ty "tuple", .ty "list"]) a = some o := fun o e => by rw [upd_ne (ne_of_none e hp)]; exact e
    rcases ha with ⟨xs, e⟩ | ⟨xs, e⟩
    · exact ⟨_, p, _, _, _, true, rfl, upd_same, .cons (.ty "tuple") (.cons (.ty "list") .nil), .base (.lst (hk _ e)), kitAny_cons (kit_ty (by decide +kernel : kitB "list" "tuple" = some false)) (fun _ => kitAny_cons (kit_ty (by decide +kernel : kitB "list" "list" = some true)) (fun h => nomatch h) fun _ => rfl) (fun h => nomatch h), k _ (Ex.new hp)⟩
    · exact ⟨_, p, _, _, _, true, rfl, upd_same, .cons (.ty "tuple") (.cons (.ty "list") .nil), .base (.tup (hk _ e)), kitAny_cons (kit_ty (by decide +kernel : kitB "tuple" "tuple" = some true)) (fun h => nomatch h) (fun _ => rfl), k _ (Ex.new hp)⟩
def spPair : Sp := fun vs H Q _ => ∃ a x y, vs = [.ref a] ∧ H a = some (.tup [x, y]) ∧ ∀ H', Ex H H' → Q (.bl true) H'
theorem sc_is_pair : FnScope ["value"] ["value"] (defScope s_is_pair) := ⟨rfl, rfl, rfl, by decide +kernel, rfl, by decide +kernel, by decide +kernel⟩
theorem has_is_pair (T : Ctx K mg) : Has w K mg base CX0 "is_pair" 2 ["value"] spPair := by
  obtain ⟨f1, fd1, m1, kp1, F1, b1⟩ := has_is_row (w := w) (base := base) T
  refine has_of (st := s_is_pair) (f := He.ga K "is_pair") T.d_is_pair T.g_is_pair (fun _ _ _ _ _ _ us hl => match us, hl with | [_], _ => rfl) fun fd F => ?_
  refine ok0 F sc_is_pair (fun vs H Q E h => ?_) (fun cdv A outer s H vs Q E hr h => ?_)
  · obtain ⟨a, x, y, rfl, _⟩ := h
    rfl
  · obtain ⟨a, x, y, rfl, ha, k⟩ := h
    refine ⟨_, pss_one (ps_ret (pe_and (pe_call F1 hr (by rfl) m1 kp1 b1 .nil pass0 (pa_cons (pv 0) pa_nil)) (pe_one (pe_cmpR op_eq (pe_callB call_len_seq (by rfl) T.b_len PySem.boot_len (pa_cons (pv 0) pa_nil)) pe_int (nomark _))))), ?_⟩
    refine ⟨_, rfl, a, rfl, .inr ⟨_, ha⟩, fun H1 e1 => ⟨true, rfl, iteT ?_⟩⟩
    refine ⟨_, rfl, a, [x, y], rfl, .inr (SqT.of (e1 _ _ ha)), rfl, ?_⟩
    show Q (V.bl (decide (V.int 2 = V.int 2))) H1
    rw [decide_eq_true rfl]
    exact k H1 e1
def spRun : Sp := fun vs H Q _ => ∃ (s : Int) (a : Addr) (x y : Int), vs = [.int s, .ref a] ∧ H a = some (.tup [.int x, .int y]) ∧ ∀ H', Ex H H' → Q (.bl (decide (0 ≤ x ∧ x < y ∧ y ≤ s))) H'
theorem sc_is_run : FnScope ["size", "run"] ["size", "run"] (defScope s_is_run) := ⟨rfl, rfl, rfl, by decide +kernel, rfl, by decide +kernel, by decide +kernel⟩
theorem has_is_run (T : Ctx K mg) : Has w K mg base CX0 "is_run" 3 ["size", "run"] spRun := by
  obtain ⟨f1, fd1, m1, kp1, F1, b1⟩ := has_is_pair (w := w) (base := base) T
  obtain ⟨f2, fd2, m2, kp2, F2, b2⟩ := has_is_within (w := w) (base := base) T
  refine has_of (st := s_is_run) (f := He.ga K "is_run") T.d_is_run T.g_is_run (fun _ _ _ _ _ _ us hl => match us, hl with | [_, _], _ => rfl) fun fd F => ?_
  refine ok0 F sc_is_run (fun vs H Q E h => ?_) (fun cdv A outer s H vs Q E hr h => ?_)
  · obtain ⟨s, a, x, y, rfl, _⟩ := h
    rfl
  · obtain ⟨s, a, x, y, rfl, ha, k⟩ := h
    refine ⟨_, pss_cons (ps_if (pt_not (pt_val (pe_call F1 hr (by rfl) m1 kp1 b1 .nil pass0 (pa_cons (pv 1) pa_nil)))) (pss_one (ps_ret pe_bl)) pss_nil)
      (pss_one (ps_ret (pe_and (pe_call F2 hr (by rfl) m2 kp2 b2 .nil pass0 (pa_cons (pe_ix ix_tup (pv 1) pe_int (fun _ _ => rfl)) (pa_cons pe_int (pa_cons (pv 0) pa_nil))))
        (pe_and (pe_call F2 hr (by rfl) m2 kp2 b2 .nil pass0 (pa_cons (pe_ix ix_tup (pv 1) pe_int (fun _ _ => rfl)) (pa_cons pe_int (pa_cons (pv 0) pa_nil))))
          (pe_one (pe_cmpR op_lt (pe_ix ix_tup (pv 1) pe_int (fun _ _ => rfl)) (pe_ix ix_tup (pv 1) pe_int (fun _ _ => rfl)) (nomark _))))))), ?_⟩
    refine ⟨_, rfl, a, _, _, rfl, ha, fun H1 e1 => ⟨true, rfl, iteF ?_⟩⟩
    have h1 := e1 _ _ ha
    have t1 : SqT K H1 a [V.int x, V.int y] := SqT.of h1
    refine ⟨_, rfl, a, _, _, _, rfl, rfl, t1, rfl, _, rfl, x, 0, s, rfl, _, rfl, ?_⟩
    have k1 := k H1 e1
    by_cases c1 : 0 ≤ x ∧ x ≤ s
    · rw [decide_eq_true c1]
      refine iteT ?_
      refine ⟨_, rfl, a, _, _, _, rfl, rfl, t1, rfl, _, rfl, y, 0, s, rfl, _, rfl, ?_⟩
      by_cases c2 : 0 ≤ y ∧ y ≤ s
      · rw [decide_eq_true c2]
        refine iteT ?_
        refine ⟨_, rfl, a, _, _, _, rfl, rfl, t1, rfl, _, rfl, a, _, _, _, rfl, rfl, t1, rfl, _, _, rfl, rfl, ?_⟩
        have e : decide (0 ≤ x ∧ x < y ∧ y ≤ s) = decide (x < y) := by
          apply decide_eq_decide.mpr
          omega
        rw [e] at k1
        exact k1
      · rw [decide_eq_false c2]
        refine iteF ?_
        have e : decide (0 ≤ x ∧ x < y ∧ y ≤ s) = false := decide_eq_false (by omega)
        rw [e] at k1
        exact k1
    · rw [decide_eq_false c1]
      refine iteF ?_
      have e : decide (0 ≤ x ∧ x < y ∧ y ≤ s) = false := decide_eq_false (by omega)
      rw [e] at k1
      exact k1
end
end K03


set_option Elab.async false
set_option linter.all false
set_option maxRecDepth 100000
set_option maxHeartbeats 4000000
namespace K03
open PySem PySem.Spec PyProof.Rows L2
open Evl (Ex)
theorem Ex.lst {K : PySem.W.Frag} {H H' : Hp} {a : Addr} {xs : List V} (e : Ex H H') (h : H a = some (.lst xs)) : SqL K H' a xs := SqL.of (e _ _ h)
theorem Ex.tup {K : PySem.W.Frag} {H H' : Hp} {a : Addr} {xs : List V} (e : Ex H H') (h : H a = some (.tup xs)) : SqT K H' a xs := SqT.of (e _ _ h)
section
variable {w : World} {K : PySem.W.Frag} {mg : Str → Option Value} {base : Heap}
/-! ### first_wrong: where nothing is wrong -/
def spFirst : Sp := fun vs H Q _ => ∃ a xs, vs = [.ref a] ∧ H a = some (.lst xs) ∧ (∀ (i : Nat) (x : V), xs[i]? = some x → x = V.bl true) ∧ ∀ H', Ex H H' → Q .non H'
theorem sc_first_wrong : FnScope ["flags", "place", "flag"] ["flags"] (defScope s_first_wrong) := ⟨rfl, rfl, rfl, by decide +kernel, rfl, by decide +kernel, by decide +kernel⟩
theorem has_first_wrong (T : Ctx K mg) : Has w K mg base CX0 "first_wrong" 1 ["flags"] spFirst := by
  refine has_of (st := s_first_wrong) (f := He.ga K "first_wrong") T.d_first_wrong T.g_first_wrong (fun _ _ _ _ _ _ us hl => match us, hl with | [_], _ => rfl) fun fd F => ?_
  refine ok0 F sc_first_wrong (fun vs H Q E h => ?_) (fun cdv A outer s H vs Q E hr h => ?_)
  · obtain ⟨a, xs, rfl, _⟩ := h
    rfl
  · obtain ⟨a, xs, rfl, ha, hx, k⟩ := h
    have nd := sc_first_wrong.nd
    refine ⟨_, pss_cons (ps_for PassesOwn.never rfl (pi_enum (by rfl) T.b_enumerate (pa_cons (pv 0) pa_nil)) (pg_tup (by rfl) (pgs_cons (pg_name (i := 1) nd rfl (.inl rfl)) (pgs_cons (pg_name (i := 2) nd rfl (.inl rfl)) pgs_nil)))
        (pss_one (ps_if (pt_not (pt_val (pv 2))) (pss_one (ps_ret (pv 1))) pss_nil)))
      (pss_one (ps_ret pe_non)), ?_⟩
    refine ⟨_, rfl, a, xs, rfl, SqL.of ha, for_it walk_enum (fun i σ H' => ∃ p f : Option V, σ = [some (.ref a), p, f] ∧ Ex H H') ⟨none, none, rfl, Ex.refl H⟩ (fun i σ H' _ ⟨_, _, _, e⟩ => Ex.lst e ha) ?_ ?_⟩
    · rintro i v σ H1 H2 hi ⟨p, f, rfl, e⟩ ⟨t, x, y, rfl, ht, rfl, hx1, hy⟩
      cases hx1
      have := hx i y hy
      subst this
      refine ⟨t, _, rfl, SqT.of upd_same, rfl, _, _, rfl, _, _, rfl, rfl, ?_⟩
      refine ⟨_, rfl, true, rfl, iteF ?_⟩
      exact ⟨_, _, rfl, e.trans (Ex.new ht)⟩
    · rintro σ H1 ⟨p, f, rfl, e⟩
      exact k H1 e

theorem asc_eq : ∀ {l l' : List Int}, l.Pairwise (· < ·) → l'.Pairwise (· < ·) → (∀ k, k ∈ l ↔ k ∈ l') → l = l'
  | [], [], _, _, _ => rfl
  | [], y :: ys, _, _, h => absurd ((h y).mpr (List.mem_cons_self ..)) (by simp)
  | x :: xs, [], _, _, h => absurd ((h x).mp (List.mem_cons_self ..)) (by simp)
  | x :: xs, y :: ys, h1, h2, h => by
    have a1 := List.pairwise_cons.mp h1
    have a2 := List.pairwise_cons.mp h2
    have e : x = y := by
      rcases List.mem_cons.mp ((h x).mp (List.mem_cons_self ..)) with e | e
      · exact e
      · rcases List.mem_cons.mp ((h y).mpr (List.mem_cons_self ..)) with e' | e'
        · exact e'.symm
        · have := a1.1 y e'
          have := a2.1 x e
          omega
    subst e
    rw [asc_eq a1.2 a2.2 fun k => ?_]
    have hk := h k
    constructor
    · intro q
      have := a1.1 k q
      rcases List.mem_cons.mp (hk.mp (List.mem_cons_of_mem _ q)) with z | z
      · omega
      · exact z
    · intro q
      have := a2.1 k q
      rcases List.mem_cons.mp (hk.mpr (List.mem_cons_of_mem _ q)) with z | z
      · omega
      · exact z
theorem take_succ_mem {ns : List Int} {i : Nat} {z : Int} (h : ns[i]? = some z) (k : Int) : k ∈ ns.take (i + 1) ↔ k ∈ ns.take i ∨ k = z := by
  have e : ns.take (i + 1) = ns.take i ++ [z] := by
    rw [List.take_add_one, h]
    rfl
  rw [e, List.mem_append, List.mem_singleton]
theorem asc_new {ns : List Int} {i : Nat} {z : Int} (hp : ns.Pairwise (· < ·)) (h : ns[i]? = some z) : z ∉ ns.take i := by
  intro q
  obtain ⟨j, hj, e⟩ := List.mem_iff_getElem.mp q
  have hi := (List.getElem?_eq_some_iff.mp h)
  obtain ⟨hil, hie⟩ := hi
  rw [List.length_take] at hj
  have hji : j < i := by omega
  have := List.pairwise_iff_getElem.mp hp j i (by omega) hil hji
  rw [List.getElem_take] at e
  omega
theorem map_int_get {ns : List Int} {i : Nat} {y : V} (h : (ns.map V.int)[i]? = some y) : ∃ z, ns[i]? = some z ∧ y = V.int z := by
  rw [List.getElem?_map] at h
  cases e : ns[i]? with
  | none => rw [e] at h; cases h
  | some z => rw [e] at h; exact ⟨z, rfl, (Option.some.inj h).symm⟩
/-! ### set_of: of ascending parts -/
def spSetOf : Sp := fun vs H Q _ => ∃ (m : Int) (a : Addr) (ns : List Int), vs = [.int m, .ref a] ∧ H a = some (.lst (ns.map V.int)) ∧ ns.Pairwise (· < ·) ∧ (∀ n ∈ ns, 0 ≤ n ∧ n < m) ∧ 0 ≤ m ∧ ns.length < 60 ∧
  ∀ H' p, Ex H H' → H p = none → H' p = some (.tup (ns.map V.int)) → Q (.ref p) H'
theorem sc_set_of : FnScope ["many", "parts", "seen", "place", "part"] ["many", "parts"] (defScope s_set_of) := ⟨rfl, rfl, rfl, by decide +kernel, rfl, by decide +kernel, by decide +kernel⟩
theorem has_set_of (T : Ctx K mg) : Has w K mg base CX0 "set_of" 3 ["many", "parts"] spSetOf := by
  obtain ⟨f1, fd1, m1, kp1, F1, b1⟩ := has_is_count (w := w) (base := base) T
  obtain ⟨f2, fd2, m2, kp2, F2, b2⟩ := has_is_row (w := w) (base := base) T
  obtain ⟨f3, fd3, m3, kp3, F3, b3⟩ := has_is_within (w := w) (base := base) T
  refine has_of (st := s_set_of) (f := He.ga K "set_of") T.d_set_of T.g_set_of (fun _ _ _ _ _ _ us hl => match us, hl with | [_, _], _ => rfl) fun fd F => ?_
  refine ok0 F sc_set_of (fun vs H Q E h => ?_) (fun cdv A outer s H vs Q E hr h => ?_)
  · obtain ⟨m, a, ns, rfl, _⟩ := h
    rfl
  · obtain ⟨m, a, ns, rfl, ha, hp, hb, hm, hl, k⟩ := h
    have nd := sc_set_of.nd
    have hr1 := hr.mono (show 1 ≤ 2 by decide)
    refine ⟨_, pss_cons (ps_if (pt_not (pt_val (pe_call F1 hr (by rfl) m1 kp1 b1 .nil pass0 (pa_cons (pv 0) pa_nil)))) (pss_one ps_never) pss_nil)
      (pss_cons (ps_if (pt_not (pt_val (pe_call F2 hr1 (by rfl) m2 kp2 b2 .nil pass0 (pa_cons (pv 1) pa_nil)))) (pss_one ps_never) pss_nil)
      (pss_cons (ps_set (i := 2) nd rfl (.inl rfl) (pe_callTy0 cr_set0 (by rfl) T.b_set (by decide +kernel)))
      (pss_cons (ps_for PassesOwn.never rfl (pi_enum (by rfl) T.b_enumerate (pa_cons (pv 1) pa_nil)) (pg_tup (by rfl) (pgs_cons (pg_name (i := 3) nd rfl (.inl rfl)) (pgs_cons (pg_name (i := 4) nd rfl (.inl rfl)) pgs_nil)))
        (pss_cons (ps_if (PW.pt (pw_or (pt_not (pt_val (pe_call F3 hr (by rfl) m3 kp3 b3 .nil pass0 (pa_cons (pv 4) (pa_cons pe_int (pa_cons (pe_op op_sub (pv 0) pe_int) pa_nil)))))) (pw_or1 (pt_cmpR or_sin (pv 4) (pv 2) (by rfl))))) (pss_one ps_never) pss_nil)
        (pss_one (ps_expr (pe_sadd (pv 2) (pa_cons (pv 4) pa_nil))))))
      (pss_one (ps_ret (pe_callTy call_tuple_of (by rfl) T.b_tuple (by decide +kernel) (pa_cons (pe_callB (cr_sortedSet rfl) (by rfl) T.b_sorted (by decide +kernel) (pa_cons (pv 2) pa_nil)) pa_nil))))))), ?_⟩
    refine ⟨_, rfl, m, rfl, decide (0 ≤ m), rfl, ?_⟩
    rw [decide_eq_true hm]
    refine iteF ?_
    refine ⟨_, rfl, a, rfl, .inl ⟨_, ha⟩, fun H1 e1 => ⟨true, rfl, iteF ?_⟩⟩
    refine ⟨rfl, fun q hq => ?_⟩
    have e2 : Ex H (upd H1 q (SetO w q (fun _ => false) 0)) := e1.trans (Ex.new hq)
    have hq0 : H q = none := Evl.fresh_back e1 hq
    refine ⟨_, rfl, a, _, rfl, Ex.lst e2 ha, for_it walk_enum (fun i σ H' => ∃ (p f : Option V) (S : Int → Bool), σ = [some (.int m), some (.ref a), some (.ref q), p, f] ∧ Ex H H' ∧ H' q = some (SetO w q S i) ∧ ∀ j, S j = true ↔ j ∈ ns.take i)
      ⟨none, none, _, rfl, e2, upd_same, fun j => by simp⟩ (fun i σ H' _ ⟨_, _, _, _, e, _⟩ => Ex.lst e ha) ?_ ?_⟩
    · rintro i v σ H2 H3 hi ⟨p, f, S, rfl, e3, hS, hSm⟩ ⟨t, x, y, rfl, ht, rfl, hx1, hy⟩
      cases hx1
      obtain ⟨z, hz, rfl⟩ := map_int_get hy
      have hzb := hb z (List.mem_of_getElem? hz)
      have hqt : q ≠ t := ne_of_none hS ht
      have hSf : S z = false := by
        cases c : S z with
        | false => rfl
        | true => exact absurd ((hSm z).mp c) (asc_new hp hz)
      have hil : i < ns.length := (List.getElem?_eq_some_iff.mp hz).1
      refine ⟨t, _, rfl, SqT.of upd_same, rfl, _, _, rfl, _, _, rfl, rfl, ?_⟩
      refine ⟨_, rfl, _, rfl, _, _, rfl, rfl, z, 0, m - 1, rfl, decide (0 ≤ z ∧ z ≤ m - 1), rfl, ?_⟩
      rw [decide_eq_true (show 0 ≤ z ∧ z ≤ m - 1 by omega)]
      refine iteF ?_
      refine ⟨_, rfl, _, rfl, z, q, S, i, rfl, rfl, by rw [upd_ne hqt]; exact hS, S z, rfl, ?_⟩
      rw [hSf]
      refine iteF ?_
      refine ⟨_, rfl, ⟨q, S, i, rfl, by rw [upd_ne hqt]; exact hS⟩, _, rfl, q, z, S, i, rfl, rfl, by rw [upd_ne hqt]; exact hS, ?_, ?_⟩
      · show i + 1 < 4096
        omega
      · rw [hSf, if_neg Bool.false_ne_true]
        refine ⟨_, _, _, rfl, Evl.Ex.mut (e3.trans (Ex.new ht)) hq0, upd_same, fun j => ?_⟩
        rw [take_succ_mem hz, Bool.or_eq_true, decide_eq_true_iff, hSm]
    · rintro σ H2 ⟨p, f, S, rfl, e3, hS, hSm⟩
      rw [List.length_map] at hS hSm
      rw [List.take_length] at hSm
      refine ⟨_, rfl, q, S, _, rfl, hS, by omega, fun ns' p' hp' hmem hlen hnew => ?_⟩
      have en : ns' = ns := asc_eq hp' hp fun j => (hmem j).trans (hSm j)
      subst en
      refine ⟨p', _, rfl, .inl ⟨SqL.of upd_same, fun l hl2 => ?_⟩⟩
      exact k _ _ ((e3.trans (Ex.new hnew)).trans (Ex.new hl2)) (Evl.fresh_back (e3.trans (Ex.new hnew)) hl2) upd_same
end
end K03


set_option Elab.async false
set_option linter.all false
set_option maxRecDepth 100000
set_option maxHeartbeats 4000000
namespace K03
open PySem PySem.Spec PyProof.Rows L2
open Evl (Ex)
/-- vs stand for the runs rs, each one a tuple -/
structure Runs (H : Hp) (vs : List V) (rs : List (Int × Int)) : Prop where
  len : vs.length = rs.length
  at_ : ∀ (i : Nat) (r : Int × Int), rs[i]? = some r → ∃ t, vs[i]? = some (.ref t) ∧ H t = some (.tup [.int r.1, .int r.2])
theorem Runs.mono {H H' : Hp} {vs : List V} {rs : List (Int × Int)} (h : Runs H vs rs) (e : ∀ t xs, H t = some (.tup xs) → H' t = some (.tup xs)) : Runs H' vs rs :=
  ⟨h.len, fun i r hi => let ⟨t, a, b⟩ := h.at_ i r hi; ⟨t, a, e _ _ b⟩⟩
theorem Runs.ex {H H' : Hp} {vs : List V} {rs : List (Int × Int)} (h : Runs H vs rs) (e : Ex H H') : Runs H' vs rs := h.mono fun _ _ q => e _ _ q
theorem Runs.get {H : Hp} {vs : List V} {rs : List (Int × Int)} (h : Runs H vs rs) {i : Nat} {v : V} (hv : vs[i]? = some v) : ∃ t r, rs[i]? = some r ∧ v = .ref t ∧ H t = some (.tup [.int r.1, .int r.2]) := by
  have hi : i < rs.length := by
    rw [← h.len]
    exact (List.getElem?_eq_some_iff.mp hv).1
  obtain ⟨t, a, b⟩ := h.at_ i rs[i] (by simp [hi])
  rw [hv] at a
  exact ⟨t, rs[i], by simp [hi], Option.some.inj a, b⟩
/-- a run over a row of s places -/
def Fits (s : Int) (r : Int × Int) : Prop := 0 ≤ r.1 ∧ r.1 < r.2 ∧ r.2 ≤ s
section
variable {w : World} {K : PySem.W.Frag} {mg : Str → Option Value} {base : Heap}
theorem tYesI {σ : L2.St} {H : Hp} {F G : Hp → Prop} (h : F H) : tYes σ H (fun b H3 => if b = true then F H3 else G H3) := by
  show if true = true then F H else G H
  exact iteT h
def rTupT (K : PySem.W.Frag) : List V → Hp → VK → Prop := fun xs H Q => ∃ a ys, xs = [.ref a] ∧ SqT K H a ys ∧ Q (.ref a) H
theorem cr_tupT {X : Cx} (h : X.K = K) : CallR X (.type "tuple") (rTupT K) := by
  subst h
  exact call_tupleT
def spChecked : Sp := fun vs H Q _ => ∃ (s : Int) (a : Addr) (us : List V) (rs : List (Int × Int)), vs = [.int s, .ref a] ∧ H a = some (.lst us) ∧ Runs H us rs ∧ (∀ r ∈ rs, Fits s r) ∧ us.length ≤ 1000 ∧
  ∀ H' p, Ex H H' → H p = none → H' p = some (.tup us) → Q (.ref p) H'
theorem sc_checked_runs : FnScope ["size", "runs", "place", "run"] ["size", "runs"] (defScope s_checked_runs) := ⟨rfl, rfl, rfl, by decide +kernel, rfl, by decide +kernel, by decide +kernel⟩
theorem has_checked_runs (T : Ctx K mg) : Has w K mg base CX0 "checked_runs" 4 ["size", "runs"] spChecked := by
  obtain ⟨f1, fd1, m1, kp1, F1, b1⟩ := has_is_row (w := w) (base := base) T
  obtain ⟨f2, fd2, m2, kp2, F2, b2⟩ := has_first_wrong (w := w) (base := base) T
  obtain ⟨f3, fd3, m3, kp3, F3, b3⟩ := has_is_run (w := w) (base := base) T
  refine has_of (st := s_checked_runs) (f := He.ga K "checked_runs") T.d_checked_runs T.g_checked_runs (fun _ _ _ _ _ _ us hl => match us, hl with | [_, _], _ => rfl) fun fd F => ?_
  refine ok0 F sc_checked_runs (fun vs H Q E h => ?_) (fun cdv A outer s H vs Q E hr h => ?_)
  · obtain ⟨m, a, us, rs, rfl, _⟩ := h
    rfl
  · obtain ⟨m, a, us, rs, rfl, ha, hR, hF, hl, k⟩ := h
    have nd := sc_checked_runs.nd
    have hr1 := hr.mono (show 1 ≤ 3 by decide)
    refine ⟨_, pss_cons (ps_if (pt_not (pt_val (pe_call F1 hr1 (by rfl) m1 kp1 b1 .nil pass0 (pa_cons (pv 1) pa_nil)))) (pss_one ps_never) pss_nil)
      (pss_cons (ps_set (i := 2) nd rfl (.inl rfl) (pe_call F2 hr1 (by rfl) m2 kp2 b2 .nil pass0 (pa_cons
        (pe_lc (own := [("run", 3)]) (g := gName 3) (tt := tYes) rfl nd (pi_list (pv 1)) (blkOk_by (own := [("run", 3)]) (N := ["size", "runs", "place", "run"]) (sc := defScope s_checked_runs) (by decide +kernel)) (fun _ _ _ _ _ => pg_name (i := 3) nd rfl (Or.inl rfl)) (fun _ _ _ _ _ => pts_nil)
          (fun _ _ _ _ _ => pe_call F3 hr (by rfl) m3 kp3 b3 .nil pass0 (pa_cons (pv 0) (pa_cons (pv 3) pa_nil)))) pa_nil)))
      (pss_cons (ps_if (pt_cmpR op_notN (pv 2) pe_non (nomark _)) (pss_one ps_never) pss_nil)
      (pss_one (ps_ret (pe_callTy call_tuple_of (by rfl) T.b_tuple (by decide +kernel) (pa_cons
        (pe_lc (own := [("run", 3)]) (g := gName 3) (tt := tYes) rfl nd (pi_list (pv 1)) (blkOk_by (own := [("run", 3)]) (N := ["size", "runs", "place", "run"]) (sc := defScope s_checked_runs) (by decide +kernel)) (fun _ _ _ _ _ => pg_name (i := 3) nd rfl (Or.inl rfl)) (fun _ _ _ _ _ => pts_nil)
          (fun _ _ _ _ _ => pe_callTy (T := "tuple") (cr_tupT (K := K) rfl) (by rfl) T.b_tuple (by decide +kernel) (pa_cons (pv 3) pa_nil))) pa_nil)))))), ?_⟩
    refine ⟨_, rfl, a, rfl, .inl ⟨_, ha⟩, fun H1 e1 => ⟨true, rfl, iteF ?_⟩⟩
    refine ⟨_, rfl, a, rfl, ⟨_, Ex.lst e1 ha⟩, fun D hD => lc_list (xs := us) (fun i H' => Ex H H' ∧ H' D = some (.lst (List.replicate i (V.bl true)))) ⟨e1.trans (Ex.new hD), upd_same⟩ (fun i H' _ q => Ex.lst q.1 ha) ?_ ?_⟩
    · rintro i x H2 hx ⟨e2, hD2⟩
      obtain ⟨t, r, hr', rfl, ht⟩ := (hR.ex e2).get hx
      have hf := hF r (List.mem_of_getElem? hr')
      refine ⟨rfl, ?_⟩
      refine tYesI ?_
      refine ⟨_, rfl, _, rfl, m, t, r.1, r.2, rfl, ht, fun H3 e3 => ?_⟩
      have hil : i < us.length := (List.getElem?_eq_some_iff.mp hx).1
      refine ⟨_, e3 _ _ hD2, by rw [List.length_replicate]; exact small1000 (by omega), Evl.Ex.mut (e2.trans e3) (Evl.fresh_back e1 hD), ?_⟩
      rw [upd_same, decide_eq_true (show 0 ≤ r.1 ∧ r.1 < r.2 ∧ r.2 ≤ m from hf), List.replicate_succ']
    · rintro H2 ⟨e2, hD2⟩
      refine ⟨D, _, rfl, hD2, fun i x hx => ?_, fun H3 e3 => ?_⟩
      · rw [List.getElem?_replicate] at hx
        split at hx
        · exact (Option.some.inj hx).symm
        · cases hx
      · have e4 := e2.trans e3
        refine ⟨_, rfl, rfl, _, rfl, iteF ?_⟩
        refine ⟨_, rfl, a, rfl, ⟨_, Ex.lst e4 ha⟩, fun D2 hD2' => lc_list (xs := us) (fun i H' => Ex H H' ∧ H' D2 = some (.lst (us.take i))) ⟨e4.trans (Ex.new hD2'), upd_same⟩ (fun i H' _ q => Ex.lst q.1 ha) ?_ ?_⟩
        · rintro i x H5 hx ⟨e5, hD5⟩
          obtain ⟨t, r, hr', rfl, ht⟩ := (hR.ex e5).get hx
          refine ⟨rfl, ?_⟩
          refine tYesI ?_
          refine ⟨_, rfl, t, _, rfl, SqT.of ht, ?_⟩
          refine ⟨_, hD5, ?_, Evl.Ex.mut e5 (Evl.fresh_back e4 hD2'), ?_⟩
          · rw [List.length_take]
            exact small1000 (by omega)
          · rw [upd_same, List.take_add_one, hx]
            rfl
        · rintro H5 ⟨e5, hD5⟩
          rw [List.take_length] at hD5
          exact ⟨D2, us, rfl, .inl ⟨SqL.of hD5, fun l hl2 => k _ l (e5.trans (Ex.new hl2)) (Evl.fresh_back e5 hl2) upd_same⟩⟩
end
end K03


set_option Elab.async false
set_option linter.all false
set_option maxRecDepth 100000
set_option maxHeartbeats 4000000
namespace K03
open PySem PySem.Spec PyProof.Rows L2
open Evl (Ex)
/-! ### markets -/
theorem k_rs : ¬ (("runs" : Str) = "size") := by decide +kernel
theorem k_sr : ¬ (("size" : Str) = "runs") := by decide +kernel
theorem k_gs : ¬ (("gone" : Str) = "size") := by decide +kernel
theorem k_sg : ¬ (("size" : Str) = "gone") := by decide +kernel
theorem k_rg : ¬ (("runs" : Str) = "gone") := by decide +kernel
theorem k_gr : ¬ (("gone" : Str) = "runs") := by decide +kernel
def mflds (s : Int) (pr pg : Addr) : List (Str × V) := putF "gone" (.ref pg) (putF "runs" (.ref pr) (putF "size" (.int s) []))
theorem mf_size (s : Int) (pr pg : Addr) : (mflds s pr pg).lookup ("size" : Str) = some (.int s) := by
  unfold mflds
  rw [lookup_putF, if_neg k_sg, lookup_putF, if_neg k_sr, lookup_putF, if_pos rfl]
theorem mf_runs (s : Int) (pr pg : Addr) : (mflds s pr pg).lookup ("runs" : Str) = some (.ref pr) := by
  unfold mflds
  rw [lookup_putF, if_neg k_rg, lookup_putF, if_pos rfl]
theorem mf_gone (s : Int) (pr pg : Addr) : (mflds s pr pg).lookup ("gone" : Str) = some (.ref pg) := by
  unfold mflds
  rw [lookup_putF, if_pos rfl]
theorem mf_no (s : Int) (pr pg : Addr) {m : Str} (h1 : ¬ m = "size") (h2 : ¬ m = "runs") (h3 : ¬ m = "gone") : (mflds s pr pg).lookup m = none := by
  unfold mflds
  rw [lookup_putF, if_neg h3, lookup_putF, if_neg h2, lookup_putF, if_neg h1]
  all_goals rfl
/-- the class at C is the market's class of this kind -/
def IsM (K : PySem.W.Frag) (C : Addr) (kind : Str) : Prop := (C = He.ga K "Join" ∧ kind = "join") ∨ (C = He.ga K "Lap" ∧ kind = "lap")
section
variable {w : World} {K : PySem.W.Frag} {mg : Str → Option Value} {base : Heap} {C : Addr} {kind : Str}
theorem IsM.cl (h : IsM K C kind) (T : Ctx K mg) : Cls K C := by
  rcases h with ⟨rfl, _⟩ | ⟨rfl, _⟩
  · exact T.cl_Join
  · exact T.cl_Lap
theorem IsM.nS (h : IsM K C kind) (T : Ctx K mg) : NoAttr K C "size" := by
  rcases h with ⟨rfl, _⟩ | ⟨rfl, _⟩
  · exact T.no_Join_size
  · exact T.no_Lap_size
theorem IsM.nR (h : IsM K C kind) (T : Ctx K mg) : NoAttr K C "runs" := by
  rcases h with ⟨rfl, _⟩ | ⟨rfl, _⟩
  · exact T.no_Join_runs
  · exact T.no_Lap_runs
theorem IsM.nG (h : IsM K C kind) (T : Ctx K mg) : NoAttr K C "gone" := by
  rcases h with ⟨rfl, _⟩ | ⟨rfl, _⟩
  · exact T.no_Join_gone
  · exact T.no_Lap_gone
theorem IsM.con (h : IsM K C kind) (T : Ctx K mg) : ∃ u, Con K C "KIND" (.str kind) u := by
  rcases h with ⟨rfl, rfl⟩ | ⟨rfl, rfl⟩
  · exact T.kind_Join
  · exact T.kind_Lap
/-- what a market is made of -/
structure MArg (H : Hp) (s : Int) (a g : Addr) (us : List V) (rs : List (Int × Int)) (ns : List Int) : Prop where
  ha : H a = some (.lst us)
  runs : Runs H us rs
  fits : ∀ r ∈ rs, Fits s r
  few : us.length ≤ 50
  hg : H g = some (.lst (ns.map V.int))
  asc : ns.Pairwise (· < ·)
  inn : ∀ n ∈ ns, 0 ≤ n ∧ n < us.length
  size : 1 ≤ s ∧ s ≤ 30
theorem asc_few : ∀ {ns : List Int} {lo m : Int}, ns.Pairwise (· < ·) → (∀ n ∈ ns, lo ≤ n ∧ n < m) → lo ≤ m → (ns.length : Int) ≤ m - lo
  | [], lo, m, _, _, h => by simp; omega
  | n :: ns, lo, m, hp, hb, h => by
    have hp' := List.pairwise_cons.mp hp
    have h0 := hb n (List.mem_cons_self ..)
    have := asc_few (ns := ns) (lo := n + 1) (m := m) hp'.2 (fun k hk => ⟨by have := hp'.1 k hk; omega, (hb k (List.mem_cons_of_mem _ hk)).2⟩) (by omega)
    rw [List.length_cons]
    push_cast
    omega
def spMarket (K : PySem.W.Frag) : Sp := fun vs H Q _ => ∃ (C x dx a g : Addr) (kind : Str) (s : Int) (us : List V) (rs : List (Int × Int)) (ns : List Int), vs = [.ref x, .int s, .ref a, .ref g] ∧ IsM K C kind ∧ H x = some (.ins C dx []) ∧ MArg H s a g us rs ns ∧
  ∀ H' pr pg, (∀ b o, b ≠ x → H b = some o → H' b = some o) → H pr = none → H pg = none → H' x = some (.ins C dx (mflds s pr pg)) → H' pr = some (.tup us) → H' pg = some (.tup (ns.map V.int)) → Q .non H'
theorem sc_Market_init : FnScope ["self", "size", "runs", "gone"] ["self", "size", "runs", "gone"] (defScope s_Market___init__) := ⟨rfl, rfl, rfl, by decide +kernel, rfl, by decide +kernel, by decide +kernel⟩
theorem ok_Market_init (T : Ctx K mg) {f : Addr} {fd : FuncData} {kws : List (Str × V)} (F : FunD K "__init__" "Market.__init__" (defArgs s_Market___init__) (defBody s_Market___init__) (defScope s_Market___init__) [] kws f fd) :
    FnOk PP w K mg base CX0 5 f fd ["self", "size", "runs", "gone"] (spMarket K) := by
  obtain ⟨f1, fd1, m1, kp1, F1, b1⟩ := has_is_within (w := w) (base := base) T
  obtain ⟨f2, fd2, m2, kp2, F2, b2⟩ := has_checked_runs (w := w) (base := base) T
  obtain ⟨f3, fd3, m3, kp3, F3, b3⟩ := has_set_of (w := w) (base := base) T
  obtain ⟨tg, hG⟩ := T.c_GREATEST_SIZE
  refine ok0 F sc_Market_init (fun vs H Q E h => ?_) (fun cdv A outer s0 H vs Q E hr h => ?_)
  · obtain ⟨C, x, dx, a, g, kind, s, us, rs, ns, rfl, _⟩ := h
    rfl
  · obtain ⟨C, x, dx, a, g, kind, s, us, rs, ns, rfl, hM, hx, A0, k⟩ := h
    have nd := sc_Market_init.nd
    have hr2 := hr.mono (show 2 ≤ 4 by decide)
    have hr3 := hr.mono (show 3 ≤ 4 by decide)
    refine ⟨_, pss_cons (ps_if (pt_not (pt_val (pe_call F1 hr2 (by rfl) m1 kp1 b1 .nil pass0 (pa_cons (pv 1) (pa_cons pe_int (pa_cons (pe_glob (v := .int 30) rfl hG ⟨_, rfl⟩) pa_nil)))))) (pss_one ps_never) pss_nil)
      (pss_cons (ps_fld (pv 0) (pv 1) rfl)
      (pss_cons (ps_fld (pv 0) (pe_call F2 hr (by rfl) m2 kp2 b2 .nil pass0 (pa_cons (pv 1) (pa_cons (pv 2) pa_nil))) rfl)
      (pss_one (ps_fld (pv 0) (pe_call F3 hr3 (by rfl) m3 kp3 b3 .nil pass0 (pa_cons (pe_callB call_len_seq (by rfl) T.b_len PySem.boot_len (pa_cons (pv 2) pa_nil)) (pa_cons (pv 3) pa_nil))) rfl)))), ?_⟩
    refine ⟨_, rfl, s, 1, 30, rfl, decide (1 ≤ s ∧ s ≤ 30), rfl, ?_⟩
    rw [decide_eq_true A0.size]
    refine iteF ?_
    refine ⟨_, rfl, _, rfl, x, C, dx, [], rfl, hx, hM.cl T, hM.nS T, (by show 0 < 1000; decide), ?_⟩
    have nax : a ≠ x := ne_of A0.ha hx (by intro z; cases z)
    have ngx : g ≠ x := ne_of A0.hg hx (by intro z; cases z)
    have ntx : ∀ t xs, H t = some (.tup xs) → t ≠ x := fun t xs e => ne_of e hx (by intro z; cases z)
    -- self.runs
    refine ⟨_, rfl, _, rfl, s, a, us, rs, rfl, by rw [upd_ne nax]; exact A0.ha, A0.runs.mono fun t xs e => by rw [upd_ne (ntx t xs e)]; exact e, A0.fits, by have := A0.few; omega, fun H2 pr e2 hpr hpr2 => ?_⟩
    have hpx : pr ≠ x := fun z => by
      rw [z, upd_same] at hpr
      cases hpr
    have hpr0 : H pr = none := by
      rw [upd_ne hpx] at hpr
      exact hpr
    have hx2 := e2 _ _ (upd_same (H := H) (a := x) (o := .ins C dx (putF "size" (.int s) [])))
    refine ⟨_, rfl, x, C, dx, _, rfl, hx2, hM.cl T, hM.nR T, (by show 1 < 1000; decide), ?_⟩
    -- self.gone
    have keep2 : ∀ b o, b ≠ x → H b = some o → upd H2 x (.ins C dx (putF "runs" (.ref pr) (putF "size" (.int s) []))) b = some o := fun b o hb e => by
      rw [upd_ne hb]
      exact e2 _ _ (by rw [upd_ne hb]; exact e)
    have hlen : (ns.length : Int) ≤ (us.length : Int) - 0 := asc_few A0.asc A0.inn (by omega)
    have few := A0.few
    refine ⟨_, rfl, a, us, rfl, .inl (SqL.of (keep2 _ _ nax A0.ha)), _, rfl, (us.length : Int), g, ns, rfl, keep2 _ _ ngx A0.hg, A0.asc, A0.inn, by omega, by omega, fun H3 pg e3 hpg hpg2 => ?_⟩
    have hpx2 : pg ≠ x := fun z => by
      rw [z, upd_same] at hpg
      cases hpg
    have hpg0 : H pg = none := by
      cases c : H pg with
      | none => rfl
      | some o =>
        rw [keep2 _ _ hpx2 c] at hpg
        cases hpg
    have hx3 := e3 _ _ (upd_same (H := H2) (a := x) (o := .ins C dx (putF "runs" (.ref pr) (putF "size" (.int s) []))))
    refine ⟨_, rfl, x, C, dx, _, rfl, hx3, hM.cl T, hM.nG T, (by show 2 < 1000; decide), ?_⟩
    refine k _ pr pg (fun b o hb e => ?_) hpr0 hpg0 upd_same ?_ ?_
    · rw [upd_ne hb]
      exact e3 _ _ (keep2 _ _ hb e)
    · rw [upd_ne hpx]
      exact e3 _ _ (by rw [upd_ne hpx]; exact hpr2)
    · rw [upd_ne hpx2]
      exact hpg2
end
end K03


set_option Elab.async false
set_option linter.all false
set_option maxRecDepth 100000
set_option maxHeartbeats 4000000
/-! a == b by an own __eq__ that answers True or False; len(a) by an own __len__. -/
namespace L2
open PySem PySem.Spec PyProof.Rows
section
variable {X : Cx} {k : Nat} {f C : Addr} {fd : FuncData} {ps : List Str} {sp : Sp} {E : XK}
/-- a == b, a of the class C whose __eq__ is the def at f -/
def rOwnEq (K : PySem.W.Frag) (C : Addr) (sp : Sp) : R2 := fun x y H Q => ∃ a b C' dx dy fs gs, x = .ref a ∧ y = .ref b ∧ H a = some (.ins C dx fs) ∧ H b = some (.ins C' dy gs) ∧ PySem.W.notFirst K C (.ref C') = true ∧
  sp [.ref a, .ref b] H (fun v H' => ∃ t, v = .bl t ∧ Q (.bl t) H') E0
theorem op_ownEq (F : FnOk X.prog X.w X.K X.mg X.base CX0 k f fd ps sp) (hs : PySem.W.findIn X.K (.ref C) "__eq__" = some (some (.ref f))) (hf : PySem.W.isFn X.K (.ref f) = true) (hb : Binds X.K fd ps []) (hr : Room k X.A) :
    OpR X (compareOp .Eq) (rOwnEq X.K C sp) := by
  intro pins s σ H x y v u Q I rx ry hq
  obtain ⟨a, b, C', dx, dy, fs, gs, rfl, rfl, ha, hb', hn, hsp⟩ := hq
  cases rx
  cases ry
  obtain ⟨mA, J, _⟩ := ins_get I.hok ha
  obtain ⟨mB, J', _⟩ := ins_get I.hok hb'
  obtain ⟨od, J, _⟩ := J.look
  obtain ⟨od', J', _⟩ := J'.look
  obtain ⟨m, hF⟩ := I.fr
  show wpAny (model X.prog X.w) X.A (richCompare .Eq (.ref a) (.ref b)) (EP X pins σ Q) X.xe s
  refine PySem.W.cmp_K (op := .Eq) (tb := .ref C') hr.units0 hF I.ok.mod.kin J J'.type hn hs hf ?_
  have r2 : Vals [V.ref a, V.ref b] [Value.ref a, Value.ref b] := .cons rfl (.cons rfl .nil)
  refine wpAny_mono (run_fn (Q := fun v H' => ∃ t, v = .bl t ∧ Q (.bl t) H') (us := [.ref a, .ref b]) (vs := [.ref a, .ref b]) (dvs := []) F hr hb .nil pass0 I r2 hsp) (fun w s' hz => ?_) fun _ _ z => z
  obtain ⟨z, H', I', rz, t, ez, q⟩ := hz
  subst ez
  cases rz
  exact ⟨.bl t, H', I', rfl, q⟩
/-- len(a), a of the class C whose __len__ is the def at f -/
def rOwnLen (C : Addr) (sp : Sp) : List V → Hp → VK → Prop := fun xs H Q => ∃ a dx fs, xs = [.ref a] ∧ H a = some (.ins C dx fs) ∧ sp [.ref a] H (fun v H' => ∃ n : Nat, v = .int n ∧ n ≤ 16777216 ∧ Q (.int n) H') E0
theorem call_lenOwn (F : FnOk X.prog X.w X.K X.mg X.base CX0 k f fd ps sp) (hs : PySem.W.findIn X.K (.ref C) "__len__" = some (some (.ref f))) (hf : PySem.W.isFn X.K (.ref f) = true) (hb : Binds X.K fd ps []) (hr : Room (k + 1) X.A) :
    CallR X (.builtin "len") (rOwnLen C sp) := by
  intro pins s σ H xs us Q I r hq
  obtain ⟨a, dx, fs, rfl, ha, hsp⟩ := hq
  obtain ⟨u, rfl, rx⟩ := vals1 r
  cases rx
  obtain ⟨mA, J, _⟩ := ins_get I.hok ha
  obtain ⟨od, J, _⟩ := J.look
  obtain ⟨m, hF⟩ := I.fr
  refine PySem.W.len_K hF I.ok.mod.kin J hs hf ?_
  have r2 : Vals [V.ref a] [Value.ref a] := .cons rfl .nil
  have hl := F.len _ _ _ _ hsp
  refine wpAny_call (codeAny_mono (F.run X.A.in1 X.stack s H ⟨[.ref a], []⟩ [.ref a] [.ref a] _ E0 hr.in1 I.env0.in1 (by
    have := hb s [.ref a] I.kIn (by simpa using hl)
    simpa using this) r2 hsp) fun r s' hq => ?_)
  cases r with
  | error e => exact hq.elim
  | ok fl =>
    cases fl with
    | ret w =>
      obtain ⟨z, H', I', rz, n, ez, hn, q⟩ := I.after hq
      subst ez
      obtain ⟨t, rfl⟩ := rz
      exact ⟨⟨by omega, by omega⟩, .int n, H', I'.tok _, ⟨_, rfl⟩, q⟩
    | next => exact False.elim hq
    | brk => exact False.elim hq
    | cont => exact False.elim hq
end
end L2


set_option Elab.async false
set_option linter.all false
set_option maxRecDepth 100000
set_option maxHeartbeats 4000000
namespace K03
open PySem PySem.Spec PyProof.Rows L2
open Evl (Ex)
/-- a market stands at x -/
structure Mkt (K : PySem.W.Frag) (H : Hp) (x : Addr) (kind : Str) (s : Int) (us : List V) (rs : List (Int × Int)) (ns : List Int) : Prop where
  ob : ∃ C dx pr pg, IsM K C kind ∧ H x = some (.ins C dx (mflds s pr pg)) ∧ H pr = some (.tup us) ∧ H pg = some (.tup (ns.map V.int))
  runs : Runs H us rs
theorem Mkt.ex {K : PySem.W.Frag} {H H' : Hp} {x : Addr} {kind : Str} {s : Int} {us : List V} {rs : List (Int × Int)} {ns : List Int} (h : Mkt K H x kind s us rs ns) (e : Ex H H') : Mkt K H' x kind s us rs ns := by
  obtain ⟨C, dx, pr, pg, a, b, c, d⟩ := h.ob
  exact ⟨⟨C, dx, pr, pg, a, e _ _ b, e _ _ c, e _ _ d⟩, h.runs.ex e⟩
section
variable {w : World} {K : PySem.W.Frag} {mg : Str → Option Value} {base : Heap} {C : Addr} {kind : Str}
theorem made {H : Hp} {x dx a g : Addr} {s : Int} {us : List V} {rs : List (Int × Int)} {ns : List Int} {Q : Hp → Prop} {E : XK} (hM : IsM K C kind) (A0 : MArg H s a g us rs ns) (hx : H x = none) (hdx : H dx = none) (hne : dx ≠ x)
    (k : ∀ H', Ex H H' → Mkt K H' x kind s us rs ns → Q H') : SupI.spSup C (spMarket K) ([.ref x, .int s, .ref a] ++ [.ref g]) (upd (upd H dx (.own x)) x (.ins C dx [])) (fun v H3 => v = .non ∧ Q H3) E := by
  have keep : ∀ b o, H b = some o → upd (upd H dx (.own x)) x (.ins C dx []) b = some o := fun b o e => by
    rw [upd_ne (ne_of_none e hx), upd_ne (ne_of_none e hdx)]
    exact e
  refine ⟨⟨x, dx, [], _, _, _, rfl, upd_same⟩, C, x, dx, a, g, kind, s, us, rs, ns, rfl, hM, upd_same, ⟨keep _ _ A0.ha, A0.runs.mono fun t xs e => keep _ _ e, A0.fits, A0.few, keep _ _ A0.hg, A0.asc, A0.inn, A0.size⟩, fun H' pr pg kp hpr hpg h1 h2 h3 => ⟨rfl, ?_⟩⟩
  have e : Ex H H' := fun b o q => kp b o (ne_of_none q hx) (keep b o q)
  exact k H' e ⟨⟨C, dx, pr, pg, hM, h1, h2, h3⟩, A0.runs.ex e⟩
theorem lookup_of {α : Type} {l : List (Str × α)} {y : Str} {v : α} (h : l.lookup y = some v) : (y, v) ∈ l := PySem.mem_of_lookup h
/-- Join.__init__ and Lap.__init__ -/
theorem ok_Join_init (T : Ctx K mg) : ∃ fd, FnOk PP w K mg base CX0 6 (He.ma K (He.ga K "Join") "__init__") fd ["self", "size", "runs", "gone"] (SupI.spSup (He.ga K "Join") (spMarket K)) ∧ KBn K fd ["self", "size", "runs", "gone"] 3 ["gone"] (fun us ws => us ++ ws) (fun vs zs => vs ++ zs) := by
  obtain ⟨fd2, F2⟩ := T.d_Market___init__
  obtain ⟨fd, S, hc⟩ := T.sup_Join
  have G2 := ok_Market_init (w := w) (base := base) T F2
  obtain ⟨mv, hb⟩ := FunD.kbinds0 (ps := ["self", "size", "runs", "gone"]) F2 3 ["gone"] [] (fun us _ ws => us ++ ws) (by intro z; cases z) (fun q hq => by cases hq) (fun r1 _ r3 => r1.append r3) (fun D doc pm an cdv ct us mv ws h1 h2 h3 => match us, ws, h1, h3 with
    | [_, _, _], [_], _, _ => rfl)
  refine ⟨fd, SupI.fn_super (ns := "self") (na := "size") (nb := "runs") (nk := "gone") (c1 := "") S hc rfl rfl rfl (fun y hy => ?_) (by decide +kernel) (by decide +kernel) rfl rfl (by decide +kernel) rfl rfl (fun u1 u2 u3 u4 i y u h1 h2 => ?_) (fun env => rfl) G2 hb, ?_⟩
  · have z : ∀ p ∈ (defScope s_Join___init__).names, (p.2 = .cell ∨ p.2 = .free) → p.1 = "__class__" := by decide +kernel
    rcases hy with h | h
    · exact z _ (lookup_of h) (.inl rfl)
    · exact z _ (lookup_of h) (.inr rfl)
  · match i, h1, h2 with
    | 0, h1, h2 => cases h1; cases h2; rfl
    | 1, h1, h2 => cases h1; cases h2; rfl
    | 2, h1, h2 => cases h1; cases h2; rfl
    | 3, h1, h2 => cases h1; cases h2; rfl
  · obtain ⟨oc, od, an, Dk, doc, pm, ct, osl, rfl, _⟩ := S.lk
    exact ⟨fun s us ws X h1 h2 => match us, ws, h1, h2 with
      | [_, _, _], [_], _, _ => BindsTo.of_eq (by first | rfl | with_unfolding_all rfl | kernel_rfl), fun r1 r2 => r1.append r2⟩
theorem ok_Lap_init (T : Ctx K mg) : ∃ fd, FnOk PP w K mg base CX0 6 (He.ma K (He.ga K "Lap") "__init__") fd ["self", "size", "runs", "gone"] (SupI.spSup (He.ga K "Lap") (spMarket K)) ∧ KBn K fd ["self", "size", "runs", "gone"] 3 ["gone"] (fun us ws => us ++ ws) (fun vs zs => vs ++ zs) := by
  obtain ⟨fd2, F2⟩ := T.d_Market___init__
  obtain ⟨fd, S, hc⟩ := T.sup_Lap
  have G2 := ok_Market_init (w := w) (base := base) T F2
  obtain ⟨mv, hb⟩ := FunD.kbinds0 (ps := ["self", "size", "runs", "gone"]) F2 3 ["gone"] [] (fun us _ ws => us ++ ws) (by intro z; cases z) (fun q hq => by cases hq) (fun r1 _ r3 => r1.append r3) (fun D doc pm an cdv ct us mv ws h1 h2 h3 => match us, ws, h1, h3 with
    | [_, _, _], [_], _, _ => rfl)
  refine ⟨fd, SupI.fn_super (ns := "self") (na := "size") (nb := "runs") (nk := "gone") (c1 := "") S hc rfl rfl rfl (fun y hy => ?_) (by decide +kernel) (by decide +kernel) rfl rfl (by decide +kernel) rfl rfl (fun u1 u2 u3 u4 i y u h1 h2 => ?_) (fun env => rfl) G2 hb, ?_⟩
  · have z : ∀ p ∈ (defScope s_Lap___init__).names, (p.2 = .cell ∨ p.2 = .free) → p.1 = "__class__" := by decide +kernel
    rcases hy with h | h
    · exact z _ (lookup_of h) (.inl rfl)
    · exact z _ (lookup_of h) (.inr rfl)
  · match i, h1, h2 with
    | 0, h1, h2 => cases h1; cases h2; rfl
    | 1, h1, h2 => cases h1; cases h2; rfl
    | 2, h1, h2 => cases h1; cases h2; rfl
    | 3, h1, h2 => cases h1; cases h2; rfl
  · obtain ⟨oc, od, an, Dk, doc, pm, ct, osl, rfl, _⟩ := S.lk
    exact ⟨fun s us ws X h1 h2 => match us, ws, h1, h2 with
      | [_, _, _], [_], _, _ => BindsTo.of_eq (by first | rfl | with_unfolding_all rfl | kernel_rfl), fun r1 r2 => r1.append r2⟩
end
end K03


set_option Elab.async false
set_option linter.all false
set_option maxRecDepth 100000
set_option maxHeartbeats 4000000
namespace K03
open PySem PySem.Spec PyProof.Rows L2
open Evl (Ex)
theorem iteT' {c : Bool} {A B : Prop} (hc : c = true) (h : A) : if c = true then A else B := by
  rw [if_pos hc]
  exact h
theorem Runs.snoc {H : Hp} {us : List V} {rs : List (Int × Int)} {t : Addr} {r : Int × Int} (h : Runs H us rs) (ht : H t = some (.tup [.int r.1, .int r.2])) : Runs H (us ++ [.ref t]) (rs ++ [r]) := by
  refine ⟨by simp [h.len], fun i q hq => ?_⟩
  by_cases c : i < rs.length
  · rw [List.getElem?_append_left c] at hq
    obtain ⟨t', a, b⟩ := h.at_ i q hq
    exact ⟨t', by rw [List.getElem?_append_left (by rw [h.len]; exact c)]; exact a, b⟩
  · have e : i = rs.length := by
      have := (List.getElem?_eq_some_iff.mp hq).1
      simp at this
      omega
    subst e
    rw [List.getElem?_concat_length] at hq
    cases hq
    exact ⟨t, by rw [← h.len, List.getElem?_concat_length], ht⟩
theorem Runs.nil {H : Hp} : Runs H [] [] := ⟨rfl, fun i r h => by simp at h⟩
end K03


set_option Elab.async false
set_option linter.all false
set_option maxRecDepth 100000
set_option maxHeartbeats 4000000
namespace K03
open PySem PySem.Spec PyProof.Rows L2
open Evl (Ex)
/-! ### draws -/
/-- all but D stays -/
def Kp (D : Addr) (H H' : Hp) : Prop := ∀ b o, b ≠ D → H b = some o → H' b = some o
/-- the draws stand at D -/
def Dr (D : Addr) (H : Hp) : Prop := ∃ ns : List Int, H D = some (.lst (ns.map V.int))
theorem Kp.refl (D : Addr) (H : Hp) : Kp D H H := fun _ _ _ h => h
theorem Kp.trans {D : Addr} {H H1 H2 : Hp} (a : Kp D H H1) (b : Kp D H1 H2) : Kp D H H2 := fun x o n h => b x o n (a x o n h)
theorem Kp.of {D : Addr} {H H' : Hp} (e : Ex H H') : Kp D H H' := fun b o _ h => e b o h
theorem Dr.ex {D : Addr} {H H' : Hp} (d : Dr D H) (e : Ex H H') : Dr D H' := by
  obtain ⟨ns, h⟩ := d
  exact ⟨ns, e _ _ h⟩
theorem Kp.fresh {D : Addr} {H H' : Hp} {p : Addr} (k : Kp D H H') (d : Dr D H') (h : H' p = none) : H p = none := by
  cases c : H p with
  | none => rfl
  | some o =>
    by_cases e : p = D
    · obtain ⟨ns, q⟩ := d
      rw [← e, h] at q
      cases q
    · rw [k p o e c] at h
      cases h
theorem Kp.tup {D : Addr} {H H' : Hp} {t : Addr} {xs : List V} (k : Kp D H H') (d : Dr D H) (h : H t = some (.tup xs)) : H' t = some (.tup xs) := by
  obtain ⟨ns, q⟩ := d
  exact k _ _ (ne_of h q (by intro z; cases z)) h
theorem Kp.runs {D : Addr} {H H' : Hp} {us : List V} {rs : List (Int × Int)} (k : Kp D H H') (d : Dr D H) (h : Runs H us rs) : Runs H' us rs := h.mono fun _ _ q => k.tup d q
theorem Kp.ne {D p : Addr} {H : Hp} (d : Dr D H) (h : H p = none) : p ≠ D := by
  obtain ⟨ns, q⟩ := d
  intro z
  rw [z, q] at h
  cases h
theorem iteF' {c : Bool} {A B : Prop} (hc : c = false) (h : B) : if c = true then A else B := by
  rw [if_neg (by rw [hc]; exact Bool.false_ne_true)]
  exact h
theorem abs_if {D : Ends} {l0 l1 l2 l4 l5 : Option V} {c0 : Int} {H : Hp} (go : ∀ c1 : Int, D.nx [l0, l1, l2, some (.int c1), l4, l5] H) :
    tIfS (tTest (tOp (rI0 fun i j => .bl (decide (i < j))) (tVar 3) (tC (.int 0)))) (tAsg (tOp (rI0 fun i j => .int (i - j)) (tC (.int 1)) (tVar 3)) (gName 3)) tNext D [l0, l1, l2, some (.int c0), l4, l5] H := by
  refine ⟨_, rfl, _, _, rfl, rfl, _, rfl, ?_⟩
  by_cases cz : c0 < 0
  · exact iteT' (decide_eq_true cz) ⟨_, rfl, _, _, rfl, rfl, go (1 - c0)⟩
  · exact iteF' (decide_eq_false cz) (go c0)
section
variable {w : World} {K : PySem.W.Frag} {mg : Str → Option Value} {base : Heap}
def spTake : Sp := fun vs H Q _ => ∃ (D : Addr) (m : Int), vs = [.ref D, .int m] ∧ Dr D H ∧ 0 < m ∧ ∀ r H', 0 ≤ r → r < m → Kp D H H' → Dr D H' → Q (.int r) H'
theorem sc_take : FnScope ["_law_draws_here", "_law_many"] ["_law_draws_here", "_law_many"] (defScope s__law_take) := ⟨rfl, rfl, rfl, by decide +kernel, rfl, by decide +kernel, by decide +kernel⟩
theorem has_take (T : Ctx K mg) : Has w K mg base CX0 "_law_take" 1 ["_law_draws_here", "_law_many"] spTake := by
  refine has_of (st := s__law_take) (f := He.ga K "_law_take") T.d__law_take T.g__law_take (fun _ _ _ _ _ _ us hl => match us, hl with | [_, _], _ => rfl) fun fd F => ?_
  refine ok0 F sc_take (fun vs H Q E h => ?_) (fun cdv A outer s0 H vs Q E hr h => ?_)
  · obtain ⟨D, m, rfl, _⟩ := h
    rfl
  · obtain ⟨D, m, rfl, ⟨ns, hD⟩, hm, k⟩ := h
    have nd := sc_take.nd
    refine ⟨_, pss_cons (ps_if (pt_cmpR op_eq (pe_callB call_len_seq (by rfl) T.b_len PySem.boot_len (pa_cons (pv 0) pa_nil)) pe_int (nomark _)) (pss_one (ps_ret pe_int)) pss_nil)
      (pss_one (ps_ret (pe_op op_mod (pe_callTy call_int1 (by rfl) T.b_int (by decide +kernel) (pa_cons (pe_bm0 PySem.F.plainAttrs_list PySem.F.slot_list_pop PySem.F.type_list_pop mt_pop (pv 0)) pa_nil)) (pv 1)))), ?_⟩
    refine ⟨_, rfl, D, _, rfl, .inl (SqL.of hD), rfl, _, rfl, ?_⟩
    by_cases c : ns = []
    · subst c
      refine iteT (k 0 H (Int.le_refl _) hm (Kp.refl _ _) ⟨[], hD⟩)
    · have hl : ns.length ≠ 0 := fun z => c (List.length_eq_zero_iff.mp z)
      rw [decide_eq_false (show ¬ (V.int ((ns.map V.int).length : Int) = V.int 0) from fun z => by
        have : ((ns.map V.int).length : Int) = 0 := by injection z
        rw [List.length_map] at this
        omega)]
      refine iteF ?_
      have hb : ns.length - 1 < ns.length := by omega
      refine ⟨_, rfl, .inl ⟨rfl, _, SqL.of hD⟩, D, _, .int ns[ns.length - 1], rfl, rfl, hD, ?_, .inl ⟨_, rfl, _, rfl, _, _, rfl, rfl, hm, ?_⟩⟩
      · rw [List.length_map, List.getElem?_map, List.getElem?_eq_getElem hb]
        rfl
      · refine k _ _ (Int.emod_nonneg _ (by omega)) (Int.emod_lt_of_pos _ hm) (fun b o n h => by rw [upd_ne n]; exact h) ⟨ns.dropLast, ?_⟩
        rw [upd_same, List.map_dropLast]
/-! ### _law_draws -/
def spDraws (K : PySem.W.Frag) : Sp := fun vs H Q _ => ∃ (a : Addr) (ns : List Int), vs = [.ref a] ∧ SqL K H a (ns.map V.int) ∧ ns.length ≤ 63 ∧ ∀ H' D, Ex H H' → H D = none → Dr D H' → Q (.ref D) H'
theorem sc_draws : FnScope ["_law_script", "_law_draws_here", "_law_at", "_law_cell", "_law_k", "_law_number"] ["_law_script"] (defScope s__law_draws) := ⟨rfl, rfl, rfl, by decide +kernel, rfl, by decide +kernel, by decide +kernel⟩
theorem has_draws (T : Ctx K mg) : Has w K mg base CX0 "_law_draws" 1 ["_law_script"] (spDraws K) := by
  refine has_of (st := s__law_draws) (f := He.ga K "_law_draws") T.d__law_draws T.g__law_draws (fun _ _ _ _ _ _ us hl => match us, hl with | [_], _ => rfl) fun fd F => ?_
  refine ok0 F sc_draws (fun vs H Q E h => ?_) (fun cdv A outer s0 H vs Q E hr h => ?_)
  · obtain ⟨a, ns, rfl, _⟩ := h
    rfl
  · obtain ⟨a, ns, rfl, hS, h63, k⟩ := h
    have nd := sc_draws.nd
    refine ⟨_, pss_cons (ps_set (i := 1) nd rfl (.inl rfl) (pe_lst pa_nil))
      (pss_cons (ps_for PassesOwn.never rfl (pi_range1 (by rfl) T.b_range (pa_cons (pe_callB (call_min2 rfl) (by rfl) T.b_min (by decide +kernel) (pa_cons (pe_callB call_len_seq (by rfl) T.b_len PySem.boot_len (pa_cons (pv 0) pa_nil)) (pa_cons pe_int pa_nil))) pa_nil)) (pg_name (i := 2) nd rfl (.inl rfl))
        (pss_cons (ps_set (i := 3) nd rfl (.inl rfl) (pe_callTy call_int1 (by rfl) T.b_int (by decide +kernel) (pa_cons (pe_ix ix_list (pv 0) (pv 2) (fun _ _ => rfl)) pa_nil)))
        (pss_cons (ps_if (pt_cmpR op_lt (pv 3) pe_int (nomark _)) (pss_one (ps_set (i := 3) nd rfl (.inl rfl) (pe_op op_sub pe_int (pv 3)))) pss_nil)
        (pss_one (ps_if (pt_cmpR op_ge (pv 3) (pe_op op_pow pe_int pe_int) (nomark _))
          (pss_one (ps_for PassesOwn.never rfl (pi_range1 (by rfl) T.b_range (pa_cons pe_int pa_nil)) (pg_name (i := 4) nd rfl (.inl rfl))
            (pss_one (ps_if (pt_cmpR op_gt (pv 3) pe_int (nomark _)) (pss_cons (ps_expr (pe_bm PySem.F.plainAttrs_list PySem.F.slot_list_append PySem.F.type_list_append mt_append (pv 1) (pa_cons (pe_op op_mod (pe_callTy call_int1 (by rfl) T.b_int (by decide +kernel) (pa_cons (pv 3) pa_nil)) pe_int) pa_nil)))
              (pss_one (ps_set (i := 3) nd rfl (.inl rfl) (pe_op op_fdiv (pv 3) pe_int)))) pss_nil))))
          (pss_cons (ps_set (i := 5) nd rfl (.inl rfl) (pe_op op_mod (pe_callTy call_int1 (by rfl) T.b_int (by decide +kernel) (pa_cons (pe_op op_add (pe_op op_add (pe_op op_mul (pv 3) pe_int) (pe_op op_mul (pv 2) pe_int)) pe_int) pa_nil)) pe_int))
          (pss_one (ps_for PassesOwn.never rfl (pi_range1 (by rfl) T.b_range (pa_cons pe_int pa_nil)) (pg_name (i := 4) nd rfl (.inl rfl))
            (pss_cons (ps_set (i := 5) nd rfl (.inl rfl) (pe_op op_mod (pe_callTy call_int1 (by rfl) T.b_int (by decide +kernel) (pa_cons (pe_op op_add (pe_op op_add (pe_op op_add (pe_op op_mul (pv 5) (pv 5)) (pe_op op_mul (pv 4) pe_int)) (pv 2)) pe_int) pa_nil)) pe_int))
            (pss_one (ps_expr (pe_bm PySem.F.plainAttrs_list PySem.F.slot_list_append PySem.F.type_list_append mt_append (pv 1) (pa_cons (pv 5) pa_nil)))))))))))))
      (pss_cons (ps_expr (pe_bm0 PySem.F.plainAttrs_list PySem.F.slot_list_reverse PySem.F.type_list_reverse mt_reverse (pv 1)))
      (pss_one (ps_ret (pv 1))))), ?_⟩
    refine ⟨(by show 0 ≤ sizeLine; decide), fun D hD => ?_⟩
    have e1 : Ex H (upd H D (.lst [])) := Ex.new hD
    have hD1 : upd H D (.lst []) D = some (.lst []) := upd_same
    generalize upd H D (.lst []) = H1 at *
    refine ⟨_, rfl, a, _, rfl, .inl (Evl.ex_l e1 hS), _, _, rfl, ?_⟩
    have hjn : (if (63 : Int) < ((ns.map V.int).length : Int) then 63 else ((ns.map V.int).length : Int)) ≤ (ns.length : Int) ∧ (if (63 : Int) < ((ns.map V.int).length : Int) then 63 else ((ns.map V.int).length : Int)) ≤ 63 ∧ 0 ≤ (if (63 : Int) < ((ns.map V.int).length : Int) then 63 else ((ns.map V.int).length : Int)) := by
      rw [List.length_map]
      split <;> omega
    generalize (if (63 : Int) < ((ns.map V.int).length : Int) then 63 else ((ns.map V.int).length : Int)) = j at *
    refine ⟨_, rfl, ?_, ?_, for_it walk_range (fun i σ H' => ∃ (v2 v3 v4 v5 : Option V) (ms : List Int), σ = [some (.ref a), some (.ref D), v2, v3, v4, v5] ∧ Ex H H' ∧ H' D = some (.lst (ms.map V.int)) ∧ ms.length ≤ 60 * i) ⟨none, none, none, none, [], rfl, e1, hD1, Nat.zero_le _⟩ (fun _ _ _ _ _ => trivial) ?_ ?_⟩
    · omega
    · omega
    · rintro i v σ H2 H3 hi ⟨v2, v3, v4, v5, ms, rfl, e2, hD2, hms⟩ ⟨rfl, rfl⟩
      have hin : i < ns.length := by omega
      have hi63 : i < 63 := by omega
      have hix : atI (ns.map V.int) (0 + (i : Nat)) = some (V.int ns[i]) := by
        rw [Int.zero_add]
        exact atI_nat (by rw [List.getElem?_map, List.getElem?_eq_getElem hin]; rfl)
      refine ⟨_, rfl, _, rfl, a, _, _, _, rfl, rfl, Evl.ex_l e2 hS, hix, .inl ⟨_, rfl, ?_⟩⟩
      generalize ns[i] = c0
      refine abs_if fun c1 => ?_
      clear hix
      refine ⟨_, rfl, _, _, rfl, rfl, (by refine ⟨?_, ?_, ?_⟩ <;> decide), _, _, rfl, rfl, _, rfl, ?_⟩
      by_cases cg : (10 : Int) ^ (18 : Int).toNat ≤ c1
      · refine iteT' (decide_eq_true cg) ⟨_, rfl, ?_, ?_, for_it walk_range (fun j σ H' => ∃ (c2 : Int) (v4 : Option V) (ms2 : List Int), σ = [some (.ref a), some (.ref D), some (.int (0 + (i : Nat))), some (.int c2), v4, v5] ∧ Ex H H' ∧ H' D = some (.lst (ms2.map V.int)) ∧ ms2.length ≤ 60 * i + j)
          ⟨c1, v4, ms, rfl, e2, hD2, by omega⟩ (fun _ _ _ _ _ => trivial) ?_ ?_⟩
        · decide
        · decide
        · rintro j' v σ H4 H5 hj ⟨c2, v4, ms2, rfl, e4, hD4, hm4⟩ ⟨rfl, rfl⟩
          have hj60 : j' < 60 := hj
          refine ⟨_, rfl, _, _, rfl, rfl, _, rfl, ?_⟩
          by_cases cc : 0 < c2
          · rw [decide_eq_true cc]
            refine iteT ⟨_, rfl, .inl ⟨rfl, _, SqL.of hD4⟩, _, rfl, .inl ⟨_, rfl, _, _, rfl, rfl, (show (0 : Int) < 24 by decide), D, _, _, rfl, rfl, hD4, ?_, ?_⟩⟩
            · rw [List.length_map]
              exact Evl.sz_lt (by omega)
            · refine ⟨_, rfl, _, _, rfl, rfl, ⟨by decide, by decide⟩, ?_⟩
              refine ⟨_, _, ms2 ++ [c2 % 24], rfl, Evl.Ex.mut e4 hD, ?_, ?_⟩
              · rw [upd_same, List.map_append]
                rfl
              · rw [List.length_append]
                have : [c2 % 24].length = 1 := rfl
                omega
          · rw [decide_eq_false cc]
            exact iteF ⟨_, _, ms2, rfl, e4, hD4, by omega⟩
        · rintro σ H4 ⟨c2, v4, ms2, rfl, e4, hD4, hm4⟩
          have : ((60 : Int) - 0).toNat = 60 := rfl
          refine ⟨_, _, _, _, ms2, rfl, e4, hD4, ?_⟩
          have h60 : (Int.toNat 60) = 60 := rfl
          omega
      · refine iteF' (decide_eq_false cg) ?_
        refine ⟨_, rfl, _, _, rfl, rfl, .inr ⟨by decide, by decide⟩, _, rfl, _, _, rfl, rfl, .inr ⟨by decide, by decide⟩, _, _, rfl, rfl, _, _, rfl, rfl, .inl ⟨_, rfl, _, _, rfl, rfl, (show (0 : Int) < 2147483647 by decide), ?_⟩⟩
        have hb0 := Int.emod_nonneg (c1 * 48271 + (0 + (i : Nat)) * 69621 + 1) (show (2147483647 : Int) ≠ 0 by decide)
        have hb1 := Int.emod_lt_of_pos (c1 * 48271 + (0 + (i : Nat)) * 69621 + 1) (show (0 : Int) < 2147483647 by decide)
        refine ⟨_, rfl, ?_, ?_, for_it walk_range (fun j σ H' => ∃ (nn : Int) (v4 : Option V) (ms2 : List Int), σ = [some (.ref a), some (.ref D), some (.int (0 + (i : Nat))), some (.int c1), v4, some (.int nn)] ∧ (0 ≤ nn ∧ nn < 2147483647) ∧ Ex H H' ∧ H' D = some (.lst (ms2.map V.int)) ∧ ms2.length ≤ 60 * i + j)
          ⟨_, v4, ms, rfl, ⟨hb0, hb1⟩, e2, hD2, by omega⟩ (fun _ _ _ _ _ => trivial) ?_ ?_⟩
        · decide
        · decide
        · rintro j' v σ H4 H5 hj ⟨nn, v4, ms2, rfl, hnn, e4, hD4, hm4⟩ ⟨rfl, rfl⟩
          have hj60 : j' < 6 := hj
          refine ⟨_, rfl, _, rfl, _, _, rfl, rfl, .inl ⟨by omega, by omega⟩, _, rfl, _, _, rfl, rfl, .inr ⟨by decide, by decide⟩, _, _, rfl, rfl, _, rfl, _, _, rfl, rfl, _, _, rfl, rfl, .inl ⟨_, rfl, _, _, rfl, rfl, (show (0 : Int) < 2147483563 by decide), ?_⟩⟩
          have hc0 := Int.emod_nonneg (nn * nn + (0 + (j' : Nat)) * 40692 + (0 + (i : Nat)) + 7) (show (2147483563 : Int) ≠ 0 by decide)
          have hc1 := Int.emod_lt_of_pos (nn * nn + (0 + (j' : Nat)) * 40692 + (0 + (i : Nat)) + 7) (show (0 : Int) < 2147483563 by decide)
          refine ⟨_, rfl, .inl ⟨rfl, _, SqL.of hD4⟩, _, rfl, D, _, _, rfl, rfl, hD4, ?_, ?_⟩
          · rw [List.length_map]
            exact Evl.sz_lt (by omega)
          · refine ⟨_, _, ms2 ++ [(nn * nn + (0 + (j' : Nat)) * 40692 + (0 + (i : Nat)) + 7) % 2147483563], rfl, ⟨hc0, by omega⟩, Evl.Ex.mut e4 hD, ?_, ?_⟩
            · rw [upd_same, List.map_append]
              rfl
            · rw [List.length_append]
              have : [(nn * nn + (0 + (j' : Nat)) * 40692 + (0 + (i : Nat)) + 7) % 2147483563].length = 1 := rfl
              omega
        · rintro σ H4 ⟨nn, v4, ms2, rfl, hnn, e4, hD4, hm4⟩
          refine ⟨_, _, _, _, ms2, rfl, e4, hD4, ?_⟩
          have h6 : (Int.toNat 6) = 6 := rfl
          omega
    · rintro σ H2 ⟨v2, v3, v4, v5, ms, rfl, e2, hD2, hms⟩
      refine ⟨_, rfl, .inl ⟨rfl, _, SqL.of hD2⟩, D, _, rfl, rfl, hD2, _, rfl, ?_⟩
      refine k _ _ (Evl.Ex.mut e2 hD) hD ⟨ms.reverse, ?_⟩
      rw [upd_same, List.map_reverse]
end
end K03


set_option Elab.async false
set_option linter.all false
set_option maxRecDepth 100000
set_option maxHeartbeats 4000000
namespace K03
open PySem PySem.Spec PyProof.Rows L2
open Evl (Ex)
theorem _root_.L2.PS.imp {X : Cx} {st : Stmt} {t t' : TS} (h : PS X st t) (i : ∀ D σ H, t' D σ H → t D σ H) : PS X st t' := ⟨fun pins s σ H D I q => h.run pins s σ H D I (i D σ H q)⟩
theorem _root_.L2.PE.imp {X : Cx} {e : Expr} {t t' : TE} (h : PE X e t) (i : ∀ σ H Q, t' σ H Q → t σ H Q) : PE X e t' := ⟨fun pins s σ H Q I q => h.run pins s σ H Q I (i σ H Q q)⟩
theorem _root_.L2.PT.imp {X : Cx} {e : Expr} {t t' : TT} (h : PT X e t) (i : ∀ σ H Q, t' σ H Q → t σ H Q) : PT X e t' := ⟨fun pins s σ H Q I q => h.run pins s σ H Q I (i σ H Q q)⟩
theorem Kp.mut {D R : Addr} {H H' : Hp} {o : HO} (k : Kp D H H') (h : H R = none) : Kp D H (upd H' R o) := fun b u n hb => by
  rw [upd_ne (ne_of_none hb h)]
  exact k b u n hb
/-- a list of runs under work: at R, at most b of them -/
structure LI (D R : Addr) (H : Hp) (s : Int) (b : Nat) (H' : Hp) : Prop where
  kp : Kp D H H'
  dr : Dr D H'
  li : ∃ us rs, H' R = some (.lst us) ∧ Runs H' us rs ∧ (∀ r ∈ rs, Fits s r) ∧ rs.length ≤ b
theorem LI.go {D R : Addr} {H : Hp} {s : Int} {b : Nat} {H1 H2 : Hp} (h : LI D R H s b H1) (hR : R ≠ D) (k : Kp D H1 H2) (d : Dr D H2) : LI D R H s b H2 := by
  obtain ⟨us, rs, a1, a2, a3, a4⟩ := h.li
  exact ⟨h.kp.trans k, d, us, rs, k _ _ hR a1, k.runs h.dr a2, a3, a4⟩
theorem LI.le {D R : Addr} {H : Hp} {s : Int} {b b' : Nat} {H1 : Hp} (h : LI D R H s b H1) (hb : b ≤ b') : LI D R H s b' H1 := by
  obtain ⟨us, rs, a1, a2, a3, a4⟩ := h.li
  exact ⟨h.kp, h.dr, us, rs, a1, a2, a3, Nat.le_trans a4 hb⟩
/-- (x, y) goes on the list -/
theorem LI.app {D R : Addr} {H : Hp} {s : Int} {b : Nat} {H1 : Hp} {x y : Int} (h : LI D R H s b H1) (hR : R ≠ D) (hR0 : H R = none) (hb : b ≤ 1000) (hf : Fits s (x, y)) {t : Addr} (ht : H1 t = none) :
    ∃ us, upd H1 t (.tup [.int x, .int y]) R = some (.lst us) ∧ us.length < sizeLine ∧ LI D R H s (b + 1) (upd (upd H1 t (.tup [.int x, .int y])) R (.lst (us ++ [.ref t]))) := by
  obtain ⟨us, rs, a1, a2, a3, a4⟩ := h.li
  have e1 : Ex H1 (upd H1 t (.tup [.int x, .int y])) := Ex.new ht
  have hl := a2.len
  have htR : t ≠ R := Ne.symm (ne_of_none a1 ht)
  refine ⟨us, e1 _ _ a1, small1000 (by omega), ⟨(h.kp.trans (Kp.of e1)).mut hR0, ?_, us ++ [.ref t], rs ++ [(x, y)], upd_same, ?_, ?_, ?_⟩⟩
  · obtain ⟨ms, hms⟩ := h.dr
    exact ⟨ms, by rw [upd_ne (Ne.symm hR)]; exact e1 _ _ hms⟩
  · refine Runs.snoc ((a2.ex e1).mono fun t' ys e => by rw [upd_ne (ne_of e (e1 _ _ a1) (by intro z; cases z))]; exact e) ?_
    rw [upd_ne htR, upd_same]
  · intro r hr
    rcases List.mem_append.mp hr with hr | hr
    · exact a3 r hr
    · rw [List.mem_singleton.mp hr]
      exact hf
  · rw [List.length_append]
    have : [(x, y)].length = 1 := rfl
    omega
section
variable {w : World} {K : PySem.W.Frag} {mg : Str → Option Value} {base : Heap}
def spChains : Sp := fun vs H Q _ => ∃ (D : Addr) (s : Int), vs = [.ref D, .int s] ∧ Dr D H ∧ 1 ≤ s ∧ s ≤ 8 ∧ ∀ R H', H R = none → LI D R H s 27 H' → Q (.ref R) H'
theorem sc_chains : FnScope ["_law_draws_here", "_law_size", "_law_runs", "_law_copy", "_law_start", "_law_k", "_law_stop"] ["_law_draws_here", "_law_size"] (defScope s__law_chains) := ⟨rfl, rfl, rfl, by decide +kernel, rfl, by decide +kernel, by decide +kernel⟩
theorem has_chains (T : Ctx K mg) : Has w K mg base CX0 "_law_chains" 2 ["_law_draws_here", "_law_size"] spChains := by
  obtain ⟨f1, fd1, m1, kp1, F1, b1⟩ := has_take (w := w) (base := base) T
  refine has_of (st := s__law_chains) (f := He.ga K "_law_chains") T.d__law_chains T.g__law_chains (fun _ _ _ _ _ _ us hl => match us, hl with | [_, _], _ => rfl) fun fd F => ?_
  refine ok0 F sc_chains (fun vs H Q E h => ?_) (fun cdv A outer s0 H vs Q E hr h => ?_)
  · obtain ⟨D, s, rfl, _⟩ := h
    rfl
  · obtain ⟨D, s, rfl, hD, hs1, hs8, k⟩ := h
    have nd := sc_chains.nd
    refine ⟨_, pss_cons (ps_set (i := 2) nd rfl (.inl rfl) (pe_lst pa_nil))
      (pss_cons (ps_for PassesOwn.never rfl (pi_range1 (by rfl) T.b_range (pa_cons (pe_op op_add pe_int (pe_call F1 hr (by rfl) m1 kp1 b1 .nil pass0 (pa_cons (pv 0) (pa_cons pe_int pa_nil)))) pa_nil)) (pg_name (i := 3) nd rfl (.inl rfl))
        (pss_cons (ps_set (i := 4) nd rfl (.inl rfl) pe_int)
        (pss_one (ps_for PassesOwn.never rfl (pi_range1 (by rfl) T.b_range (pa_cons (pv 1) pa_nil)) (pg_name (i := 5) nd rfl (.inl rfl))
          (pss_one (ps_if (pt_cmpR op_lt (pv 4) (pv 1) (nomark _))
            (pss_cons (ps_set (i := 6) nd rfl (.inl rfl) (pe_callB (call_min2 rfl) (by rfl) T.b_min (by decide +kernel) (pa_cons (pv 1) (pa_cons (pe_op op_add (pe_op op_add (pv 4) pe_int) (pe_call F1 hr (by rfl) m1 kp1 b1 .nil pass0 (pa_cons (pv 0) (pa_cons (pv 1) pa_nil)))) pa_nil))))
            (pss_cons (ps_expr (pe_bm PySem.F.plainAttrs_list PySem.F.slot_list_append PySem.F.type_list_append mt_append (pv 2) (pa_cons (pe_tup (pa_cons (pv 4) (pa_cons (pv 6) pa_nil))) pa_nil)))
            (pss_one (ps_set (i := 4) nd rfl (.inl rfl) (pv 6))))) pss_nil))))))
      (pss_cons (ps_for PassesOwn.never rfl (pi_range1 (by rfl) T.b_range (pa_cons (pe_call F1 hr (by rfl) m1 kp1 b1 .nil pass0 (pa_cons (pv 0) (pa_cons pe_int pa_nil))) pa_nil)) (pg_name (i := 5) nd rfl (.inl rfl))
        (pss_cons (ps_set (i := 4) nd rfl (.inl rfl) (pe_call F1 hr (by rfl) m1 kp1 b1 .nil pass0 (pa_cons (pv 0) (pa_cons (pv 1) pa_nil))))
        (pss_one (ps_expr (pe_bm PySem.F.plainAttrs_list PySem.F.slot_list_append PySem.F.type_list_append mt_append (pv 2) (pa_cons (pe_tup (pa_cons (pv 4) (pa_cons (pe_op op_add (pe_op op_add (pv 4) pe_int) (pe_call F1 hr (by rfl) m1 kp1 b1 .nil pass0 (pa_cons (pv 0) (pa_cons (pe_op op_sub (pv 1) (pv 4)) pa_nil)))) pa_nil))) pa_nil))))))
      (pss_one (ps_ret (pv 2))))), ?_⟩
    refine ⟨(by show 0 ≤ sizeLine; decide), fun R hR0 => ?_⟩
    have hRD : R ≠ D := Kp.ne hD hR0
    have L0 : LI D R H s 0 (upd H R (.lst [])) := ⟨Kp.of (Ex.new hR0), hD.ex (Ex.new hR0), [], [], upd_same, Runs.nil, (fun _ h => by cases h), Nat.le_refl _⟩
    generalize upd H R (.lst []) = H1 at *
    refine ⟨_, rfl, D, 3, rfl, L0.dr, by decide, fun r1 H2 h0 h1 k1 d1 => ⟨_, _, rfl, rfl, _, rfl, ?_, ?_, for_it walk_range (fun i σ H' => ∃ v3 v4 v5 v6 : Option V, σ = [some (.ref D), some (.int s), some (.ref R), v3, v4, v5, v6] ∧ LI D R H s (8 * i) H') ⟨_, _, _, _, rfl, L0.go hRD k1 d1⟩ (fun _ _ _ _ _ => trivial) ?_ ?_⟩⟩
    · omega
    · omega
    · rintro i v σ H3 H4 hi ⟨v3, v4, v5, v6, rfl, L3⟩ ⟨rfl, rfl⟩
      have hi3 : i < 3 := by omega
      refine ⟨_, rfl, _, rfl, ?_, ?_, for_it walk_range (fun j σ H' => ∃ (v3 v5 v6 : Option V) (st : Int), σ = [some (.ref D), some (.int s), some (.ref R), v3, some (.int st), v5, v6] ∧ 0 ≤ st ∧ LI D R H s (8 * i + j) H') ⟨_, _, _, 0, rfl, Int.le_refl _, L3⟩ (fun _ _ _ _ _ => trivial) ?_ ?_⟩
      · omega
      · omega
      · rintro j v σ H5 H6 hj ⟨v3, v5, v6, st, rfl, hst, L5⟩ ⟨rfl, rfl⟩
        refine ⟨_, rfl, _, rfl, _, _, rfl, rfl, _, rfl, ?_⟩
        by_cases c : st < s
        rotate_left
        · exact iteF' (decide_eq_false c) ⟨_, _, _, st, rfl, hst, L5.le (by omega)⟩
        refine iteT' (decide_eq_true c) ⟨_, rfl, _, rfl, _, _, rfl, rfl, _, rfl, _, rfl, D, s, rfl, L5.dr, by omega, fun r H7 h0 h1 k7 d7 => ⟨_, _, rfl, rfl, _, _, rfl, ?_⟩⟩
        have L7 := L5.go hRD k7 d7
        have hstop : st < (if (st + 1 + r : Int) < s then st + 1 + r else s) ∧ (if (st + 1 + r : Int) < s then st + 1 + r else s) ≤ s := by split <;> omega
        generalize hse : (if (st + 1 + r : Int) < s then st + 1 + r else s) = sp at *
        refine ⟨_, rfl, .inl ⟨rfl, ?_⟩, _, rfl, _, rfl, (by show 2 ≤ sizeLine; decide), fun t ht => ?_⟩
        · obtain ⟨us, rs, a1, _⟩ := L7.li
          exact ⟨_, SqL.of a1⟩
        · obtain ⟨us, q1, q2, L8⟩ := L7.app (x := st) (y := sp) hRD hR0 (by omega) ⟨hst, hstop.1, hstop.2⟩ ht
          exact ⟨R, us, .ref t, rfl, rfl, q1, q2, _, rfl, _, _, _, sp, rfl, by omega, L8⟩
      · rintro σ H5 ⟨v3, v5, v6, st, rfl, hst, L5⟩
        exact ⟨_, _, _, _, rfl, L5.le (by omega)⟩
    · rintro σ H3 ⟨v3, v4, v5, v6, rfl, L3⟩
      refine ⟨_, rfl, D, 4, rfl, L3.dr, by decide, fun r2 H4 h2 h3 k4 d4 => ⟨_, rfl, ?_, ?_, for_it walk_range (fun i σ H' => ∃ v3 v4 v5 v6 : Option V, σ = [some (.ref D), some (.int s), some (.ref R), v3, v4, v5, v6] ∧ LI D R H s (24 + i) H') ⟨_, _, _, _, rfl, (L3.go hRD k4 d4).le (by omega)⟩ (fun _ _ _ _ _ => trivial) ?_ ?_⟩⟩
      · omega
      · omega
      · rintro i v σ H5 H6 hi ⟨v3, v4, v5, v6, rfl, L5⟩ ⟨rfl, rfl⟩
        have hi3 : i < 3 := by omega
        refine ⟨_, rfl, _, rfl, D, s, rfl, L5.dr, by omega, fun st H7 h4 h5 k7 d7 => ?_⟩
        have L7 := L5.go hRD k7 d7
        refine ⟨_, rfl, .inl ⟨rfl, ?_⟩, _, rfl, _, rfl, _, _, rfl, rfl, _, rfl, _, rfl, _, rfl, _, _, rfl, rfl, D, s - st, rfl, L7.dr, by omega, fun r H8 h6 h7 k8 d8 => ⟨_, _, rfl, rfl, (by show 2 ≤ sizeLine; decide), fun t ht => ?_⟩⟩
        · obtain ⟨us, rs, a1, _⟩ := L7.li
          exact ⟨_, SqL.of a1⟩
        · obtain ⟨us, q1, q2, L9⟩ := (L7.go hRD k8 d8).app (x := st) (y := st + 1 + r) hRD hR0 (by omega) ⟨h4, by show st < st + 1 + r; omega, by show st + 1 + r ≤ s; omega⟩ ht
          exact ⟨R, us, .ref t, rfl, rfl, q1, q2, _, _, _, _, rfl, L9⟩
      · rintro σ H5 ⟨v3, v4, v5, v6, rfl, L5⟩
        exact ⟨_, rfl, k _ _ hR0 (L5.le (by omega))⟩
end
end K03


set_option Elab.async false
set_option linter.all false
set_option maxRecDepth 100000
set_option maxHeartbeats 4000000
namespace K03
open PySem PySem.Spec PyProof.Rows L2
open Evl (Ex)
theorem Runs.cons {H : Hp} {us : List V} {rs : List (Int × Int)} {t : Addr} {r : Int × Int} (h : Runs H us rs) (ht : H t = some (.tup [.int r.1, .int r.2])) : Runs H (.ref t :: us) (r :: rs) := by
  refine ⟨by simp [h.len], fun i q hq => ?_⟩
  cases i with
  | zero =>
    cases hq
    exact ⟨t, rfl, ht⟩
  | succ i => exact h.at_ i q hq
theorem Runs.drop {H : Hp} {us : List V} {rs : List (Int × Int)} (h : Runs H us rs) (n : Nat) : Runs H (us.drop n) (rs.drop n) := by
  refine ⟨by simp [h.len], fun i q hq => ?_⟩
  rw [List.getElem?_drop] at hq ⊢
  exact h.at_ _ q hq
theorem Runs.take {H : Hp} {us : List V} {rs : List (Int × Int)} (h : Runs H us rs) (n : Nat) : Runs H (us.take n) (rs.take n) := by
  refine ⟨by simp [h.len], fun i q hq => ?_⟩
  rw [List.getElem?_take] at hq ⊢
  split at hq
  · rename_i c
    rw [if_pos c]
    exact h.at_ _ q hq
  · cases hq
theorem Runs.app {H : Hp} {us us' : List V} {rs rs' : List (Int × Int)} (h : Runs H us rs) (h' : Runs H us' rs') : Runs H (us ++ us') (rs ++ rs') := by
  refine ⟨by simp [h.len, h'.len], fun i q hq => ?_⟩
  by_cases c : i < rs.length
  · rw [List.getElem?_append_left c] at hq
    rw [List.getElem?_append_left (by rw [h.len]; exact c)]
    exact h.at_ i q hq
  · rw [List.getElem?_append_right (by omega)] at hq
    rw [List.getElem?_append_right (by rw [h.len]; omega), h.len]
    exact h'.at_ _ q hq
theorem Runs.cut {H : Hp} {us : List V} {rs : List (Int × Int)} (h : Runs H us rs) (lo hi : Option Int) : ∃ rs', Runs H (cutV us lo hi) rs' ∧ (∀ r ∈ rs', r ∈ rs) ∧ rs'.length ≤ rs.length := by
  unfold cutV
  refine ⟨_, (h.drop _).take _, fun r hr => List.mem_of_mem_drop (List.mem_of_mem_take hr), ?_⟩
  rw [List.length_take, List.length_drop]
  omega
def tPairs : List (Int × Int) → TA
  | [] => tNil
  | r :: rs => tCons (tTup (tCons (tC (.int r.1)) (tCons (tC (.int r.2)) tNil))) (tPairs rs)
theorem pairs_ok : ∀ (rs : List (Int × Int)) {σ : L2.St} {H : Hp} {Q : List V → Hp → Prop}, (∀ us H', Ex H H' → Runs H' us rs → Q us H') → tPairs rs σ H Q
  | [], σ, H, Q, k => k [] H (Ex.refl H) Runs.nil
  | r :: rs, σ, H, Q, k => by
    refine ⟨by show 2 ≤ sizeLine; decide, fun p hp => pairs_ok rs fun us H' e R => ?_⟩
    refine k _ _ ((Ex.new hp).trans e) (R.cons (e _ _ upd_same))
theorem menu_ok (rs : List (Int × Int)) {σ : L2.St} {H : Hp} {Q : VK} (hl : rs.length ≤ 1000) (k : ∀ M us H', Ex H H' → H M = none → H' M = some (.lst us) → Runs H' us rs → Q (.ref M) H') : tLst (tPairs rs) σ H Q :=
  pairs_ok rs fun us H' e R => ⟨Nat.le_trans (by rw [R.len]; exact hl) (by decide), fun p hp => k p us _ (e.trans (Ex.new hp)) (Evl.fresh_back e hp) upd_same (R.ex (Ex.new hp))⟩
theorem menu_set (rs : List (Int × Int)) {De : Ends} {s : Int} {v0 v1 v2 v3 v4 v5 : Option V} {H : Hp} (hl : rs.length ≤ 1000) (k : ∀ M us H', Ex H H' → H M = none → H' M = some (.lst us) → Runs H' us rs → De.nx [v0, v1, some (.int s), some (.ref M), v4, v5] H') :
    tSeq (tAsg (tC (.int s)) (gName 2)) (tAsg (tLst (tPairs rs)) (gName 3)) De [v0, v1, v2, v3, v4, v5] H :=
  menu_ok (Q := fun v H' => gName 3 v [v0, v1, some (.int s), v3, v4, v5] H' De.nx) rs hl fun M us H' e h1 h2 h3 => k M us H' e h1 h2 h3
section
variable {w : World} {K : PySem.W.Frag} {mg : Str → Option Value} {base : Heap}
def spSpecial : Sp := fun vs H Q _ => ∃ (D : Addr), vs = [.ref D] ∧ Dr D H ∧ ∀ L M s us rs H', Kp D H H' → Dr D H' → H M = none → H' L = some (.lst [.int s, .ref M]) → L ≠ D → H' M = some (.lst us) → Runs H' us rs → (∀ r ∈ rs, Fits s r) → 1 ≤ s → s ≤ 8 → rs.length ≤ 9 → Q (.ref L) H'
theorem sc_special : FnScope ["_law_draws_here", "_law_word", "_law_size", "_law_menu", "_law_runs", "_law_run_here"] ["_law_draws_here"] (defScope s__law_special) := ⟨rfl, rfl, rfl, by decide +kernel, rfl, by decide +kernel, by decide +kernel⟩
theorem has_special (T : Ctx K mg) : Has w K mg base CX0 "_law_special" 2 ["_law_draws_here"] spSpecial := by
  obtain ⟨f1, fd1, m1, kp1, F1, b1⟩ := has_take (w := w) (base := base) T
  refine has_of (st := s__law_special) (f := He.ga K "_law_special") T.d__law_special T.g__law_special (fun _ _ _ _ _ _ us hl => match us, hl with | [_], _ => rfl) fun fd F => ?_
  refine ok0 F sc_special (fun vs H Q E h => ?_) (fun cdv A outer s0 H vs Q E hr h => ?_)
  · obtain ⟨D, rfl, _⟩ := h
    rfl
  · obtain ⟨D, rfl, hD, k⟩ := h
    have nd := sc_special.nd
    refine ⟨_, pss_cons (ps_set (i := 1) nd rfl (.inl rfl) (pe_call F1 hr (by rfl) m1 kp1 b1 .nil pass0 (pa_cons (pv 0) (pa_cons pe_int pa_nil))))
      (pss_cons ((ps_if (pt_cmpR op_eq (pv 1) pe_int (nomark _))
          (pss_cons (ps_set (i := 2) nd rfl (.inl rfl) pe_int) (pss_one (ps_set (i := 3) nd rfl (.inl rfl) (pe_lst (t := tPairs [(0, 1), (0, 2), (1, 2), (1, 3), (2, 3), (0, 3), (1, 2)]) (by repeat first | exact pa_nil | refine pa_cons (pe_tup (pa_cons pe_int (pa_cons pe_int pa_nil))) ?_)))))
          (pss_one (ps_if (pt_cmpR op_eq (pv 1) pe_int (nomark _))
            (pss_cons (ps_set (i := 2) nd rfl (.inl rfl) pe_int) (pss_one (ps_set (i := 3) nd rfl (.inl rfl) (pe_lst (t := tPairs [(0, 1), (1, 2), (1, 3), (2, 3), (2, 4), (3, 4), (4, 5), (0, 1), (4, 5)]) (by repeat first | exact pa_nil | refine pa_cons (pe_tup (pa_cons pe_int (pa_cons pe_int pa_nil))) ?_)))))
            (pss_cons (ps_set (i := 2) nd rfl (.inl rfl) pe_int) (pss_one (ps_set (i := 3) nd rfl (.inl rfl) (pe_lst (t := tPairs [(0, 4), (0, 2), (2, 4), (0, 1), (1, 2), (2, 3), (3, 4), (1, 2), (0, 4)]) (by repeat first | exact pa_nil | refine pa_cons (pe_tup (pa_cons pe_int (pa_cons pe_int pa_nil))) ?_)))))))).imp
            (t' := fun De σ H => ∃ v0 wd v2 v3 v4 v5, σ = [v0, some (.int wd), v2, v3, v4, v5] ∧ ∀ s M us rs H', Ex H H' → H M = none → 1 ≤ s → s ≤ 8 → H' M = some (.lst us) → Runs H' us rs → (∀ r ∈ rs, Fits s r) → rs.length ≤ 9 → De.nx [v0, some (.int wd), some (.int s), some (.ref M), v4, v5] H') ?c1)
      (pss_cons (ps_setLc (own := [("_law_run_here", 5)]) (i := 4) (g := gName 5) rfl nd rfl rfl rfl (pi_list (pv 3)) (blkOk_by (own := [("_law_run_here", 5)]) (N := ["_law_draws_here", "_law_word", "_law_size", "_law_menu", "_law_runs", "_law_run_here"]) (sc := defScope s__law_special) (by decide +kernel)) (fun _ _ _ _ _ => pg_name (i := 5) nd rfl (Or.inl rfl))
        (fun _ _ _ _ _ => pts_one (pt_cmpR op_lt (pe_call F1 hr (by rfl) m1 kp1 b1 .nil pass0 (pa_cons (pv 0) (pa_cons pe_int pa_nil))) pe_int (nomark _))) (fun _ _ _ _ _ => pv 5))
      (pss_one (ps_ret (pe_lst (pa_cons (pv 2) (pa_cons (pv 4) pa_nil))))))), ?_⟩
    case c1 =>
      rintro De σ H ⟨v0, wd, v2, v3, v4, v5, rfl, k⟩
      refine ⟨_, rfl, rfl, _, rfl, ?_⟩
      by_cases c : V.int wd = V.int 0
      · refine iteT' (decide_eq_true c) (menu_set _ (by decide) fun M us H' e hM hM' R => ?_)
        exact k 3 M us _ H' e hM (by decide) (by decide) hM' R (by show ∀ r ∈ [((0 : Int), (1 : Int)), (0, 2), (1, 2), (1, 3), (2, 3), (0, 3), (1, 2)], 0 ≤ r.1 ∧ r.1 < r.2 ∧ r.2 ≤ 3; decide) (by decide)
      refine iteF' (decide_eq_false c) ⟨_, rfl, rfl, _, rfl, ?_⟩
      by_cases c : V.int wd = V.int 1
      · refine iteT' (decide_eq_true c) (menu_set _ (by decide) fun M us H' e hM hM' R => ?_)
        exact k 5 M us _ H' e hM (by decide) (by decide) hM' R (by show ∀ r ∈ [((0 : Int), (1 : Int)), (1, 2), (1, 3), (2, 3), (2, 4), (3, 4), (4, 5), (0, 1), (4, 5)], 0 ≤ r.1 ∧ r.1 < r.2 ∧ r.2 ≤ 5; decide) (by decide)
      · refine iteF' (decide_eq_false c) (menu_set _ (by decide) fun M us H' e hM hM' R => ?_)
        exact k 4 M us _ H' e hM (by decide) (by decide) hM' R (by show ∀ r ∈ [((0 : Int), (4 : Int)), (0, 2), (2, 4), (0, 1), (1, 2), (2, 3), (3, 4), (1, 2), (0, 4)], 0 ≤ r.1 ∧ r.1 < r.2 ∧ r.2 ≤ 4; decide) (by decide)
    refine ⟨_, rfl, D, 3, rfl, hD, by decide, fun wd H1 h0 h1 k1 d1 => ⟨_, wd, _, _, _, _, rfl, fun s M us rs H2 e2 hM hs1 hs8 hM2 R2 hF hl => ?_⟩⟩
    have k2 := k1.trans (Kp.of e2)
    have d2 := d1.ex e2
    have hM0 : H M = none := k1.fresh d1 hM
    have hMD : M ≠ D := Kp.ne hD hM0
    refine ⟨_, rfl, M, rfl, ⟨_, SqL.of hM2⟩, fun L hL => lc_it walk_list (fun i H' => Kp D H H' ∧ Dr D H' ∧ H' M = some (.lst us) ∧ Runs H' us rs ∧ ∃ us' rs', H' L = some (.lst us') ∧ Runs H' us' rs' ∧ (∀ r ∈ rs', Fits s r) ∧ rs'.length ≤ i)
      ⟨k2.trans (Kp.of (Ex.new hL)), d2.ex (Ex.new hL), Ex.new hL _ _ hM2, R2.ex (Ex.new hL), [], [], upd_same, Runs.nil, (fun _ h => by cases h), Nat.le_refl _⟩ (fun i H' _ q => SqL.of q.2.2.1) ?_ ?_⟩
    · rintro i x H3 H4 hi ⟨k3, d3, hM3, R3, us', rs', hL3, R3', hF', hl'⟩ ⟨rfl, hx⟩
      have hL0 : H L = none := k2.fresh d2 hL
      have hLD : L ≠ D := Kp.ne hD hL0
      obtain ⟨t, r, hr', rfl, ht⟩ := R3.get hx
      refine ⟨rfl, ?_⟩
      refine ⟨_, rfl, D, 8, rfl, d3, by decide, fun q H5 h4 h5 k5 d5 => ⟨_, _, rfl, rfl, _, rfl, ?_⟩⟩
      have hL5 := k5 _ _ hLD hL3
      have hM5 := k5 _ _ hMD hM3
      have R5 := k5.runs d3 R3
      have R5' := k5.runs d3 R3'
      have ht5 := k5.tup d3 ht
      have k05 := k3.trans k5
      have hlen := R5'.len
      have hil : i < 1000 := by rw [R2.len] at hi; omega
      by_cases c : q < 7
      · refine iteT' (decide_eq_true c) ⟨_, rfl, us', hL5, small1000 (by omega), k05.mut hL0, ?_, ?_, ?_, us' ++ [.ref t], rs' ++ [r], upd_same, ?_, ?_, ?_⟩
        · obtain ⟨ms, hms⟩ := d5
          exact ⟨ms, by rw [upd_ne (Ne.symm hLD)]; exact hms⟩
        · rw [upd_ne (ne_of_none hM2 hL)]
          exact hM5
        · exact R5.mono fun t' ys e => by rw [upd_ne (ne_of e hL5 (by intro z; cases z))]; exact e
        · refine Runs.snoc (R5'.mono fun t' ys e => by rw [upd_ne (ne_of e hL5 (by intro z; cases z))]; exact e) ?_
          rw [upd_ne (ne_of ht5 hL5 (by intro z; cases z))]
          exact ht5
        · intro r' hr
          rcases List.mem_append.mp hr with hr | hr
          · exact hF' r' hr
          · rw [List.mem_singleton.mp hr]
            exact hF r (List.mem_of_getElem? hr')
        · rw [List.length_append]
          have : [r].length = 1 := rfl
          omega
      · exact iteF' (decide_eq_false c) ⟨k05, d5, hM5, R5, us', rs', hL5, R5', hF', by omega⟩
    · rintro H3 ⟨k3, d3, hM3, R3, us', rs', hL3, R3', hF', hl'⟩
      have hL0 : H L = none := k2.fresh d2 hL
      refine ⟨_, rfl, _, rfl, (by show 2 ≤ sizeLine; decide), fun q hq => ?_⟩
      exact k q L s us' rs' _ (k3.trans (Kp.of (Ex.new hq))) (d3.ex (Ex.new hq)) hL0 upd_same (Kp.ne d3 hq) (Ex.new hq _ _ hL3) (R3'.ex (Ex.new hq)) hF' hs1 hs8 (by rw [R2.len] at hl'; omega)
end
end K03


set_option Elab.async false
set_option linter.all false
set_option maxRecDepth 100000
set_option maxHeartbeats 4000000
namespace K03
open PySem PySem.Spec PyProof.Rows L2
open Evl (Ex)
theorem cutV_nine (xs : List V) : (cutV xs none (some 9)).length ≤ 9 := by
  unfold cutV HT.sIx
  simp
  omega
section
variable {w : World} {K : PySem.W.Frag} {mg : Str → Option Value} {base : Heap}
/-- the parts that are gone, in order -/
def Gone (H : Hp) (a : Addr) (m : Nat) : Prop := ∃ gs : List Int, H a = some (.lst (gs.map V.int)) ∧ gs.Pairwise (· < ·) ∧ ∀ n ∈ gs, 0 ≤ n ∧ n < m
theorem Gone.ex {H H' : Hp} {a : Addr} {m : Nat} (h : Gone H a m) (e : Ex H H') : Gone H' a m := by
  obtain ⟨gs, q, r⟩ := h
  exact ⟨gs, e _ _ q, r⟩
theorem Gone.kp {D : Addr} {H H' : Hp} {a : Addr} {m : Nat} (h : Gone H a m) (k : Kp D H H') (n : a ≠ D) : Gone H' a m := by
  obtain ⟨gs, q, r⟩ := h
  exact ⟨gs, k _ _ n q, r⟩
def spMk : Sp := fun vs H Q _ => ∃ (D : Addr), vs = [.ref D, .int 9] ∧ Dr D H ∧ ∀ L M a s us rs H', Kp D H H' → Dr D H' → H M = none → H L = none → H' L = some (.lst [.int s, .ref M, .ref a]) → H' M = some (.lst us) → Runs H' us rs → (∀ r ∈ rs, Fits s r) → 1 ≤ s → s ≤ 8 → rs.length ≤ 9 → H a = none → Gone H' a us.length → Q (.ref L) H'
theorem sc_mk : FnScope ["_law_draws_here", "_law_most", "_law_word", "_law_drawn", "_law_size", "_law_runs", "_law_turn", "_law_absent"] ["_law_draws_here", "_law_most"] (defScope s__law_market) := ⟨rfl, rfl, rfl, by decide +kernel, rfl, by decide +kernel, by decide +kernel⟩
theorem has_mk (T : Ctx K mg) : Has w K mg base CX0 "_law_market" 3 ["_law_draws_here", "_law_most"] spMk := by
  obtain ⟨f1, fd1, m1, kp1, F1, b1⟩ := has_take (w := w) (base := base) T
  obtain ⟨f2, fd2, m2, kp2, F2, b2⟩ := has_special (w := w) (base := base) T
  obtain ⟨f3, fd3, m3, kp3, F3, b3⟩ := has_chains (w := w) (base := base) T
  refine has_of (st := s__law_market) (f := He.ga K "_law_market") T.d__law_market T.g__law_market (fun _ _ _ _ _ _ us hl => match us, hl with | [_, _], _ => rfl) fun fd F => ?_
  refine ok0 F sc_mk (fun vs H Q E h => ?_) (fun cdv A outer s0 H vs Q E hr h => ?_)
  · obtain ⟨D, rfl, _⟩ := h
    rfl
  · obtain ⟨D, rfl, hD, k⟩ := h
    have nd := sc_mk.nd
    have hr1 := hr.mono (show 1 ≤ 2 by decide)
    refine ⟨_, pss_cons (ps_set (i := 2) nd rfl (.inl rfl) (pe_call F1 hr1 (by rfl) m1 kp1 b1 .nil pass0 (pa_cons (pv 0) (pa_cons pe_int pa_nil))))
      (pss_cons ((ps_if (pt_cmpR op_ge (pv 2) pe_int (nomark _))
          (pss_cons (ps_set (i := 3) nd rfl (.inl rfl) (pe_call F2 hr (by rfl) m2 kp2 b2 .nil pass0 (pa_cons (pv 0) pa_nil)))
          (pss_cons (ps_set (i := 4) nd rfl (.inl rfl) (pe_ix ix_list (pv 3) pe_int (fun _ _ => rfl)))
          (pss_one (ps_set (i := 5) nd rfl (.inl rfl) (pe_ix ix_list (pv 3) pe_int (fun _ _ => rfl))))))
          (pss_cons (ps_set (i := 4) nd rfl (.inl rfl) (pe_ix ix_list (pe_lst (pa_cons pe_int (pa_cons pe_int (pa_cons pe_int (pa_cons pe_int (pa_cons pe_int (pa_cons pe_int (pa_cons pe_int (pa_cons pe_int (pa_cons pe_int (pa_cons pe_int pa_nil))))))))))) (pe_call F1 hr1 (by rfl) m1 kp1 b1 .nil pass0 (pa_cons (pv 0) (pa_cons pe_int pa_nil))) (fun _ _ => rfl)))
          (pss_cons (ps_if (pt_cmpR op_eq (pe_call F1 hr1 (by rfl) m1 kp1 b1 .nil pass0 (pa_cons (pv 0) (pa_cons pe_int pa_nil))) pe_int (nomark _)) (pss_one (ps_set (i := 4) nd rfl (.inl rfl) pe_int)) pss_nil)
          (pss_one (ps_set (i := 5) nd rfl (.inl rfl) (pe_call F3 hr (by rfl) m3 kp3 b3 .nil pass0 (pa_cons (pv 0) (pa_cons (pv 4) pa_nil)))))))).imp
            (t' := fun De σ H => ∃ wd v3 v4 v5 v6 v7, σ = [some (.ref D), some (.int 9), some (.int wd), v3, v4, v5, v6, v7] ∧ Dr D H ∧ ∀ w3 s M us rs H', Kp D H H' → Dr D H' → H M = none → 1 ≤ s → s ≤ 8 → H' M = some (.lst us) → Runs H' us rs → (∀ r ∈ rs, Fits s r) → rs.length ≤ 27 → De.nx [some (.ref D), some (.int 9), some (.int wd), w3, some (.int s), some (.ref M), v6, v7] H') ?c1)
      (pss_cons (ps_set (i := 6) nd rfl (.inl rfl) (pe_call F1 hr1 (by rfl) m1 kp1 b1 .nil pass0 (pa_cons (pv 0) (pa_cons pe_int pa_nil))))
      (pss_cons ((ps_if (pt_cmpR op_lt (pv 6) (pe_callB call_len_seq (by rfl) T.b_len PySem.boot_len (pa_cons (pv 5) pa_nil)) (nomark _))
          (pss_one (ps_set (i := 5) nd rfl (.inl rfl) (pe_op op_cat (pe_slice sl_list (pv 5) (po_some (pv 6)) po_none) (pe_slice sl_list (pv 5) po_none (po_some (pv 6)))))) pss_nil).imp
            (t' := fun De σ H => ∃ v0 v1 v2 v3 v4 v7 M us rs tn, σ = [v0, v1, v2, v3, v4, some (.ref M), some (.int tn), v7] ∧ H M = some (.lst us) ∧ Runs H us rs ∧ rs.length ≤ 27 ∧ ∀ M' us' rs' H', Ex H H' → (M' = M ∨ H M' = none) → H' M' = some (.lst us') → Runs H' us' rs' → (∀ r ∈ rs', r ∈ rs) → rs'.length ≤ 54 → De.nx [v0, v1, v2, v3, v4, some (.ref M'), some (.int tn), v7] H') ?c2)
      (pss_cons (ps_set (i := 5) nd rfl (.inl rfl) (pe_slice sl_list (pv 5) po_none (po_some (pv 1))))
      (pss_cons (ps_set (i := 7) nd rfl (.inl rfl) (pe_lst pa_nil))
      (pss_cons ((ps_if (PW.pt (pw_and (pt_cmpR op_eq (pe_call F1 hr1 (by rfl) m1 kp1 b1 .nil pass0 (pa_cons (pv 0) (pa_cons pe_int pa_nil))) pe_int (nomark _)) (pw_and1 (pt_cmpR op_gt (pe_callB call_len_seq (by rfl) T.b_len PySem.boot_len (pa_cons (pv 5) pa_nil)) pe_int (nomark _)))))
          (pss_one (ps_set (i := 7) nd rfl (.inl rfl) (pe_lst (pa_cons (pe_call F1 hr1 (by rfl) m1 kp1 b1 .nil pass0 (pa_cons (pv 0) (pa_cons (pe_callB call_len_seq (by rfl) T.b_len PySem.boot_len (pa_cons (pv 5) pa_nil)) pa_nil))) pa_nil)))) pss_nil).imp
            (t' := fun De σ H => ∃ v1 v2 v3 v4 v6 a M us, σ = [some (.ref D), v1, v2, v3, v4, some (.ref M), v6, some (.ref a)] ∧ Dr D H ∧ M ≠ D ∧ H M = some (.lst us) ∧ a ≠ D ∧ H a = some (.lst []) ∧ ∀ a' H', Kp D H H' → Dr D H' → (a' = a ∨ H a' = none) → Gone H' a' us.length → De.nx [some (.ref D), v1, v2, v3, v4, some (.ref M), v6, some (.ref a')] H') ?c3)
      (pss_one (ps_ret (pe_lst (pa_cons (pv 4) (pa_cons (pv 5) (pa_cons (pv 7) pa_nil)))))))))))), ?_⟩
    case c1 =>
      rintro De σ H ⟨wd, v3, v4, v5, v6, v7, rfl, hD, k⟩
      refine ⟨_, rfl, _, _, rfl, rfl, _, rfl, ?_⟩
      by_cases c : 3 ≤ wd
      · refine iteT' (decide_eq_true c) ⟨_, rfl, D, rfl, hD, fun L M s us rs H1 k1 d1 hM hL hLD hM1 R1 hF hs1 hs8 hl => ?_⟩
        refine ⟨_, rfl, L, _, 0, _, rfl, rfl, SqL.of hL, atI_nat (j := 0) rfl, ?_⟩
        refine ⟨_, rfl, L, _, 1, _, rfl, rfl, SqL.of hL, atI_nat (j := 1) rfl, ?_⟩
        exact k _ s M us rs H1 k1 d1 hM hs1 hs8 hM1 R1 hF (by omega)
      · refine iteF' (decide_eq_false c) ⟨(by show 10 ≤ sizeLine; decide), fun p hp => ⟨_, rfl, D, 10, rfl, hD.ex (Ex.new hp), by decide, fun q H1 h0 h1 k1 d1 => ?_⟩⟩
        have hp1 := k1 _ _ (Kp.ne hD hp) (upd_same (H := H) (a := p))
        obtain ⟨s, hs, hs1, hs8⟩ : ∃ s : Int, atI [V.int 3, .int 1, .int 2, .int 4, .int 5, .int 3, .int 4, .int 3, .int 6, .int 2] q = some (.int s) ∧ 1 ≤ s ∧ s ≤ 8 := by
          have hq : ∃ n : Nat, n < 10 ∧ q = (n : Int) := ⟨q.toNat, by omega, by omega⟩
          obtain ⟨n, hn, rfl⟩ := hq
          have z : ∀ n : Nat, n < 10 → ∃ s : Int, [V.int 3, .int 1, .int 2, .int 4, .int 5, .int 3, .int 4, .int 3, .int 6, .int 2][n]? = some (.int s) ∧ 1 ≤ s ∧ s ≤ 8 := fun n hn => by
            match n, hn with
            | 0, _ => exact ⟨3, rfl, by decide, by decide⟩
            | 1, _ => exact ⟨1, rfl, by decide, by decide⟩
            | 2, _ => exact ⟨2, rfl, by decide, by decide⟩
            | 3, _ => exact ⟨4, rfl, by decide, by decide⟩
            | 4, _ => exact ⟨5, rfl, by decide, by decide⟩
            | 5, _ => exact ⟨3, rfl, by decide, by decide⟩
            | 6, _ => exact ⟨4, rfl, by decide, by decide⟩
            | 7, _ => exact ⟨3, rfl, by decide, by decide⟩
            | 8, _ => exact ⟨6, rfl, by decide, by decide⟩
            | 9, _ => exact ⟨2, rfl, by decide, by decide⟩
          obtain ⟨s, a, b⟩ := z n hn
          exact ⟨s, atI_nat a, b⟩
        refine ⟨p, _, q, _, rfl, rfl, SqL.of hp1, hs, ?_⟩
        have k01 := (Kp.of (Ex.new (o := .lst [V.int 3, .int 1, .int 2, .int 4, .int 5, .int 3, .int 4, .int 3, .int 6, .int 2]) hp)).trans k1
        refine ⟨_, rfl, D, 12, rfl, d1, by decide, fun q2 H2 h2 h3 k2 d2 => ⟨rfl, _, rfl, ?_⟩⟩
        have k02 := k01.trans k2
        have fin : ∀ s' : Int, 1 ≤ s' → s' ≤ 8 → spChains ([V.ref D, .int s'] ++ []) H2 (fun v H' => De.nx [some (.ref D), some (.int 9), some (.int wd), v3, some (.int s'), some v, v6, v7] H') E := fun s' h4 h5 =>
          ⟨D, s', rfl, d2, h4, h5, fun R H3 hR L3 => by
            obtain ⟨us, rs, a1, a2, a3, a4⟩ := L3.li
            exact k _ s' R us rs H3 (k02.trans L3.kp) L3.dr (k02.fresh d2 hR) h4 h5 a1 a2 a3 a4⟩
        by_cases c2 : V.int q2 = V.int 11
        · exact iteT' (decide_eq_true c2) ⟨_, rfl, _, rfl, fin 8 (by decide) (by decide)⟩
        · exact iteF' (decide_eq_false c2) ⟨_, rfl, _, rfl, fin s hs1 hs8⟩
    case c2 =>
      rintro De σ H ⟨v0, v1, v2, v3, v4, v7, M, us, rs, tn, rfl, hM, R, hl, k⟩
      refine ⟨_, rfl, _, rfl, M, us, rfl, .inl (SqL.of hM), _, _, rfl, rfl, _, rfl, ?_⟩
      by_cases c : tn < (us.length : Int)
      · refine iteT' (decide_eq_true c) ⟨_, rfl, _, rfl, _, rfl, M, us, rfl, SqL.of hM, fun p hp => ?_⟩
        have e1 : Ex H (upd H p (.lst (cutV us (some tn) none))) := Ex.new hp
        refine ⟨_, rfl, _, rfl, _, rfl, M, us, rfl, SqL.of (e1 _ _ hM), fun p2 hp2 => ?_⟩
        have e2 := e1.trans (Ex.new (o := .lst (cutV us none (some tn))) hp2)
        obtain ⟨ra, Ra, ma, la⟩ := R.cut (some tn) none
        obtain ⟨rb, Rb, mb, lb⟩ := R.cut none (some tn)
        have l1 := Ra.len
        have l2 := Rb.len
        refine ⟨p, p2, _, _, rfl, rfl, Ex.new hp2 _ _ upd_same, upd_same, Nat.le_trans (by omega) (show 1000 ≤ sizeLine by decide), fun p3 hp3 => ?_⟩
        exact k p3 _ (ra ++ rb) _ (e2.trans (Ex.new hp3)) (.inr (Evl.fresh_back e2 hp3)) upd_same ((Ra.app Rb).ex (e2.trans (Ex.new hp3))) (fun r hr => by
          rcases List.mem_append.mp hr with hr | hr
          · exact ma r hr
          · exact mb r hr) (by rw [List.length_append]; omega)
      · exact iteF' (decide_eq_false c) (k M us rs H (Ex.refl H) (.inl rfl) hM R (fun r hr => hr) (by omega))
    case c3 =>
      rintro De σ H ⟨v1, v2, v3, v4, v6, a, M, us, rfl, hD, hMD, hM, haD, ha, k⟩
      refine ⟨_, rfl, D, 10, rfl, hD, by decide, fun q H1 h0 h1 k1 d1 => ⟨rfl, _, rfl, ?_⟩⟩
      have hM1 := k1 _ _ hMD hM
      by_cases c : V.int q = V.int 9
      · refine iteT' (decide_eq_true c) ⟨_, rfl, M, us, rfl, .inl (SqL.of hM1), _, _, rfl, rfl, _, rfl, ?_⟩
        by_cases c2 : (1 : Int) < (us.length : Int)
        · refine iteT' (decide_eq_true c2) ⟨_, rfl, _, rfl, M, us, rfl, .inl (SqL.of hM1), D, _, rfl, d1, by omega, fun q2 H2 h2 h3 k2 d2 => ⟨(by show 1 ≤ sizeLine; decide), fun p hp => ?_⟩⟩
          exact k p _ ((k1.trans k2).trans (Kp.of (Ex.new hp))) (d2.ex (Ex.new hp)) (.inr ((k1.trans k2).fresh d2 hp)) ⟨[q2], upd_same, List.pairwise_singleton _ _, fun n hn => by rw [List.mem_singleton.mp hn]; exact ⟨h2, h3⟩⟩
        · exact iteF' (decide_eq_false c2) (k a H1 k1 d1 (.inl rfl) ⟨[], k1 _ _ haD ha, List.Pairwise.nil, fun n hn => nomatch hn⟩)
      · exact iteF' (decide_eq_false c) (k a H1 k1 d1 (.inl rfl) ⟨[], k1 _ _ haD ha, List.Pairwise.nil, fun n hn => nomatch hn⟩)
    refine ⟨_, rfl, D, 5, rfl, hD, by decide, fun wd H1 h0 h1 k1 d1 => ⟨wd, _, _, _, _, _, rfl, d1, fun w3 s M us rs H2 k2 d2 hM hs1 hs8 hM2 R2 hF hl => ?_⟩⟩
    have k02 := k1.trans k2
    have hM0 := k1.fresh d1 hM
    have hMD : M ≠ D := Kp.ne hD hM0
    refine ⟨_, rfl, D, 9, rfl, d2, by decide, fun tn H3 h2 h3 k3 d3 => ⟨_, _, _, _, _, _, M, us, rs, tn, rfl, k3 _ _ hMD hM2, k3.runs d2 R2, hl, fun M' us' rs' H4 e4 hM' hM4 R4 hF' hl' => ?_⟩⟩
    have k04 := (k02.trans k3).trans (Kp.of e4)
    have d4 := d3.ex e4
    refine ⟨_, rfl, _, rfl, _, rfl, M', us', rfl, SqL.of hM4, fun p hp => ?_⟩
    have e5 : Ex H4 (upd H4 p (.lst (cutV us' none (some 9)))) := Ex.new hp
    obtain ⟨rc, Rc, mc, lc⟩ := R4.cut none (some 9)
    have l9 := cutV_nine us'
    have lc' := Rc.len
    have hp5 : upd H4 p (.lst (cutV us' none (some 9))) p = some (.lst (cutV us' none (some 9))) := upd_same
    have hp0 : H p = none := k04.fresh d4 hp
    have Rc5 := Rc.ex e5
    have k05 := k04.trans (Kp.of e5)
    have d5 := d4.ex e5
    generalize cutV us' none (some 9) = uc at *
    generalize upd H4 p (.lst uc) = H5 at *
    have hpD : p ≠ D := Kp.ne hD hp0
    refine ⟨(by show 0 ≤ sizeLine; decide), fun a ha => ⟨_, _, _, _, _, a, p, uc, rfl, d5.ex (Ex.new ha), hpD, Ex.new ha _ _ hp5, Kp.ne d5 ha, upd_same, fun a' H6 k6 d6 ha' hG => ?_⟩⟩
    have hp6 := k6 _ _ hpD (Ex.new ha _ _ hp5)
    have R6 := k6.runs (d5.ex (Ex.new ha)) (Rc5.ex (Ex.new ha))
    have k06 := (k05.trans (Kp.of (Ex.new ha))).trans k6
    refine ⟨_, rfl, _, rfl, _, rfl, (by show 3 ≤ sizeLine; decide), fun L hL => ?_⟩
    exact k L p a' s uc rc _ (k06.trans (Kp.of (Ex.new hL))) (d6.ex (Ex.new hL)) hp0 (k06.fresh d6 hL) upd_same (Ex.new hL _ _ hp6) (R6.ex (Ex.new hL)) (fun r hr => hF r (hF' r (mc r hr))) hs1 hs8 (by omega) (ha'.elim (fun z => by rw [z]; exact k05.fresh d5 ha) fun z => (k05.trans (Kp.of (Ex.new ha))).fresh (d5.ex (Ex.new ha)) z) (hG.ex (Ex.new hL))
end
end K03


set_option Elab.async false
set_option linter.all false
set_option maxRecDepth 100000
set_option maxHeartbeats 4000000
namespace K03
open PySem PySem.Spec PyProof.Rows L2
open Evl (Ex)
section
variable {w : World} {K : PySem.W.Frag} {mg : Str → Option Value} {base : Heap}
def spKind : Sp := fun vs H Q _ => ∃ (D : Addr), vs = [.ref D] ∧ Dr D H ∧ ∀ kd H', (kd = ("join" : Str) ∨ kd = ("lap" : Str)) → Kp D H H' → Dr D H' → Q (.str kd) H'
theorem sc_kind : FnScope ["_law_draws_here"] ["_law_draws_here"] (defScope s__law_kind) := ⟨rfl, rfl, rfl, by decide +kernel, rfl, by decide +kernel, by decide +kernel⟩
theorem has_kind (T : Ctx K mg) : Has w K mg base CX0 "_law_kind" 2 ["_law_draws_here"] spKind := by
  obtain ⟨f1, fd1, m1, kp1, F1, b1⟩ := has_take (w := w) (base := base) T
  refine has_of (st := s__law_kind) (f := He.ga K "_law_kind") T.d__law_kind T.g__law_kind (fun _ _ _ _ _ _ us hl => match us, hl with | [_], _ => rfl) fun fd F => ?_
  refine ok0 F sc_kind (fun vs H Q E h => ?_) (fun cdv A outer s0 H vs Q E hr h => ?_)
  · obtain ⟨D, rfl, _⟩ := h
    rfl
  · obtain ⟨D, rfl, hD, k⟩ := h
    refine ⟨_, pss_cons (ps_if (pt_cmpR op_eq (pe_call F1 hr (by rfl) m1 kp1 b1 .nil pass0 (pa_cons (pv 0) (pa_cons pe_int pa_nil))) pe_int (nomark _)) (pss_one (ps_ret pe_str)) pss_nil) (pss_one (ps_ret pe_str)), ?_⟩
    refine ⟨_, rfl, D, 3, rfl, hD, by decide, fun q H1 h0 h1 k1 d1 => ⟨rfl, _, rfl, ?_⟩⟩
    by_cases c : V.int q = V.int 2
    · exact iteT' (decide_eq_true c) (k _ H1 (.inr rfl) k1 d1)
    · exact iteF' (decide_eq_false c) (k _ H1 (.inl rfl) k1 d1)
/-- the law makes a market -/
def spBuilt (K : PySem.W.Frag) : Sp := fun vs H Q _ => ∃ (kd : Str) (s : Int) (a g : Addr) (us : List V) (rs : List (Int × Int)) (ns : List Int), vs = [.str kd, .int s, .ref a, .ref g] ∧ (kd = "join" ∨ kd = "lap") ∧ MArg H s a g us rs ns ∧
  ∀ x H', Ex H H' → H x = none → Mkt K H' x kd s us rs ns → Q (.ref x) H'
theorem sc_built : FnScope ["_law_kind_here", "_law_size", "_law_runs", "_law_absent"] ["_law_kind_here", "_law_size", "_law_runs", "_law_absent"] (defScope s__law_built) := ⟨rfl, rfl, rfl, by decide +kernel, rfl, by decide +kernel, by decide +kernel⟩
theorem has_built (T : Ctx K mg) : Has w K mg base CX0 "_law_built" 8 ["_law_kind_here", "_law_size", "_law_runs", "_law_absent"] (spBuilt K) := by
  obtain ⟨fj, Fj, bj⟩ := ok_Join_init (w := w) (base := base) T
  obtain ⟨fl, Fl, bl⟩ := ok_Lap_init (w := w) (base := base) T
  refine has_of (st := s__law_built) (f := He.ga K "_law_built") T.d__law_built T.g__law_built (fun _ _ _ _ _ _ us hl => match us, hl with | [_, _, _, _], _ => rfl) fun fd F => ?_
  refine ok0 F sc_built (fun vs H Q E h => ?_) (fun cdv A outer s0 H vs Q E hr h => ?_)
  · obtain ⟨kd, s, a, g, us, rs, ns, rfl, _⟩ := h
    rfl
  · obtain ⟨kd, s, a, g, us, rs, ns, rfl, hkd, A0, k⟩ := h
    have hr6 := hr.mono (show 6 + 1 ≤ 7 by decide)
    refine ⟨_, pss_cons (ps_if (pt_cmpR op_eq (pv 0) pe_str (nomark _)) (pss_one (ps_ret (pe_makeK T.mk_Join Fj hr6 (by rfl) T.g_Join bj pass0 (pa_cons (pv 1) (pa_cons (pv 2) pa_nil)) (pk_cons (pv 3) pk_nil)))) pss_nil)
      (pss_one (ps_ret (pe_makeK T.mk_Lap Fl hr6 (by rfl) T.g_Lap bl pass0 (pa_cons (pv 1) (pa_cons (pv 2) pa_nil)) (pk_cons (pv 3) pk_nil)))), ?_⟩
    refine ⟨_, rfl, rfl, _, rfl, ?_⟩
    rcases hkd with rfl | rfl
    · exact iteT' (by simp) ⟨_, rfl, _, rfl, _, rfl, rfl, rfl, fun y dx hy hdx hne => made (.inl ⟨rfl, rfl⟩) A0 hy hdx hne fun H6 e6 hMk => k _ _ e6 hy hMk⟩
    · exact iteF ⟨_, rfl, _, rfl, _, rfl, rfl, rfl, fun y dx hy hdx hne => made (.inr ⟨rfl, rfl⟩) A0 hy hdx hne fun H6 e6 hMk => k _ _ e6 hy hMk⟩
end
end K03


set_option Elab.async false
set_option linter.all false
set_option maxRecDepth 100000
set_option maxHeartbeats 4000000
namespace K03
open PySem PySem.Spec PyProof.Rows L2
open Evl (Ex)
section
variable {w : World} {K : PySem.W.Frag} {mg : Str → Option Value} {base : Heap}
def spRunD : Sp := fun vs H Q _ => ∃ (D : Addr) (s : Int), vs = [.ref D, .int s] ∧ Dr D H ∧ 1 ≤ s ∧ ∀ t r H', Fits s r → Kp D H H' → Dr D H' → H t = none → H' t = some (.tup [.int r.1, .int r.2]) → Q (.ref t) H'
theorem sc_runD : FnScope ["_law_draws_here", "_law_size", "_law_start"] ["_law_draws_here", "_law_size"] (defScope s__law_run) := ⟨rfl, rfl, rfl, by decide +kernel, rfl, by decide +kernel, by decide +kernel⟩
theorem has_runD (T : Ctx K mg) : Has w K mg base CX0 "_law_run" 2 ["_law_draws_here", "_law_size"] spRunD := by
  obtain ⟨f1, fd1, m1, kp1, F1, b1⟩ := has_take (w := w) (base := base) T
  refine has_of (st := s__law_run) (f := He.ga K "_law_run") T.d__law_run T.g__law_run (fun _ _ _ _ _ _ us hl => match us, hl with | [_, _], _ => rfl) fun fd F => ?_
  refine ok0 F sc_runD (fun vs H Q E h => ?_) (fun cdv A outer s0 H vs Q E hr h => ?_)
  · obtain ⟨D, s, rfl, _⟩ := h
    rfl
  · obtain ⟨D, s, rfl, hD, hs, k⟩ := h
    have nd := sc_runD.nd
    refine ⟨_, pss_cons (ps_set (i := 2) nd rfl (.inl rfl) (pe_call F1 hr (by rfl) m1 kp1 b1 .nil pass0 (pa_cons (pv 0) (pa_cons (pv 1) pa_nil))))
      (pss_one (ps_ret (pe_tup (pa_cons (pv 2) (pa_cons (pe_op op_add (pe_op op_add (pv 2) pe_int) (pe_call F1 hr (by rfl) m1 kp1 b1 .nil pass0 (pa_cons (pv 0) (pa_cons (pe_op op_sub (pv 1) (pv 2)) pa_nil)))) pa_nil))))), ?_⟩
    refine ⟨_, rfl, _, rfl, D, s, rfl, hD, by omega, fun q H1 h0 h1 k1 d1 => ?_⟩
    refine ⟨_, rfl, _, rfl, _, _, rfl, rfl, _, rfl, _, rfl, _, rfl, _, _, rfl, rfl, D, s - q, rfl, d1, by omega, fun q2 H2 h2 h3 k2 d2 => ⟨_, _, rfl, rfl, (by show 2 ≤ sizeLine; decide), fun t ht => ?_⟩⟩
    have k12 := k1.trans k2
    exact k t (q, q + 1 + q2) _ ⟨h0, by show q < q + 1 + q2; omega, by show q + 1 + q2 ≤ s; omega⟩ (k12.trans (Kp.of (Ex.new ht))) (d2.ex (Ex.new ht)) (k12.fresh d2 ht) upd_same
def spParts : Sp := fun vs H Q _ => ∃ (D : Addr) (m : Int), vs = [.ref D, .int m] ∧ Dr D H ∧ 0 ≤ m ∧ m ≤ 50 ∧ ∀ (A : Addr) (gs : List Int) H', Kp D H H' → Dr D H' → H A = none → H' A = some (.lst (gs.map V.int)) → gs.Pairwise (· < ·) → (∀ n ∈ gs, 0 ≤ n ∧ n < m) → Q (.ref A) H'
theorem sc_parts : FnScope ["_law_draws_here", "_law_many", "_law_part"] ["_law_draws_here", "_law_many"] (defScope s__law_parts) := ⟨rfl, rfl, rfl, by decide +kernel, rfl, by decide +kernel, by decide +kernel⟩
theorem has_parts (T : Ctx K mg) : Has w K mg base CX0 "_law_parts" 2 ["_law_draws_here", "_law_many"] spParts := by
  obtain ⟨f1, fd1, m1, kp1, F1, b1⟩ := has_take (w := w) (base := base) T
  refine has_of (st := s__law_parts) (f := He.ga K "_law_parts") T.d__law_parts T.g__law_parts (fun _ _ _ _ _ _ us hl => match us, hl with | [_, _], _ => rfl) fun fd F => ?_
  refine ok0 F sc_parts (fun vs H Q E h => ?_) (fun cdv A outer s0 H vs Q E hr h => ?_)
  · obtain ⟨D, m, rfl, _⟩ := h
    rfl
  · obtain ⟨D, m, rfl, hD, hm0, hm1, k⟩ := h
    have nd := sc_parts.nd
    refine ⟨_, pss_one (ps_ret (pe_lc (own := [("_law_part", 2)]) (g := gName 2) rfl nd (pi_range1 (by rfl) T.b_range (pa_cons (pv 1) pa_nil)) (blkOk_by (own := [("_law_part", 2)]) (N := ["_law_draws_here", "_law_many", "_law_part"]) (sc := defScope s__law_parts) (by decide +kernel)) (fun _ _ _ _ _ => pg_name (i := 2) nd rfl (Or.inl rfl))
      (fun _ _ _ _ _ => pts_one (pt_cmpR op_eq (pe_call F1 hr (by rfl) m1 kp1 b1 .nil pass0 (pa_cons (pv 0) (pa_cons pe_int pa_nil))) pe_int (nomark _))) (fun _ _ _ _ _ => pv 2))), ?_⟩
    refine ⟨_, rfl, _, rfl, ?_, ?_, fun A hA => lc_it walk_range (fun i H' => Kp D H H' ∧ Dr D H' ∧ ∃ gs : List Int, H' A = some (.lst (gs.map V.int)) ∧ gs.Pairwise (· < ·) ∧ (∀ n ∈ gs, 0 ≤ n ∧ n < i)) ⟨Kp.of (Ex.new hA), hD.ex (Ex.new hA), [], upd_same, List.Pairwise.nil, fun n h => by cases h⟩ (fun _ _ _ _ => trivial) ?_ ?_⟩
    · omega
    · omega
    · rintro i x H6 H7 hi ⟨k6, d6, gs, hA6, asc, inn⟩ ⟨rfl, rfl⟩
      refine ⟨rfl, ?_⟩
      refine ⟨_, rfl, D, 2, rfl, d6, by decide, fun q H8 h2 h3 k8 d8 => ⟨rfl, _, rfl, ?_⟩⟩
      have hAD : A ≠ D := Kp.ne hD hA
      have hA8 := k8 _ _ hAD hA6
      have k58 := k6.trans k8
      have hgl : (gs.length : Int) ≤ (i : Int) - 0 := asc_few asc inn (by omega)
      have hi9 : i < 100 := by omega
      by_cases c : V.int q = V.int 1
      · refine iteT' (decide_eq_true c) ⟨_, rfl, _, hA8, by rw [List.length_map]; exact small1000 (by omega), k58.mut hA, ?_, gs ++ [(i : Int)], ?_, ?_, ?_⟩
        · obtain ⟨ms, hms⟩ := d8
          exact ⟨ms, by rw [upd_ne (Ne.symm hAD)]; exact hms⟩
        · rw [upd_same, List.map_append]
          simp
        · rw [List.pairwise_append]
          refine ⟨asc, List.pairwise_singleton _ _, fun a ha b hb => ?_⟩
          have := inn a ha
          have : b = i := by simpa using hb
          omega
        · intro n hn
          rcases List.mem_append.mp hn with hn | hn
          · have := inn n hn
            omega
          · have : n = i := by simpa using hn
            omega
      · exact iteF' (decide_eq_false c) ⟨k58, d8, gs, hA8, asc, fun n hn => by have := inn n hn; omega⟩
    · rintro H6 ⟨k6, d6, gs, hA6, asc, inn⟩
      exact k A gs H6 k6 d6 hA hA6 asc (fun n hn => by have := inn n hn; omega)
end
end K03


set_option Elab.async false
set_option linter.all false
set_option maxRecDepth 100000
set_option maxHeartbeats 4000000
/-! xs[i] += e, xs a list, i not below 0 -/
namespace L2
open PySem PySem.Spec PyProof.Rows
section
variable {X : Cx}
def rGetL (K : PySem.W.Frag) : V → V → Hp → VK → Prop := fun o i H Q => ∃ (p : Addr) (xs : List V) (j : Nat) (v : V), o = .ref p ∧ i = .int (j : Int) ∧ SqL K H p xs ∧ xs[j]? = some v ∧ Q v H
theorem get_listA : PGet X (rGetL X.K) := by
  intro pins s σ H o i ov iv Q I ro ri hq
  obtain ⟨p, xs, j, v, rfl, rfl, hs, hv, q⟩ := hq
  cases ro
  obtain ⟨t, rfl⟩ := ri
  obtain ⟨its, r, pl, hz⟩ := I.list hs
  obtain ⟨u, hu, ru⟩ := r.get hv
  have hl := r.length
  have hj := (List.getElem?_eq_some_iff.mp hv).1
  have h63 := line63
  exact wpAny_getItem_list pl.isList (Int.natCast_nonneg j) (by omega) (by rw [Int.toNat_natCast]; simpa using hu) ⟨v, H, I, ru, q⟩
/-- o[i] += e -/
theorem ps_augL {o i e : Expr} {to ti te : TE} {tpos pos : Pos} (ho : PE X o to) (hi : PE X i ti) (he : PE X e te)
    (ha : ∀ ov iv new, augStore i ov iv new = (do holding [new, ov, iv] (setItem ov iv new); release [new, ov, iv] []; pure .next) := by intros; rfl) :
    PS X (.AugAssign (.Subscript o i tpos) .Add e pos) (tAugS to ti te (rGetL X.K) (ipI fun i j => i + j) rSetL) := ps_augS ho hi get_listA he ip_add set_list ha
theorem ps_augLs {o i e : Expr} {to ti te : TE} {tpos pos : Pos} (ho : PE X o to) (hi : PE X i ti) (he : PE X e te)
    (ha : ∀ ov iv new, augStore i ov iv new = (do holding [new, ov, iv] (setItem ov iv new); release [new, ov, iv] []; pure .next) := by intros; rfl) :
    PS X (.AugAssign (.Subscript o i tpos) .Sub e pos) (tAugS to ti te (rGetL X.K) (ipI fun i j => i - j) rSetL) := ps_augS ho hi get_listA he ip_sub set_list ha
end
end L2


set_option Elab.async false
set_option linter.all false
set_option maxRecDepth 100000
set_option maxHeartbeats 4000000
namespace K03
open PySem PySem.Spec PyProof.Rows L2
open Evl (Ex)
/-- how many of these parts cover the place -/
def covAt (rs : List (Int × Int)) (ps : List Int) (j : Int) : Int := ((ps.filter fun p => decide ((rs.getD p.toNat (0, 0)).1 ≤ j ∧ j < (rs.getD p.toNat (0, 0)).2)).length : Int)
def rowOf (s : Nat) (f : Int → Int) : List Int := (List.range s).map fun j : Nat => f (j : Int)
def covL (s : Nat) (rs : List (Int × Int)) (ps : List Int) : List Int := rowOf s (covAt rs ps)
/-- the row with one more on j places behind b -/
def bump (f : Int → Int) (b : Int) (j : Nat) (q : Int) : Int := f q + (if b ≤ q ∧ q < b + j then 1 else 0)
theorem row_get {s : Nat} {f : Int → Int} {j : Nat} (h : j < s) : (rowOf s f)[j]? = some (f j) := by
  unfold rowOf
  rw [List.getElem?_map, List.getElem?_range h]
  rfl
theorem row_set {s : Nat} {f g : Int → Int} {j : Nat} {v : Int} (h : j < s) (hv : g j = v) (ho : ∀ q : Nat, q < s → q ≠ j → g q = f q) : (rowOf s f).set j v = rowOf s g := by
  apply List.ext_getElem?
  intro q
  rw [List.getElem?_set]
  by_cases c : j = q
  · subst c
    rw [if_pos rfl, row_get h, hv]
    have : (rowOf s f).length = s := by unfold rowOf; simp
    rw [if_pos (by rw [this]; exact h)]
  · rw [if_neg c]
    by_cases hq : q < s
    · rw [row_get hq, row_get hq, ho q hq (Ne.symm c)]
    · have l1 : (rowOf s f).length = s := by unfold rowOf; simp
      have l2 : (rowOf s g).length = s := by unfold rowOf; simp
      rw [List.getElem?_eq_none (by omega), List.getElem?_eq_none (by omega)]
theorem row_len (s : Nat) (f : Int → Int) : (rowOf s f).length = s := by unfold rowOf; simp
theorem row_congr {s : Nat} {f g : Int → Int} (h : ∀ q : Nat, q < s → f q = g q) : rowOf s f = rowOf s g := by
  unfold rowOf
  exact List.map_congr_left fun q hq => h q (List.mem_range.mp hq)
theorem covAt_snoc (rs : List (Int × Int)) (ps : List Int) (p j : Int) : covAt rs (ps ++ [p]) j = covAt rs ps j + (if (rs.getD p.toNat (0, 0)).1 ≤ j ∧ j < (rs.getD p.toNat (0, 0)).2 then 1 else 0) := by
  unfold covAt
  rw [List.filter_append, List.length_append]
  by_cases c : (rs.getD p.toNat (0, 0)).1 ≤ j ∧ j < (rs.getD p.toNat (0, 0)).2
  · rw [if_pos c]
    have : [p].filter (fun p => decide ((rs.getD p.toNat (0, 0)).1 ≤ j ∧ j < (rs.getD p.toNat (0, 0)).2)) = [p] := by simp only [List.filter_cons, List.filter_nil, decide_eq_true c, if_true]
    rw [this]
    rfl
  · rw [if_neg c]
    have : [p].filter (fun p => decide ((rs.getD p.toNat (0, 0)).1 ≤ j ∧ j < (rs.getD p.toNat (0, 0)).2)) = [] := by simp only [List.filter_cons, List.filter_nil, decide_eq_false c]; rfl
    rw [this]
    simp
section
variable {w : World} {K : PySem.W.Frag} {mg : Str → Option Value} {base : Heap}
def spLCover : Sp := fun vs H Q _ => ∃ (s : Nat) (R A : Addr) (us : List V) (rs : List (Int × Int)) (ps : List Int), vs = [.int s, .ref R, .ref A] ∧ s ≤ 50 ∧ H R = some (.lst us) ∧ Runs H us rs ∧ (∀ r ∈ rs, Fits s r) ∧ H A = some (.lst (ps.map V.int)) ∧ (∀ n ∈ ps, 0 ≤ n ∧ n < rs.length) ∧
  ∀ H' q, Ex H H' → H q = none → H' q = some (.lst ((covL s rs ps).map V.int)) → Q (.ref q) H'
theorem sc_lcover : FnScope ["_law_size", "_law_runs", "_law_parts_here", "_law_covers", "_law_place", "_law_part"] ["_law_size", "_law_runs", "_law_parts_here"] (defScope s__law_cover) := ⟨rfl, rfl, rfl, by decide +kernel, rfl, by decide +kernel, by decide +kernel⟩
theorem has_lcover (T : Ctx K mg) : Has w K mg base CX0 "_law_cover" 1 ["_law_size", "_law_runs", "_law_parts_here"] spLCover := by
  refine has_of (st := s__law_cover) (f := He.ga K "_law_cover") T.d__law_cover T.g__law_cover (fun _ _ _ _ _ _ us hl => match us, hl with | [_, _, _], _ => rfl) fun fd F => ?_
  refine ok0 F sc_lcover (fun vs H Q E h => ?_) (fun cdv A outer s0 H vs Q E hr h => ?_)
  · obtain ⟨s, R, A, us, rs, ps, rfl, _⟩ := h
    rfl
  · obtain ⟨s, R, A, us, rs, ps, rfl, hs50, hR, RR, hF, hA, inn, k⟩ := h
    have nd := sc_lcover.nd
    refine ⟨_, pss_cons (ps_setLc (own := [("_law_place", 4)]) (i := 3) (g := gName 4) (tt := tYes) rfl nd rfl rfl rfl (pi_range1 (by rfl) T.b_range (pa_cons (pv 0) pa_nil)) (blkOk_by (own := [("_law_place", 4)]) (N := ["_law_size", "_law_runs", "_law_parts_here", "_law_covers", "_law_place", "_law_part"]) (sc := defScope s__law_cover) (by decide +kernel)) (fun _ _ _ _ _ => pg_name (i := 4) nd rfl (Or.inl rfl)) (fun _ _ _ _ _ => pts_nil) (fun _ _ _ _ _ => pe_int))
      (pss_cons (ps_for PassesOwn.never rfl (pi_list (pv 2)) (pg_name (i := 5) nd rfl (.inl rfl))
        (pss_one (ps_for PassesOwn.never rfl (pi_range2 (by rfl) T.b_range (pa_cons (pe_ix ix_tup (pe_ix ix_list (pv 1) (pv 5) (fun _ _ => rfl)) pe_int (fun _ _ => rfl)) (pa_cons (pe_ix ix_tup (pe_ix ix_list (pv 1) (pv 5) (fun _ _ => rfl)) pe_int (fun _ _ => rfl)) pa_nil))) (pg_name (i := 4) nd rfl (.inl rfl))
          (pss_one (ps_augL (pv 3) (pv 4) pe_int)))))
      (pss_one (ps_ret (pv 3)))), ?_⟩
    refine ⟨_, rfl, _, rfl, ?_, ?_, fun q hq => lc_it walk_range (fun i H' => Ex H H' ∧ H' q = some (.lst ((List.replicate i (0 : Int)).map V.int))) ⟨Ex.new hq, upd_same⟩ (fun _ _ _ _ => trivial) ?_ ?_⟩
    · omega
    · omega
    · rintro i x H2 H3 hi ⟨e2, hq2⟩ ⟨rfl, rfl⟩
      have hi50 : i < 100 := by omega
      refine ⟨rfl, tYesI ⟨_, hq2, by rw [List.length_map, List.length_replicate]; exact small1000 (by omega), Evl.Ex.mut e2 hq, ?_⟩⟩
      rw [upd_same, List.replicate_succ', List.map_append]
      rfl
    rintro H1 ⟨e1, hq1⟩
    have hrow0 : List.replicate ((s : Int).toNat) (0 : Int) = covL s rs [] := by
      unfold covL rowOf
      rw [Int.toNat_natCast]
      apply List.ext_getElem?
      intro n
      by_cases hn : n < s
      · rw [List.getElem?_map, List.getElem?_range hn, List.getElem?_replicate, if_pos hn]
        rfl
      · rw [List.getElem?_eq_none (by simp; omega), List.getElem?_eq_none (by simp; omega)]
    rw [hrow0] at hq1
    have hRq : R ≠ q := ne_of_none hR hq
    have hAq : A ≠ q := ne_of_none hA hq
    refine ⟨_, rfl, A, rfl, ⟨_, SqL.of (e1 _ _ hA)⟩, for_it walk_list (fun i σ H' => ∃ v4 v5 : Option V, σ = [some (.int s), some (.ref R), some (.ref A), some (.ref q), v4, v5] ∧ Ex H H' ∧ H' q = some (.lst ((covL s rs (ps.take i)).map V.int))) ⟨_, _, rfl, e1, hq1⟩ (fun i σ H' _ ⟨_, _, _, e, _⟩ => SqL.of (e _ _ hA)) ?_ ?_⟩
    · rintro i x σ H2 H3 hi ⟨v4, v5, rfl, e2, hq2⟩ ⟨rfl, hx⟩
      obtain ⟨p, hp, rfl⟩ : ∃ p, ps[i]? = some p ∧ x = V.int p := by
        have hx2 : (ps.map V.int)[i]? = some x := hx
        rw [List.getElem?_map] at hx2
        cases c : ps[i]? with
        | none => rw [c] at hx2; cases hx2
        | some p => rw [c] at hx2; cases hx2; exact ⟨p, rfl, rfl⟩
      obtain ⟨hp0, hp1⟩ := inn p (List.mem_of_getElem? hp)
      obtain ⟨n, rfl⟩ : ∃ n : Nat, p = (n : Int) := ⟨p.toNat, by omega⟩
      have hn : n < rs.length := by omega
      obtain ⟨t, ht, htt⟩ := (RR.ex e2).at_ n _ (List.getElem?_eq_getElem hn)
      have hf := hF _ (List.getElem_mem hn)
      have hgd : rs.getD (n : Int).toNat (0, 0) = rs[n] := by
        rw [Int.toNat_natCast, List.getD_eq_getElem?_getD, List.getElem?_eq_getElem hn]
        rfl
      generalize rs[n] = r at *
      obtain ⟨f0, f1, f2⟩ := hf
      have hix : atI us (n : Int) = some (.ref t) := atI_nat ht
      refine ⟨_, rfl, _, rfl, R, us, _, _, rfl, rfl, SqL.of (e2 _ _ hR), hix, t, _, 0, _, rfl, rfl, SqT.of htt, atI_nat (j := 0) rfl, ?_⟩
      refine ⟨_, rfl, _, rfl, R, us, _, _, rfl, rfl, SqL.of (e2 _ _ hR), hix, t, _, 1, _, rfl, rfl, SqT.of htt, atI_nat (j := 1) rfl, ?_⟩
      refine ⟨_, _, rfl, ⟨by omega, by omega, by omega, by omega⟩, for_it walk_range (fun j σ H' => ∃ v4 v5 : Option V, σ = [some (.int s), some (.ref R), some (.ref A), some (.ref q), v4, v5] ∧ Ex H H' ∧ H' q = some (.lst ((rowOf s (bump (covAt rs (ps.take i)) r.1 j)).map V.int))) ⟨_, _, rfl, e2, ?_⟩ (fun _ _ _ _ _ => trivial) ?_ ?_⟩
      · rw [hq2]
        unfold covL
        rw [row_congr (g := bump (covAt rs (ps.take i)) r.1 0) fun z _ => ?_]
        unfold bump
        rw [if_neg (by omega)]
        omega
      · rintro j x σ H4 H5 hj ⟨v4, v5, rfl, e4, hq4⟩ ⟨rfl, rfl⟩
        obtain ⟨b, hb⟩ : ∃ b : Nat, r.1 = (b : Int) := ⟨r.1.toNat, by omega⟩
        have hbj : b + j < s := by omega
        have ebj : r.1 + (j : Int) = ((b + j : Nat) : Int) := by omega
        refine ⟨_, rfl, _, rfl, q, _, b + j, .int (bump (covAt rs (ps.take i)) r.1 j ((b + j : Nat) : Int)), rfl, ?_, SqL.of hq4, ?_, _, _, rfl, rfl, q, _, r.1 + (j : Int), b + j, rfl, rfl, hq4, ?_, _, _, rfl, Evl.Ex.mut e4 hq, ?_⟩
        · exact congrArg V.int ebj
        · rw [List.getElem?_map, row_get hbj]
          rfl
        · unfold ixN
          rw [List.length_map, row_len, if_pos (by omega), if_pos (by omega), ebj, Int.toNat_natCast]
        · rw [upd_same]
          show some (HO.lst (((rowOf s (bump (covAt rs (ps.take i)) r.1 j)).map V.int).set (b + j) (V.int (bump (covAt rs (ps.take i)) r.1 j ((b + j : Nat) : Int) + 1)))) = _
          rw [← List.map_set, row_set (g := bump (covAt rs (ps.take i)) r.1 (j + 1)) hbj ?_ fun z hz hne => ?_]
          · unfold bump
            rw [if_pos (by omega), if_neg (by omega)]
            omega
          · unfold bump
            by_cases c : r.1 ≤ (z : Int) ∧ (z : Int) < r.1 + (j : Int)
            · rw [if_pos c, if_pos (by omega)]
            · rw [if_neg c, if_neg (by omega)]
      · rintro σ H4 ⟨v4, v5, rfl, e4, hq4⟩
        refine ⟨_, _, rfl, e4, ?_⟩
        rw [hq4, List.take_add_one, hp]
        unfold covL
        rw [row_congr (g := covAt rs (ps.take i ++ [(n : Int)])) fun z _ => ?_]
        · rfl
        · rw [covAt_snoc, hgd]
          unfold bump
          have e3 : r.1 + ((r.2 - r.1).toNat : Int) = r.2 := by omega
          rw [e3]
    · rintro σ H2 ⟨v4, v5, rfl, e2, hq2⟩
      refine ⟨_, rfl, k _ _ e2 hq ?_⟩
      rw [hq2, List.length_map, List.take_length]
end
end K03


set_option Elab.async false
set_option linter.all false
set_option maxRecDepth 100000
set_option maxHeartbeats 4000000
namespace K03
open PySem PySem.Spec PyProof.Rows L2
open Evl (Ex)
/-- the changes of the cover at the points -/
def dOne (r : Int × Int) (j : Int) : Int := (if j = r.1 then 1 else 0) - (if j = r.2 then 1 else 0)
def dAt (rs : List (Int × Int)) : List Int → Int → Int
  | [], _ => 0
  | p :: ps, j => dAt rs ps j + dOne (rs.getD p.toNat (0, 0)) j
def pre (f : Int → Int) : Nat → Int
  | 0 => 0
  | n + 1 => pre f n + f n
theorem pre_add (f g : Int → Int) : ∀ n, pre (fun j => f j + g j) n = pre f n + pre g n
  | 0 => rfl
  | n + 1 => by
    show pre (fun j => f j + g j) n + (f n + g n) = (pre f n + f n) + (pre g n + g n)
    rw [pre_add f g n]
    omega
theorem pre_one {r : Int × Int} (h0 : 0 ≤ r.1) (h1 : r.1 < r.2) : ∀ n : Nat, pre (dOne r) n = if r.1 ≤ (n : Int) - 1 ∧ (n : Int) - 1 < r.2 then 1 else 0
  | 0 => by
    rw [if_neg (by omega)]
    rfl
  | n + 1 => by
    show pre (dOne r) n + dOne r n = _
    rw [pre_one h0 h1 n]
    unfold dOne
    have e : ((n + 1 : Nat) : Int) - 1 = (n : Int) := by omega
    rw [e]
    split <;> split <;> split <;> split <;> omega
theorem covAt_cons (rs : List (Int × Int)) (ps : List Int) (p j : Int) : covAt rs (p :: ps) j = covAt rs ps j + (if (rs.getD p.toNat (0, 0)).1 ≤ j ∧ j < (rs.getD p.toNat (0, 0)).2 then 1 else 0) := by
  unfold covAt
  by_cases c : (rs.getD p.toNat (0, 0)).1 ≤ j ∧ j < (rs.getD p.toNat (0, 0)).2
  · rw [if_pos c, List.filter_cons, if_pos (by exact decide_eq_true c), List.length_cons]
    omega
  · rw [if_neg c, List.filter_cons, if_neg (by simpa using c)]
    omega
theorem pre_cov {s : Int} {rs : List (Int × Int)} (hF : ∀ r ∈ rs, Fits s r) : ∀ (ps : List Int), (∀ n ∈ ps, 0 ≤ n ∧ n < rs.length) → ∀ q : Nat, pre (dAt rs ps) (q + 1) = covAt rs ps q
  | [], _, q => by
    have z : ∀ n, pre (dAt rs []) n = 0 := fun n => by
      induction n with
      | zero => rfl
      | succ n ih =>
        show pre (dAt rs []) n + 0 = 0
        rw [ih]
        rfl
    rw [z]
    rfl
  | p :: ps, h, q => by
    have hp := h p (List.mem_cons_self ..)
    have hn : p.toNat < rs.length := by omega
    have hg : rs.getD p.toNat (0, 0) = rs[p.toNat] := by
      rw [List.getD_eq_getElem?_getD, List.getElem?_eq_getElem hn]
      rfl
    have hf := hF _ (List.getElem_mem hn)
    have e := pre_add (dAt rs ps) (dOne (rs.getD p.toNat (0, 0))) (q + 1)
    show pre (fun j => dAt rs ps j + dOne (rs.getD p.toNat (0, 0)) j) (q + 1) = _
    rw [e, pre_cov hF ps (fun n hn => h n (List.mem_cons_of_mem _ hn)) q, covAt_cons, hg, pre_one hf.1 hf.2.1]
    have e2 : ((q + 1 : Nat) : Int) - 1 = (q : Int) := by omega
    rw [e2]
theorem dAt_snoc (rs : List (Int × Int)) (p j : Int) : ∀ ps : List Int, dAt rs (ps ++ [p]) j = dAt rs ps j + dOne (rs.getD p.toNat (0, 0)) j
  | [] => by show 0 + _ = 0 + _; rfl
  | q :: ps => by
    show dAt rs (ps ++ [p]) j + _ = dAt rs ps j + _ + _
    rw [dAt_snoc rs p j ps]
    omega
end K03


set_option Elab.async false
set_option linter.all false
set_option maxRecDepth 100000
set_option maxHeartbeats 4000000
namespace K03
open PySem PySem.Spec PyProof.Rows L2
open Evl (Ex)
theorem cut_last (xs : List V) (v : V) : cutV (xs ++ [v]) none (some (-1)) = xs := by
  unfold cutV HT.sIx
  simp
  have e : (-1 + ((xs.length : Int) + 1)).toNat = xs.length := by omega
  rw [e]
  simp
section
variable {w : World} {K : PySem.W.Frag} {mg : Str → Option Value} {base : Heap}
def spCovered (K : PySem.W.Frag) : Sp := fun vs H Q _ => ∃ (x c : Addr) (kd : Str) (s : Nat) (us : List V) (rs : List (Int × Int)) (ns ps : List Int), vs = [.ref x, .ref c] ∧ Mkt K H x kd (s : Int) us rs ns ∧ s ≤ 50 ∧ (∀ r ∈ rs, Fits s r) ∧ H c = some (.tup (ps.map V.int)) ∧ (∀ n ∈ ps, 0 ≤ n ∧ n < rs.length) ∧
  ∀ H' q, Ex H H' → H q = none → H' q = some (.tup ((covL s rs ps).map V.int)) → Q (.ref q) H'
theorem sc_covered : FnScope ["market", "chosen", "changes", "part", "begin", "end", "counts", "count", "change"] ["market", "chosen"] (defScope s_covered) := ⟨rfl, rfl, rfl, by decide +kernel, rfl, by decide +kernel, by decide +kernel⟩
theorem has_covered (T : Ctx K mg) : Has w K mg base CX0 "covered" 1 ["market", "chosen"] (spCovered K) := by
  refine has_of (st := s_covered) (f := He.ga K "covered") T.d_covered T.g_covered (fun _ _ _ _ _ _ us hl => match us, hl with | [_, _], _ => rfl) fun fd F => ?_
  refine ok0 F sc_covered (fun vs H Q E h => ?_) (fun cdv A outer s0 H vs Q E hr h => ?_)
  · obtain ⟨x, c, kd, s, us, rs, ns, ps, rfl, _⟩ := h
    rfl
  · obtain ⟨x, c, kd, s, us, rs, ns, ps, rfl, M, hs50, hF, hc, inn, k⟩ := h
    obtain ⟨C, dx, pr, pg, hM, h1, h2, h3⟩ := M.ob
    have nd := sc_covered.nd
    refine ⟨_, pss_cons (ps_set (i := 2) nd rfl (.inl rfl) (pe_op op_rep (pe_lst (pa_cons pe_int pa_nil)) (pe_op op_add (pe_fld (pv 0) rfl) pe_int)))
      (pss_cons (ps_for PassesOwn.never rfl (pi_tup (pv 1)) (pg_name (i := 3) nd rfl (.inl rfl))
        (pss_cons (ps_asg (pe_ix ix_tup (pe_fld (pv 0) rfl) (pv 3) (fun _ _ => rfl)) (pg_tup (by rfl) (pgs_cons (pg_name (i := 4) nd rfl (.inl rfl)) (pgs_cons (pg_name (i := 5) nd rfl (.inl rfl)) pgs_nil))))
        (pss_cons (ps_augL (pv 2) (pv 4) pe_int) (pss_one (ps_augLs (pv 2) (pv 5) pe_int)))))
      (pss_cons (ps_set (i := 6) nd rfl (.inl rfl) (pe_lst pa_nil))
      (pss_cons (ps_set (i := 7) nd rfl (.inl rfl) pe_int)
      (pss_cons (ps_for PassesOwn.never rfl (pi_list (pe_slice sl_list (pv 2) po_none (po_some (pe_un un_neg pe_int)))) (pg_name (i := 8) nd rfl (.inl rfl))
        (pss_cons (ps_aug (i := 7) nd rfl (.inl rfl) (pv 8) ip_add)
        (pss_one (ps_expr (pe_bm PySem.F.plainAttrs_list PySem.F.slot_list_append PySem.F.type_list_append mt_append (pv 6) (pa_cons (pv 7) pa_nil))))))
      (pss_one (ps_ret (pe_callTy call_tuple_of (by rfl) T.b_tuple (by decide +kernel) (pa_cons (pv 6) pa_nil)))))))), ?_⟩
    refine ⟨(by show 1 ≤ sizeLine; decide), fun p0 hp0 => ?_⟩
    have e0 := Ex.new (o := .lst [V.int 0]) hp0
    refine ⟨_, rfl, x, C, dx, _, _, rfl, e0 _ _ h1, hM.cl T, hM.nS T, mf_size _ _ _, _, _, rfl, rfl, p0, _, _, rfl, rfl, upd_same, ?_, ?_, ?_, fun q hq => ?_⟩
    · omega
    · omega
    · refine Nat.le_trans (show 1 * ((s : Int) + 1).toNat ≤ 1000 by omega) (by decide)
    have hrow0 : (List.replicate (((s : Int) + 1).toNat) [V.int 0]).flatten = (rowOf (s + 1) (dAt rs [])).map V.int := by
      have e : ((s : Int) + 1).toNat = s + 1 := by omega
      rw [e]
      have z : ∀ n : Nat, (List.replicate n [V.int 0]).flatten = (List.range n).map fun _ => V.int 0 := fun n => by
        induction n with
        | zero => rfl
        | succ n ih => rw [List.replicate_succ', List.flatten_append, ih, List.range_succ, List.map_append]; rfl
      rw [z]
      unfold rowOf
      rw [List.map_map]
      rfl
    have e1 := e0.trans (Ex.new (o := .lst (List.replicate (((s : Int) + 1).toNat) [V.int 0]).flatten) hq)
    have hq0 : H q = none := Evl.fresh_back e0 hq
    refine ⟨_, rfl, c, rfl, ⟨_, SqT.of (e1 _ _ hc)⟩, for_it walk_tup (fun i σ H' => ∃ v3 v4 v5 v6 v7 v8 : Option V, σ = [some (.ref x), some (.ref c), some (.ref q), v3, v4, v5, v6, v7, v8] ∧ Ex H H' ∧ H' q = some (.lst ((rowOf (s + 1) (dAt rs (ps.take i))).map V.int))) ⟨_, _, _, _, _, _, rfl, e1, by rw [upd_same]; exact congrArg (fun z => some (HO.lst z)) hrow0⟩ (fun i σ H' _ ⟨_, _, _, _, _, _, _, e, _⟩ => Ex.tup e hc) ?_ ?_⟩
    · rintro i v σ H2 H3 hi ⟨v3, v4, v5, v6, v7, v8, rfl, e2, hq2⟩ ⟨rfl, hx⟩
      obtain ⟨p, hp, rfl⟩ : ∃ p, ps[i]? = some p ∧ v = V.int p := by
        have hx2 : (ps.map V.int)[i]? = some v := hx
        rw [List.getElem?_map] at hx2
        cases cc : ps[i]? with
        | none => rw [cc] at hx2; cases hx2
        | some p => rw [cc] at hx2; cases hx2; exact ⟨p, rfl, rfl⟩
      obtain ⟨hpp0, hp1⟩ := inn p (List.mem_of_getElem? hp)
      obtain ⟨n, rfl⟩ : ∃ n : Nat, p = (n : Int) := ⟨p.toNat, by omega⟩
      have hn : n < rs.length := by omega
      obtain ⟨t, ht, htt⟩ := (M.runs.ex e2).at_ n _ (List.getElem?_eq_getElem hn)
      have hf := hF _ (List.getElem_mem hn)
      have hgd : rs.getD (n : Int).toNat (0, 0) = rs[n] := by
        rw [Int.toNat_natCast, List.getD_eq_getElem?_getD, List.getElem?_eq_getElem hn]
        rfl
      generalize rs[n] = r at *
      obtain ⟨f0, f1, f2⟩ := hf
      have hix : atI us (n : Int) = some (.ref t) := atI_nat ht
      refine ⟨_, rfl, x, C, dx, _, _, rfl, e2 _ _ h1, hM.cl T, hM.nR T, mf_runs _ _ _, _, rfl, pr, us, _, _, rfl, rfl, SqT.of (e2 _ _ h2), hix, t, _, rfl, SqT.of htt, rfl, _, _, rfl, _, _, rfl, rfl, ?_⟩
      obtain ⟨b, hb⟩ : ∃ b : Nat, r.1 = (b : Int) := ⟨r.1.toNat, by omega⟩
      obtain ⟨e, he⟩ : ∃ e : Nat, r.2 = (e : Int) := ⟨r.2.toNat, by omega⟩
      have hbs : b < s + 1 := by omega
      have hes : e < s + 1 := by omega
      have f1' : (rowOf (s + 1) (dAt rs (ps.take i))).set b (dAt rs (ps.take i) b + 1) = rowOf (s + 1) (fun j => dAt rs (ps.take i) j + (if j = r.1 then 1 else 0)) := row_set hbs (by rw [if_pos hb.symm]) fun z hz hne => by rw [if_neg (by omega)]; omega
      refine ⟨_, rfl, _, rfl, q, _, b, .int (dAt rs (ps.take i) b), rfl, congrArg V.int hb, SqL.of hq2, ?_, _, _, rfl, rfl, q, _, r.1, b, rfl, rfl, hq2, ?_, ?_⟩
      · rw [List.getElem?_map, row_get hbs]
        rfl
      · unfold ixN
        rw [List.length_map, row_len, if_pos (by omega), if_pos (by omega), hb, Int.toNat_natCast]
      have hq3 : upd H3 q (.lst (((rowOf (s + 1) (dAt rs (ps.take i))).map V.int).set b (V.int (dAt rs (ps.take i) b + 1)))) q = some (.lst ((rowOf (s + 1) (fun j => dAt rs (ps.take i) j + (if j = r.1 then 1 else 0))).map V.int)) := by
        rw [upd_same, ← List.map_set, f1']
      have e3 : Ex H (upd H3 q (.lst (((rowOf (s + 1) (dAt rs (ps.take i))).map V.int).set b (V.int (dAt rs (ps.take i) b + 1))))) := Evl.Ex.mut e2 hq0
      have gF : ∀ j : Int, (fun j => dAt rs (ps.take i) j + (if j = r.1 then 1 else 0)) j - (if j = r.2 then 1 else 0) = dAt rs (ps.take i ++ [(n : Int)]) j := fun j => by
        rw [dAt_snoc, hgd]
        unfold dOne
        show dAt rs (ps.take i) j + (if j = r.1 then 1 else 0) - (if j = r.2 then 1 else 0) = _
        omega
      refine ⟨_, rfl, _, rfl, q, _, e, .int ((fun j => dAt rs (ps.take i) j + (if j = r.1 then 1 else 0)) (e : Int)), rfl, congrArg V.int he, SqL.of hq3, ?_, _, _, rfl, rfl, q, _, r.2, e, rfl, rfl, hq3, ?_, ?_⟩
      · rw [List.getElem?_map, row_get hes]
        rfl
      · unfold ixN
        rw [List.length_map, row_len, if_pos (by omega), if_pos (by omega), he, Int.toNat_natCast]
      refine ⟨_, _, _, _, _, _, rfl, Evl.Ex.mut e3 hq0, ?_⟩
      rw [upd_same, List.take_add_one, hp]
      show some (HO.lst (((rowOf (s + 1) (fun j => dAt rs (ps.take i) j + (if j = r.1 then 1 else 0))).map V.int).set e (V.int ((fun j => dAt rs (ps.take i) j + (if j = r.1 then 1 else 0)) (e : Int) - 1)))) = some (HO.lst ((rowOf (s + 1) (dAt rs (ps.take i ++ [(n : Int)]))).map V.int))
      rw [← List.map_set, row_set (g := dAt rs (ps.take i ++ [(n : Int)])) hes ?_ fun z hz hne => ?_]
      · rw [← gF, if_pos he.symm]
      · rw [← gF, if_neg (show ¬ ((z : Int) = r.2) by omega)]
        exact Int.sub_zero _
    · rintro σ H2 ⟨v3, v4, v5, v6, v7, v8, rfl, e2, hq2⟩
      rw [List.length_map, List.take_length] at hq2
      refine ⟨(by show 0 ≤ sizeLine; decide), fun p6 hp6 => ?_⟩
      have e3 := e2.trans (Ex.new (o := .lst []) hp6)
      have hq3 := (Ex.new (o := .lst []) hp6) _ _ hq2
      have hp60 : H p6 = none := Evl.fresh_back e2 hp6
      have hpq : p6 ≠ q := Ne.symm (ne_of_none hq2 hp6)
      have hrow : (rowOf (s + 1) (dAt rs ps)).map V.int = (rowOf s (dAt rs ps)).map V.int ++ [V.int (dAt rs ps s)] := by
        unfold rowOf
        rw [List.range_succ, List.map_append, List.map_append]
        rfl
      rw [hrow] at hq3
      refine ⟨_, rfl, _, rfl, _, rfl, q, _, rfl, SqL.of hq3, fun p8 hp8 => ?_⟩
      rw [cut_last]
      have e4 := e3.trans (Ex.new (o := .lst ((rowOf s (dAt rs ps)).map V.int)) hp8)
      have hp68 := (Ex.new (o := .lst ((rowOf s (dAt rs ps)).map V.int)) hp8) _ _ (upd_same (H := H2) (a := p6) (o := .lst []))
      have hp86 : p8 ≠ p6 := Ne.symm (ne_of_none (upd_same (H := H2) (a := p6) (o := .lst [])) hp8)
      refine ⟨p8, rfl, ⟨_, SqL.of upd_same⟩, for_it walk_list (fun i σ H' => ∃ v3 v4 v5 v8 : Option V, σ = [some (.ref x), some (.ref c), some (.ref q), v3, v4, v5, some (.ref p6), some (.int (pre (dAt rs ps) i)), v8] ∧ Ex H H' ∧ H' p8 = some (.lst ((rowOf s (dAt rs ps)).map V.int)) ∧ H' p6 = some (.lst ((rowOf i (fun j => pre (dAt rs ps) (j.toNat + 1))).map V.int))) ⟨_, _, _, _, rfl, e4, upd_same, hp68⟩ (fun i σ H' _ ⟨_, _, _, _, _, _, e, _⟩ => SqL.of e) ?_ ?_⟩
      · rintro i v σ H4 H5 hi ⟨v3, v4, v5, v8, rfl, e5, h8, h6⟩ ⟨rfl, hx⟩
        rw [List.length_map, row_len] at hi
        have hv : v = V.int (dAt rs ps (i : Int)) := by
          have hx2 : ((rowOf s (dAt rs ps)).map V.int)[i]? = some v := hx
          rw [List.getElem?_map, row_get hi] at hx2
          cases hx2
          rfl
        subst hv
        refine ⟨_, rfl, _, rfl, _, _, rfl, rfl, ?_⟩
        refine ⟨_, rfl, .inl ⟨rfl, _, SqL.of h6⟩, _, rfl, p6, _, _, rfl, rfl, h6, by rw [List.length_map, row_len]; exact small1000 (by omega), ?_⟩
        refine ⟨_, _, _, _, rfl, Evl.Ex.mut e5 hp60, by rw [upd_ne hp86]; exact h8, ?_⟩
        rw [upd_same]
        have : rowOf (i + 1) (fun j => pre (dAt rs ps) (j.toNat + 1)) = rowOf i (fun j => pre (dAt rs ps) (j.toNat + 1)) ++ [pre (dAt rs ps) (i + 1)] := by
          unfold rowOf
          rw [List.range_succ, List.map_append]
          simp
        rw [this, List.map_append]
        rfl
      · rintro σ H4 ⟨v3, v4, v5, v8, rfl, e5, h8, h6⟩
        rw [List.length_map, row_len] at h6
        refine ⟨_, rfl, p6, _, rfl, .inl ⟨SqL.of h6, fun p9 hp9 => ?_⟩⟩
        refine k _ p9 (e5.trans (Ex.new hp9)) (Evl.fresh_back e5 hp9) ?_
        rw [upd_same]
        unfold covL
        rw [row_congr fun z hz => ?_]
        show pre (dAt rs ps) ((z : Int).toNat + 1) = covAt rs ps z
        rw [Int.toNat_natCast]
        exact pre_cov hF ps inn z
end
end K03


set_option Elab.async false
set_option linter.all false
set_option maxRecDepth 100000
set_option maxHeartbeats 4000000
/-! for a, b in enumerate(t), t a tuple. -/
namespace PySem
set_option maxHeartbeats 4000000 in
theorem meets_enumerate_newT (l : Addr) (items : Array Value) (n : Nat) (dct : Option Addr) (sl : Array (Option Value)) :
    Meets (Builtin.«enumerate.__new__» ⟨[.type "enumerate", .ref l], []⟩) (fun _ R s => s.heap.get? l = some { cls := .type "tuple", dict := dct, data := .seq items n, slots := sl } ∧
      R (.ok (.ret (.ref (s.heap.push { cls := .type "tuple_iterator", data := .fields #[.ref l, .int 0 0] }).objs.size)))
        { s with heap := (s.heap.push { cls := .type "tuple_iterator", data := .fields #[.ref l, .int 0 0] }).push { cls := .type "enumerate", data := .fields #[.none, .bool false, .ref s.heap.objs.size, rawInt 0, .none, .none] } }) :=
  .of_wp fun prog w A R s h => by
    obtain ⟨hp, g, d, tk, os⟩ := s; obtain ⟨hl, h⟩ := h
    have hsub := sub_enumerate
    have hL : Heap.IsTuple (Shared.heap ⟨hp, g, d, tk, os⟩) l items := ⟨_, hl, rfl, n, rfl⟩
    wp_walk using wpAny_loadPart' hl
    refine wpAny_stack_any fun st => wpAny_pure ?_
    split
    · rename_i c _ _ _ _ _
      cases (c == Value.type "enumerate")
      · wp_walk using wpAny_loadPart' hl, wpAny_pyIter_tuple hL
        exact ⟨_, rfl, h⟩
      · wp_walk using wpAny_loadPart' hl, wpAny_pyIter_tuple hL
        exact ⟨_, rfl, h⟩
    · wp_walk using wpAny_loadPart' hl, wpAny_pyIter_tuple hL
      exact ⟨_, rfl, h⟩
section
variable {prog : Program} {w : World} {A : Around} {E : Value → Shared → Prop} {s : Shared}
theorem call_enumerate_tuple {l : Addr} {items : Array Value} {Q : Value → Shared → Prop} (hL : s.heap.IsTuple l items)
    (h : ∀ h', IsEnum h' (s.heap.objs.size + 1) s.heap.objs.size 0 .none → h'.IsTupleIter s.heap.objs.size l 0 → h'.objs.size = s.heap.objs.size + 2 →
      (∀ b o, s.heap.get? b = some o → h'.get? b = some o) → Q (.ref (s.heap.objs.size + 1)) { s with heap := h' }) :
    wpAny (model prog w) A (call (.type "enumerate") [.ref l]) Q E s := by
  obtain ⟨⟨c, dct, dt, sl⟩, hl, hc, n, hd⟩ := hL
  replace hc : c = .type "tuple" := hc
  replace hd : dt = .seq items n := hd
  subst hc hd
  refine callType_new F.called_enumerate (by decide) (F.typeCall_enumerate_1 _) (F.newCall_enumerate_1 _) (fun obj => F.args_object_init_2 obj _) F.entry_enumerate_new
    (meets_enumerate_newT l items n dct sl) ⟨hl, ?_⟩
  have hz : (s.heap.push { cls := .type "tuple_iterator", data := .fields #[.ref l, .int 0 0] }).objs.size = s.heap.objs.size + 1 := Heap.size_push ..
  show _ ∧ _
  rw [hz]
  have he : IsEnum ((s.heap.push { cls := .type "tuple_iterator", data := .fields #[.ref l, .int 0 0] }).push
      { cls := .type "enumerate", data := .fields #[.none, .bool false, .ref s.heap.objs.size, rawInt 0, .none, .none] }) (s.heap.objs.size + 1) s.heap.objs.size 0 .none := by
    have := Heap.get?_push_size (s.heap.push { cls := .type "tuple_iterator", data := .fields #[.ref l, .int 0 0] })
      (o := { cls := .type "enumerate", data := .fields #[.none, .bool false, .ref s.heap.objs.size, rawInt 0, .none, .none] }) rfl
    rw [hz] at this; exact this
  refine ⟨⟨_, he, rfl⟩, h _ he ⟨_, Heap.get?_push_of_some _ (Heap.get?_push_size _ rfl), rfl, rfl⟩ (by rw [Heap.size_push, hz]) fun b o x => Heap.get?_push_of_some _ (Heap.get?_push_of_some _ x)⟩
theorem wpAny_pyNext_enum_endT {e it l : Addr} {i : Nat} {items : Array Value} {old : Value} {Q : Option Value → Shared → Prop} (hh : A.handled = none)
    (he : IsEnum s.heap e it i old) (hit : s.heap.IsTupleIter it l i) (hl : s.heap.IsTuple l items) (hx : items[i]? = none)
    (hQ : ∀ h', Heap.ExtBut it s.heap h' → Q none { s with heap := h' }) : wpAny (model prog w) A (pyNext (.ref e)) Q E s := by
  have hT : s.TypeIs (.ref e) "enumerate" := ⟨_, he, rfl⟩
  unfold pyNext
  refine wpAny_bind (wpAny_attempt (wpAny_callSpecial?_slot (name := Str.ofString "__next__") hT F.slot_enumerate_next
    (wpAny_call_entry F.slot_enumerate_next hT F.entry_enumerate_next ?_ (F.args_enumerate_next_1 _))))
  show wpAny _ _ (field (.ref e) 2 >>= _) _ _ _
  refine wpAny_bind (wpAny_field he rfl (x := .ref it) rfl ?_)
  refine wpAny_bind (wpAny_nextOf_tuple_end hh hit hl hx fun h' x he' hx' => ?_)
  obtain ⟨o, ho, hc⟩ := hx'
  refine wpAny_bind (wpAny_isInstance (T := "StopIteration") (b := true) ⟨o, ho, hc⟩ isSubtype_stop ?_)
  exact wpAny_pure (hQ _ he')
end
end PySem
namespace L2
open PySem PySem.Spec PyProof.Rows
/-- the tuple at a as it stands at each turn, each item in a new pair -/
def ItE (K : PySem.W.Frag) (a : Addr) : It :=
  ⟨fun i H => ∃ (xs : List V) (x : V), SqT K H a xs ∧ xs[i]? = some x, fun i H v H' => ∃ T x, v = .ref T ∧ H T = none ∧ H' = upd H T (.tup [.int (i : Nat), x]) ∧ ∀ xs, SqT K H a xs → xs[i]? = some x, fun i H => ∃ xs : List V, SqT K H a xs ∧ xs.length ≤ i⟩
theorem turn_enumT {P : Program} {w : World} {K : PySem.W.Frag} {elts : List Expr} {kk : Nat} {tpos : Pos} (a e it : Addr) :
    Turn P w K (.Tuple elts kk tpos) (ItE K a) [e, it] e (fun i h => (∃ old, IsEnum h e it ((i : Nat) : Int) old) ∧ h.IsTupleIter it a i ∧ e ≠ it) where
  mem := by simp
  obj := fun i h st b hb => by
    obtain ⟨⟨old, he⟩, ⟨o, ho, hc, hd⟩, _⟩ := st
    have e' : b = e ∨ b = it := by simpa using hb
    rcases e' with z | z
    · rw [z]; exact ⟨_, he, fun v q => nomatch q⟩
    · rw [z]; exact ⟨o, ho, fun v q => by rw [hd] at q; cases q⟩
  keep := fun i h h' st k => let ⟨⟨old, he⟩, hi, hne⟩ := st; ⟨⟨old, k e (by simp) _ he⟩, hi.at fun o q => k it (by simp) o q, hne⟩
  item := by
    intro X hP hw hK hc i pins s σ H E I hf st hg
    subst hP hw hK
    obtain ⟨⟨old, he⟩, hit, hne⟩ := st
    obtain ⟨xs, x, hq, hx⟩ := hg
    obtain ⟨its, rv, p, hz⟩ := I.tuple hq
    obtain ⟨u, hu, ru⟩ := rv.get hx
    have hel : e < s.heap.objs.size := Heap.lt_size he
    have hil : it < s.heap.objs.size := by obtain ⟨_, q, _⟩ := hit; exact Heap.lt_size q
    have hit0 := hit
    have hae : a ≠ it := fun z => by
      obtain ⟨o1, q1, c1, _⟩ := hit
      obtain ⟨o2, q2, c2, _⟩ := (show s.heap.IsTuple a its.toArray from p)
      rw [z, q1] at q2
      cases q2
      rw [c1] at c2
      exact absurd c2 (by simp)
    have hea : e ≠ a := fun z => by
      obtain ⟨o2, q2, c2, _⟩ := (show s.heap.IsTuple a its.toArray from p)
      rw [← z, he] at q2
      cases q2
      exact absurd c2 (by simp)
    refine wpAny_pyNext_enum_itemD (Draws.tuple (A := X.A.in1) (I.ok.hd hc) it a hae its.toArray) he ⟨hit, (show s.heap.IsTuple a its.toArray from p)⟩ (i := i) (by
      have := (List.getElem?_eq_some_iff.mp hu).1
      simpa using this) hne (by simp [hne, hea]) fun x' h' tk hx' ho hst' hT hsz hk => ?_
    have hux : x' = u := by
      have z : its.toArray[i]? = some x' := hx'
      rw [List.getElem?_toArray, hu] at z
      exact (Option.some.inj z).symm
    subst hux
    obtain ⟨hit', _⟩ := hst'
    refine ⟨_, rfl, wpAny_letOwnedTupleGo_enum (s := { s with heap := h', toks := tk + 1 }) ho fun h'' he' sb => ?_⟩
    have hT2 : h''.get? s.heap.objs.size = some { cls := .type "tuple", data := .seq #[.int i tk, x'] } := (sb.2 _ (Nat.ne_of_gt hel)).trans hT
    have new : ObjOk X.prog X.w (upd H s.heap.objs.size (.tup [.int (i : Nat), x])) h'' s.heap.objs.size (.tup [.int (i : Nat), x]) :=
      ⟨by show 2 ≤ sizeLine; decide, [.int i tk, x'], .cons ⟨_, rfl⟩ (.cons ru .nil), ⟨_, hT2, rfl, _, rfl⟩⟩
    have I1 : Inv X pins σ (upd H s.heap.objs.size (.tup [.int (i : Nat), x])) { s with heap := h'', toks := tk + 1 } :=
      I.turnedNew (ch := [e, it]) (fun b ob hb q => (sb.2 b (fun z => hb (by simp [z]))).trans (hk b ob (fun z => hb (by simp [z])) (fun z => hb (by simp [z])) q)) hf (Nat.le_refl _) new
    refine ⟨.ref s.heap.objs.size, _, I1, rfl, ⟨_, x, rfl, I.hok.fresh (Nat.le_refl _), rfl, fun ys hy => by rw [I.tuple_inj hy hq]; exact hx⟩, ⟨⟨x', ?_⟩, hit'.at fun o q => (sb.2 it (Ne.symm hne)).trans q, hne⟩, fun b hb => ?_⟩
    · have e1 : ((i + 1 : Nat) : Int) = (i : Int) + 1 := by omega
      rw [e1]; exact he'
    · have hb' : b < s.heap.objs.size := by
        have e' : b = e ∨ b = it := by simpa using hb
        rcases e' with z | z
        · rw [z]; exact hel
        · rw [z]; exact hil
      rw [upd_ne (Nat.ne_of_lt hb')]
      exact (hf b hb).1
  done := by
    intro X hP hw hK hc i pins s σ H E I hf st hg
    subst hP hw hK
    obtain ⟨⟨old, he⟩, hit, hne⟩ := st
    obtain ⟨xs, hq, hx⟩ := hg
    obtain ⟨its, rv, p, hz⟩ := I.tuple hq
    obtain ⟨f0, f1, f2, f3, f4, f5⟩ := hf it (by simp)
    have hl := rv.length
    exact wpAny_pyNext_enum_endT (I.ok.hd hc) he hit (show s.heap.IsTuple a its.toArray from p) (by simp; omega) fun h' eb => ⟨rfl, I.turned (t' := s.toks) (fun b o hb q => eb b o hb q) f0 f1 f3 f4 f5⟩
  self := fun A i s Q E st h => let ⟨⟨_, he⟩, _⟩ := st; wpAny_pyIter_enum he h
def iEnumT (K : PySem.W.Frag) (ta : TA) : TI := fun σ H R => ta σ H fun vs H1 => ∃ a xs, vs = [.ref a] ∧ SqT K H1 a xs ∧ R (ItE K a) H1
theorem pi_enumT {X : Cx} {e : Expr} {ta : TA} {p pos tpos : Pos} {elts : List Expr} {kk : Nat} (hg : Gl X "enumerate") (hm : X.mg "enumerate" = none) (ha : PA X [e] ta) (hs : starEach [e] X.env = [(false, eval e X.env)] := by rfl) :
    PI X (.Tuple elts kk tpos) (.Call (.Name "enumerate" p) [e] [] pos) (iEnumT X.K ta) := by
  refine ⟨fun pins s σ H R I h => ?_⟩
  refine Call_ (ld_blt I hg hm boot_enumerate (PyProof.Rows.callWith_type1 (thn (ha.run pos pins s σ H _ I h) fun us s1 ⟨vs, H1, I1, r1, q1⟩ => ?_) hs rfl))
  obtain ⟨a, xs, ex, hq, q⟩ := q1
  subst ex
  cases r1 with
  | cons r rr =>
    cases rr
    cases r
    obtain ⟨its, rv, p', hz⟩ := I1.tuple hq
    refine call_enumerate_tuple (show s1.heap.IsTuple a its.toArray from p') fun h' he hit hsz hk => wpAny_pyIter_enum he ?_
    have I2 : Inv X pins σ H1 { s1 with heap := h' } := I1.kept (t' := s1.toks) hk
    refine ⟨s1.heap.objs.size + 1, [s1.heap.objs.size + 1, s1.heap.objs.size], _, _, H1, rfl, I2, turn_enumT a (s1.heap.objs.size + 1) s1.heap.objs.size, ⟨⟨.none, he⟩, hit, Nat.succ_ne_self _⟩, fun b hb => ?_, q⟩
    have e' : b = s1.heap.objs.size + 1 ∨ b = s1.heap.objs.size := by simpa using hb
    have hle : s1.heap.objs.size ≤ b := by
      rcases e' with z | z
      · rw [z]; exact Nat.le_add_right _ _
      · rw [z]; exact Nat.le_refl _
    exact I1.fpOk hle (I1.hok.fresh hle)
theorem walk_enumT {K : PySem.W.Frag} {a : Addr} {xs : List V} : Walk (ItE K a) xs.length (fun H => SqT K H a xs) (YPair (fun i => some (.int (i : Nat))) (fun i => xs[i]?)) := by
  refine ⟨fun i _ hi q => ⟨xs, xs[i], q, by simp [hi]⟩, fun _ q => ⟨xs, q, Nat.le_refl _⟩, fun i H v H' _ q y => ?_⟩
  obtain ⟨T, x, h1, h2, h3, h4⟩ := y
  exact ⟨T, .int (i : Nat), x, h1, h2, h3, rfl, h4 xs q⟩
end L2


set_option Elab.async false
set_option linter.all false
set_option maxRecDepth 100000
set_option maxHeartbeats 4000000
/-! The program's own errors: each one keeps its field. -/
namespace PySem
namespace BadSetX
open PySem.W PySem.Calls PyProof.Rows PySem.HandSPX
/-! ### the text of __init__ -/
def iA (p1 p2 : Pos) : Arguments := { posonlyargs := [], args := [{ arg := "self", annotation := none, pos := p1 }, { arg := "place", annotation := none, pos := p2 }], vararg := none, kwonlyargs := [], kw_defaults := [], kwarg := none, defaults := [] }
def iB (q1 q2 q3 q4 : Pos) : List Stmt := [.Assign [.Attribute (.Name "self" q1) "place" q2] (.Name "place" q3) q4]
def iS : Scope := { kind := .function, names := [(PySem.Str.ofString "self", .local), (PySem.Str.ofString "place", .local)], isGenerator := false, isCoroutine := false, more := [] }
/-- what the written part says of Low, at C, and of its __init__, at fI -/
structure BadSetTxt (K : Frag) (mg : Str → Option Value) (C fI : Addr) : Prop where
  gC : mg "BadSet" = some (.ref C)
  cls : ∃ nm q N bs bm sn sub ab col dd k0 k1 k2 k3 k5, K.lookup C = some (excClassObj nm q C N bs bm true sn sub ab col dd k0 k1 k2 k3 k5 "ValueError.__new__") ∧ refsVE bm = true
  sa : findIn K (.ref C) "__setattr__" = some (some (.builtin "object.__setattr__"))
  ga : findIn K (.ref C) "__getattribute__" = some (some (.builtin "BaseException.__getattribute__"))
  gg : findIn K (.ref C) "__getattr__" = some none
  noN : findIn K (.ref C) "place" = some none
  iC : findIn K (.ref C) "__init__" = some (some (.ref fI))
  tC : typeIn K (.ref fI) = some (.type "function")
  kC : keepIn K (.ref C) = true
  exC : subIn K (.ref C) (.type "BaseException") = some true
  tyC : typeIn K (.ref C) = some (.type "type")
  hdC : hasDictIn K C = true
  te : exmOne K (.ref C) (.ref C) = some true
  fn : ∃ (oc : Value) (od : Option Addr) (kV doc pm : Value) (an : Option Addr) (cdv ct : Value) (osl : Array (Option Value)) (p1 p2 q1 q2 q3 q4 : Pos),
    K.lookup fI = some ⟨oc, od, .func (fnOf "__init__" "BadSet.__init__" (iA p1 p2) (iB q1 q2 q3 q4) iS .none kV doc pm an cdv ct), osl⟩ ∧ codeIn K cdv "BadSet.__init__" = true
theorem one_size (v : Value) : [v].length ≤ sizeLine := by
  rw [sizeLine_eq]
  exact (by decide : 1 ≤ 16777216)
theorem kept_but {K : Frag} {h h' : Heap} {x : Addr} (X : K.In h) (hx : K.lookup x = none) (k : ∀ b o, b ≠ x → h.get? b = some o → h'.get? b = some o) : K.In h' := fun a o e =>
  k a o (fun z => by rw [z, hx] at e; cases e) (X a o e)
theorem ldC {M : Model} {s : Shared} {name : Str} {scope : Scope} {L a : Addr} {cd : Value} {m : Str → Option Value} {x : Str} {pos : Pos} {v : Value} {Q : Value → Shared → Prop} {A : Around} {E : Value → Shared → Prop} (hn : s.heap.Ns L m) (hv : m x = some v) (h : Q v s)
    (hk : scope.kind = .function := by rfl) (hl : (envOfC name scope L a cd).kindOf x = some .local := by rfl) (hd : (x == ("__debug__" : Str)) = false := by decide) :
    wpAny M A (eval (.Name x pos) (envOfC name scope L a cd)) Q E s := wpAny_Name (wpAny_loadName_local hk hl hn hv h) hd
/-- what __init__ leaves of a fresh exception at x -/
structure InitEnd (h h' : Heap) (x C dx t1 : Addr) (v : Value) : Prop where
  keep : ∀ b o, b ≠ x → h.get? b = some o → h'.get? b = some o
  obj : h'.get? x = some { cls := .ref C, dict := some dx, data := .fields #[.ref t1, .none, .none, .none, .bool false, .none] }
  dbig : h.objs.size ≤ dx
  dne : dx ≠ x
  ns : h'.Ns1 dx (fun y => if y = "place" then some v else none)
/-- a made Low -/
structure OwnMade (h h' : Heap) (e C d : Addr) (v : Value) : Prop where
  keep : ∀ b o, h.get? b = some o → h'.get? b = some o
  new : h.objs.size ≤ e
  obj : ∃ oe vs, h'.get? e = some oe ∧ oe.cls = .ref C ∧ oe.dict = some d ∧ oe.data = .fields vs ∧ vs[1]? = some .none ∧ 4 < vs.size
  dbig : h.objs.size ≤ d
  dne : d ≠ e
  ns : h'.Ns1 d (fun y => if y = "place" then some v else none)
section
variable {prog : Program} {w : World} {A : Around} {E : Value → Shared → Prop} {R : Result → Shared → Prop} {s : Shared} {K : Frag} {mg : Str → Option Value} {C fI : Addr}
theorem init_BadSet (T : BadSetTxt K mg C fI) {x t0 : Addr} {v : Value} (X : K.In s.heap) (hlim : s.heap.NoLimit) (hx : s.heap.get? x = some (excO C t0)) (hnx : K.lookup x = none) (hroom : A.depth < recursionLimit)
    (hq : ∀ h' tk dx, InitEnd s.heap h' x C dx t0 v → R (.ok (.ret .none)) { s with heap := h', toks := tk }) :
    codeAny (model prog w) A (.call (.ref fI) ⟨[.ref x, v], []⟩) R s := by
  obtain ⟨oc, od, kV, doc, pm, an, cdv, ct, osl, p1, p2, q1, q2, q3, q4, ho, hcd⟩ := T.fn
  obtain ⟨nm, q, N, bs, bm, sn, sub, ab, col, dd, k0, k1, k2, k3, k5, hC, hbm⟩ := T.cls
  have hcl : clsIn K C = some { name := nm, bases := bs, mro := .ref C :: bm, ns := N, qualname := q, hasDict := true, slotNames := sn, subclasses := sub, abstract := ab, collection := col, hasDel := false } := by unfold clsIn; rw [hC] <;> rfl
  refine Att.call_fn (binds := [("self", .ref x), ("place", v)]) X hlim ho hcd hroom (BindsTo.of_eq (by first | rfl | with_unfolding_all rfl)) (by first | rfl | decide | with_unfolding_all rfl) (fun s₁ IC => ?_) rfl rfl rfl
  obtain ⟨h₁, tk₁, rfl⟩ := IC.toInCall.same
  have k : ∀ b o, s.heap.get? b = some o → h₁.get? b = some o := IC.toInCall.keep
  have hn := IC.toInCall.ns
  have hxL : s.heap.objs.size ≠ x := Nat.ne_of_gt (Heap.lt_size hx)
  have X₁ : K.In h₁ := X.keeps k
  have hx₁ := k _ _ hx
  -- self.by = by
  show wpAny _ _ (execs _ _) _ _ _
  refine wpAny_execs_cons (plainObj_wpAny_Assign_Attribute ?_)
  refine ldC (v := v) hn (by first | rfl | with_unfolding_all rfl | kernel_rfl) (ldC (v := .ref x) hn (by first | rfl | with_unfolding_all rfl | kernel_rfl) ?_)
  refine set_plain X₁ (ox := excO C t0) (od := none) ⟨hx₁, rfl, rfl, trivial⟩ T.sa ?_
  refine exc_osa X₁ hx₁ hcl (show refsVE (.ref C :: bm) = true from hbm) rfl T.noN (fun h₃ tk₃ dx k₃ dn dne hx₃ hn₃ => ?_)
  show wpAny _ _ (execs _ _) _ _ _
  have z : s.heap.objs.size < h₁.objs.size := hn.lt
  exact wpAny_execs_nil (hq h₃ tk₃ dx ⟨fun b o hb e => k₃ b o hb (k b o e), hx₃, Nat.le_of_lt (Nat.lt_of_lt_of_le z dn), dne, hn₃⟩)
theorem made_BadSet (T : BadSetTxt K mg C fI) {v : Value} (X : K.In s.heap) (hlim : s.heap.NoLimit) (hroom : A.depth + 1 < recursionLimit)
    (hq : ∀ h' tk e d, OwnMade s.heap h' e C d v → R (.ok (.ret (.ref e))) { s with heap := h', toks := tk }) :
    codeAny (model prog w) A (.call (.ref C) ⟨[v], []⟩) R s := by
  obtain ⟨nm, q, N, bs, bm, sn, sub, ab, col, dd, k0, k1, k2, k3, k5, hC, hbm⟩ := T.cls
  obtain ⟨hp, g, dr, tk, os⟩ := s
  have k : ∀ b o, hp.get? b = some o → ((hp.push (kdv_tup [v])).push (excO C hp.objs.size)).get? b = some o := fun b o e => Heap.get?_push_of_some _ (Heap.get?_push_of_some _ e)
  have hget : ((hp.push (kdv_tup [v])).push (excO C hp.objs.size)).get? (hp.objs.size + 1) = some (excO C hp.objs.size) := by heap_get
  have hnx : K.lookup (hp.objs.size + 1) = none := by
    cases e : K.lookup (hp.objs.size + 1) with
    | none => rfl
    | some o =>
      have z : hp.get? (hp.objs.size + 1) = some o := X _ _ e
      exact absurd (Nat.lt_of_succ_lt (Heap.lt_size z)) (Nat.lt_irrefl _)
  refine call_own F.excBase_ValueError (fun X => refsVE_contains X bm hbm) (X _ _ hC) (looks_findIn X T.iC) (fun self => bind_fn X self T.tC) (one_size v) ?_
  refine init_BadSet (s := ⟨(hp.push (kdv_tup [v])).push (excO C hp.objs.size), g, dr, tk, os⟩) T (X.keeps k) (hlim.keeps k) hget hnx ?_ fun h' tk' dx ⟨k', hx, dn, dne, hns⟩ => ?_
  · show A.depth + 1 < recursionLimit
    exact hroom
  · have old : ∀ b o, hp.get? b = some o → h'.get? b = some o := fun b o e => k' b o (Nat.ne_of_lt (Nat.lt_succ_of_lt (Heap.lt_size e))) (k b o e)
    have z : hp.objs.size + 1 + 1 ≤ dx := by
      first
        | (simpa only [Heap.size_push] using dn)
        | exact dn
        | (have q := dn; rw [Heap.size_push, Heap.size_push] at q; exact q)
    exact ⟨rfl, hq h' tk' (hp.objs.size + 1) dx ⟨old, Nat.le_succ _, ⟨_, _, hx, rfl, rfl, rfl, rfl, (by show (4 : Nat) < 6; decide)⟩, Nat.le_trans (Nat.le_trans (Nat.le_succ _) (Nat.le_succ _)) z, dne, hns⟩⟩
end
end BadSetX
end PySem
namespace L2
open PySem PySem.Spec PyProof.Rows
theorem relO_BadSet {v : V} {v' : Value} (r : RelV v v') (f : Str) : RelO (List.lookup f [(("place" : Str), v)]) (if f = "place" then some v' else none) := by
  by_cases hw : f = "place"
  · subst hw
    rw [if_pos rfl]
    have q : List.lookup ("place" : Str) [(("place" : Str), v)] = some v := by simp [List.lookup]
    rw [q]
    exact r
  · rw [if_neg hw]
    have qw : (f == ("place" : Str)) = false := by simpa using hw
    have q2 : List.lookup f [(("place" : Str), v)] = none := by simp [List.lookup, qw]
    rw [q2]
    trivial
section
variable {X : Cx} {C fI : Addr}
/-- Low(e) -/
def tMkBadSet (C : Addr) (ta : TA) : St → Hp → XK → Prop := fun σ H Q => ta σ H fun vs H1 => ∃ v, vs = [v] ∧ ∀ d, H1 d = none → Q (.ref C) (some d) (upd H1 d (.xd [(("place" : Str), v)]))
theorem pmk_BadSet {a : Expr} {ta : TA} {p pos : Pos} {k : Nat} (T : PySem.BadSetX.BadSetTxt X.K X.mg C fI) (hr : Room k X.A) (ha : PA X [a] ta) (hg : Gl X "BadSet" := by rfl)
    (he : starEach (a :: []) X.env = (false, eval a X.env) :: starEach [] X.env := by rfl) (hpl : (backTo pos (starEach [] X.env)).any (·.1) = false := by rfl) :
    PMk X (.Call (.Name "BadSet" p) [a] [] pos) (tMkBadSet C ta) := by
  intro pins s σ H Q I h
  refine wpAny_Call_Name_kw (ld_glob I hg T.gC ?_)
  refine PySem.W.callWith_K (h₀ := X.base) I.ok.mod.kin T.kC (thn (ha.run pos pins s σ H _ I h) fun us s1 hh => ?_) he hpl
  obtain ⟨vs, H1, I1, r1, v, ev, q1⟩ := hh
  subst ev
  refine ⟨I1.kIn, ?_⟩
  cases r1 with
  | cons rv rn =>
    rename_i v' us'
    cases rn
    show wpAny _ _ (call (.ref C) [v']) _ _ _
    have hlim := I1.nolimit
    obtain ⟨hp, g, dr, tk, os⟩ := s1
    refine wpAny_call (PySem.BadSetX.made_BadSet T I1.kIn hlim (by have := hr.dp; omega) fun h' tk' e d M => ?_)
    show MkP X pins σ Q (.ref e) ⟨h', g, dr, tk', os⟩
    obtain ⟨oe, fv, hoe, hc, hd, hdat, h1, _⟩ := M.obj
    have hns := M.ns
    obtain ⟨G', g1, g2⟩ := restrict h' fun b => decide (b ≠ e)
    have gk : ∀ b, b ≠ e → G'.get? b = h'.get? b := fun b hb => g1 b (decide_eq_true hb)
    have ge : G'.get? e = none := g2 e (by simp)
    have old : ∀ b o, hp.get? b = some o → G'.get? b = some o := fun b o q => (gk b (Nat.ne_of_lt (Nat.lt_of_lt_of_le (Heap.lt_size q) M.new))).trans (M.keep b o q)
    have ob : ObjOk X.prog X.w (upd H1 d (.xd [(("place" : Str), v)])) G' d (.xd [(("place" : Str), v)]) :=
      ⟨_, hns.at (fun o q => (gk d M.dne).trans q), fun f => relO_BadSet rv f⟩
    have J : Inv X pins σ (upd H1 d (.xd [(("place" : Str), v)])) ⟨G', g, dr, tk', os⟩ := I1.laid (t' := tk') old M.dbig ob
    refine ⟨e, oe, fv, ⟨G', g, dr, tk', os⟩, _, .ref C, some d, rfl, J, fun b o q => ?_, ge, hoe, ⟨hc, hd⟩, hdat, h1, ?_, rfl, I1.bare, raises_own T.exC T.tyC, q1 d (I1.hok.fresh M.dbig)⟩
    · by_cases hb : b = e
      · have q' : G'.get? b = some o := q
        rw [hb, ge] at q'; cases q'
      · exact (gk b hb).symm.trans q
    · rw [upd_ne (Ne.symm M.dne)]
      exact I1.hok.fresh M.new
/-- raise Low(e) -/
def tRaiseBadSet (C : Addr) (W : WX) (ta : TA) : TS := fun _ σ H => tMkBadSet C ta σ H fun cls d H' => W cls d σ H'
theorem ps_raiseBadSet {a : Expr} {ta : TA} {W : WX} {p pos pos2 : Pos} {k : Nat} (hc : X.calm = true) (T : PySem.BadSetX.BadSetTxt X.K X.mg C fI) (hr : Room k X.A) (tk : Takes X W) (ha : PA X [a] ta) (hg : Gl X "BadSet" := by rfl)
    (he : starEach (a :: []) X.env = (false, eval a X.env) :: starEach [] X.env := by rfl) (hpl : (backTo pos (starEach [] X.env)).any (·.1) = false := by rfl) :
    PS X (.Raise (some (.Call (.Name "BadSet" p) [a] [] pos)) none pos2) (tRaiseBadSet C W ta) := ps_raise hc tk (pmk_BadSet T hr ha hg he hpl)
/-- low.by, low the exception that the suite holds (at a; its class cls, its dict d) -/
def tByBadSet (C : Addr) (a : Addr) (cls : Value) (d : Option Addr) (te : TE) : TE := fun σ H Q => te σ H fun x H1 => x = .ref a ∧ cls = .ref C ∧ ∃ (dd : Addr) (v : V), d = some dd ∧ H1 dd = some (.xd [(("place" : Str), v)]) ∧ Q v H1
theorem pe_byBadSet {a : Addr} {oe : Obj} {cls : Value} {d : Option Addr} {pn : List (Addr × Obj)} {e : Expr} {te : TE} {pos : Pos} (T : PySem.BadSetX.BadSetTxt X.K X.mg C fI) (hz : Zc cls d oe) (hf : ∃ vs, oe.data = .fields vs) (he : PE (X.suite a ((a, oe) :: pn)) e te)
    (hb : attributeBase e "place" X.env (eval e X.env) = eval e X.env := by rfl) :
    PE (X.suite a ((a, oe) :: pn)) (.Attribute e "place" pos) (tByBadSet C a cls d te) := by
  refine ⟨fun pins s σ H Q I h => ?_⟩
  refine attr_of hb (thn (he.run pins s σ H _ I h) fun u s1 hh => ?_)
  obtain ⟨x, H1, I1, rx, ex, ec, dd, v, ed, ea, q⟩ := hh
  subst ex
  obtain rfl : u = Value.ref a := rx
  subst ec
  subst ed
  obtain ⟨ha, _⟩ := I1.pin (a, oe) (List.mem_append_left _ List.mem_cons_self)
  obtain ⟨vs, hd⟩ := hf
  have hx : ObjOk X.prog X.w H1 s1.heap dd (.xd [(("place" : Str), v)]) := I1.hok dd _ ea
  obtain ⟨mA, hns, hr⟩ := hx
  obtain ⟨od, ho, hl⟩ := lookIn_ns hns
  have l : List.lookup ("place" : Str) [(("place" : Str), v)] = some v := by simp [List.lookup]
  obtain ⟨u, hu, ru⟩ := RelO.some_of (v := v) (o := mA "place") (by rw [← l]; exact hr "place")
  have J : PySem.W.InstAt s1.heap a oe C (some od) := ⟨ha, hz.1, by unfold PySem.W.notCls; rw [hd] <;> rfl, by rw [hz.2]; exact ho⟩
  exact HandSPX.exc_get I1.kIn J T.ga T.gg T.exC (PySem.W.findObj_own T.hdC T.noN rfl (by rw [hl, hu])) (handed_of ru) ⟨v, H1, I1.tok _, ru, q⟩
end
end L2



namespace PySem
namespace BadPartX
open PySem.W PySem.Calls PyProof.Rows PySem.HandSPX
/-! ### the text of __init__ -/
def iA (p1 p2 : Pos) : Arguments := { posonlyargs := [], args := [{ arg := "self", annotation := none, pos := p1 }, { arg := "part", annotation := none, pos := p2 }], vararg := none, kwonlyargs := [], kw_defaults := [], kwarg := none, defaults := [] }
def iB (q1 q2 q3 q4 : Pos) : List Stmt := [.Assign [.Attribute (.Name "self" q1) "part" q2] (.Name "part" q3) q4]
def iS : Scope := { kind := .function, names := [(PySem.Str.ofString "self", .local), (PySem.Str.ofString "part", .local)], isGenerator := false, isCoroutine := false, more := [] }
/-- what the written part says of Low, at C, and of its __init__, at fI -/
structure BadPartTxt (K : Frag) (mg : Str → Option Value) (C fI : Addr) : Prop where
  gC : mg "BadPart" = some (.ref C)
  cls : ∃ nm q N bs bm sn sub ab col dd k0 k1 k2 k3 k5, K.lookup C = some (excClassObj nm q C N bs bm true sn sub ab col dd k0 k1 k2 k3 k5 "ValueError.__new__") ∧ refsVE bm = true
  sa : findIn K (.ref C) "__setattr__" = some (some (.builtin "object.__setattr__"))
  ga : findIn K (.ref C) "__getattribute__" = some (some (.builtin "BaseException.__getattribute__"))
  gg : findIn K (.ref C) "__getattr__" = some none
  noN : findIn K (.ref C) "part" = some none
  iC : findIn K (.ref C) "__init__" = some (some (.ref fI))
  tC : typeIn K (.ref fI) = some (.type "function")
  kC : keepIn K (.ref C) = true
  exC : subIn K (.ref C) (.type "BaseException") = some true
  tyC : typeIn K (.ref C) = some (.type "type")
  hdC : hasDictIn K C = true
  te : exmOne K (.ref C) (.ref C) = some true
  fn : ∃ (oc : Value) (od : Option Addr) (kV doc pm : Value) (an : Option Addr) (cdv ct : Value) (osl : Array (Option Value)) (p1 p2 q1 q2 q3 q4 : Pos),
    K.lookup fI = some ⟨oc, od, .func (fnOf "__init__" "BadPart.__init__" (iA p1 p2) (iB q1 q2 q3 q4) iS .none kV doc pm an cdv ct), osl⟩ ∧ codeIn K cdv "BadPart.__init__" = true
theorem one_size (v : Value) : [v].length ≤ sizeLine := by
  rw [sizeLine_eq]
  exact (by decide : 1 ≤ 16777216)
theorem kept_but {K : Frag} {h h' : Heap} {x : Addr} (X : K.In h) (hx : K.lookup x = none) (k : ∀ b o, b ≠ x → h.get? b = some o → h'.get? b = some o) : K.In h' := fun a o e =>
  k a o (fun z => by rw [z, hx] at e; cases e) (X a o e)
theorem ldC {M : Model} {s : Shared} {name : Str} {scope : Scope} {L a : Addr} {cd : Value} {m : Str → Option Value} {x : Str} {pos : Pos} {v : Value} {Q : Value → Shared → Prop} {A : Around} {E : Value → Shared → Prop} (hn : s.heap.Ns L m) (hv : m x = some v) (h : Q v s)
    (hk : scope.kind = .function := by rfl) (hl : (envOfC name scope L a cd).kindOf x = some .local := by rfl) (hd : (x == ("__debug__" : Str)) = false := by decide) :
    wpAny M A (eval (.Name x pos) (envOfC name scope L a cd)) Q E s := wpAny_Name (wpAny_loadName_local hk hl hn hv h) hd
/-- what __init__ leaves of a fresh exception at x -/
structure InitEnd (h h' : Heap) (x C dx t1 : Addr) (v : Value) : Prop where
  keep : ∀ b o, b ≠ x → h.get? b = some o → h'.get? b = some o
  obj : h'.get? x = some { cls := .ref C, dict := some dx, data := .fields #[.ref t1, .none, .none, .none, .bool false, .none] }
  dbig : h.objs.size ≤ dx
  dne : dx ≠ x
  ns : h'.Ns1 dx (fun y => if y = "part" then some v else none)
/-- a made Low -/
structure OwnMade (h h' : Heap) (e C d : Addr) (v : Value) : Prop where
  keep : ∀ b o, h.get? b = some o → h'.get? b = some o
  new : h.objs.size ≤ e
  obj : ∃ oe vs, h'.get? e = some oe ∧ oe.cls = .ref C ∧ oe.dict = some d ∧ oe.data = .fields vs ∧ vs[1]? = some .none ∧ 4 < vs.size
  dbig : h.objs.size ≤ d
  dne : d ≠ e
  ns : h'.Ns1 d (fun y => if y = "part" then some v else none)
section
variable {prog : Program} {w : World} {A : Around} {E : Value → Shared → Prop} {R : Result → Shared → Prop} {s : Shared} {K : Frag} {mg : Str → Option Value} {C fI : Addr}
theorem init_BadPart (T : BadPartTxt K mg C fI) {x t0 : Addr} {v : Value} (X : K.In s.heap) (hlim : s.heap.NoLimit) (hx : s.heap.get? x = some (excO C t0)) (hnx : K.lookup x = none) (hroom : A.depth < recursionLimit)
    (hq : ∀ h' tk dx, InitEnd s.heap h' x C dx t0 v → R (.ok (.ret .none)) { s with heap := h', toks := tk }) :
    codeAny (model prog w) A (.call (.ref fI) ⟨[.ref x, v], []⟩) R s := by
  obtain ⟨oc, od, kV, doc, pm, an, cdv, ct, osl, p1, p2, q1, q2, q3, q4, ho, hcd⟩ := T.fn
  obtain ⟨nm, q, N, bs, bm, sn, sub, ab, col, dd, k0, k1, k2, k3, k5, hC, hbm⟩ := T.cls
  have hcl : clsIn K C = some { name := nm, bases := bs, mro := .ref C :: bm, ns := N, qualname := q, hasDict := true, slotNames := sn, subclasses := sub, abstract := ab, collection := col, hasDel := false } := by unfold clsIn; rw [hC] <;> rfl
  refine Att.call_fn (binds := [("self", .ref x), ("part", v)]) X hlim ho hcd hroom (BindsTo.of_eq (by first | rfl | with_unfolding_all rfl)) (by first | rfl | decide | with_unfolding_all rfl) (fun s₁ IC => ?_) rfl rfl rfl
  obtain ⟨h₁, tk₁, rfl⟩ := IC.toInCall.same
  have k : ∀ b o, s.heap.get? b = some o → h₁.get? b = some o := IC.toInCall.keep
  have hn := IC.toInCall.ns
  have hxL : s.heap.objs.size ≠ x := Nat.ne_of_gt (Heap.lt_size hx)
  have X₁ : K.In h₁ := X.keeps k
  have hx₁ := k _ _ hx
  -- self.by = by
  show wpAny _ _ (execs _ _) _ _ _
  refine wpAny_execs_cons (plainObj_wpAny_Assign_Attribute ?_)
  refine ldC (v := v) hn (by first | rfl | with_unfolding_all rfl | kernel_rfl) (ldC (v := .ref x) hn (by first | rfl | with_unfolding_all rfl | kernel_rfl) ?_)
  refine set_plain X₁ (ox := excO C t0) (od := none) ⟨hx₁, rfl, rfl, trivial⟩ T.sa ?_
  refine exc_osa X₁ hx₁ hcl (show refsVE (.ref C :: bm) = true from hbm) rfl T.noN (fun h₃ tk₃ dx k₃ dn dne hx₃ hn₃ => ?_)
  show wpAny _ _ (execs _ _) _ _ _
  have z : s.heap.objs.size < h₁.objs.size := hn.lt
  exact wpAny_execs_nil (hq h₃ tk₃ dx ⟨fun b o hb e => k₃ b o hb (k b o e), hx₃, Nat.le_of_lt (Nat.lt_of_lt_of_le z dn), dne, hn₃⟩)
theorem made_BadPart (T : BadPartTxt K mg C fI) {v : Value} (X : K.In s.heap) (hlim : s.heap.NoLimit) (hroom : A.depth + 1 < recursionLimit)
    (hq : ∀ h' tk e d, OwnMade s.heap h' e C d v → R (.ok (.ret (.ref e))) { s with heap := h', toks := tk }) :
    codeAny (model prog w) A (.call (.ref C) ⟨[v], []⟩) R s := by
  obtain ⟨nm, q, N, bs, bm, sn, sub, ab, col, dd, k0, k1, k2, k3, k5, hC, hbm⟩ := T.cls
  obtain ⟨hp, g, dr, tk, os⟩ := s
  have k : ∀ b o, hp.get? b = some o → ((hp.push (kdv_tup [v])).push (excO C hp.objs.size)).get? b = some o := fun b o e => Heap.get?_push_of_some _ (Heap.get?_push_of_some _ e)
  have hget : ((hp.push (kdv_tup [v])).push (excO C hp.objs.size)).get? (hp.objs.size + 1) = some (excO C hp.objs.size) := by heap_get
  have hnx : K.lookup (hp.objs.size + 1) = none := by
    cases e : K.lookup (hp.objs.size + 1) with
    | none => rfl
    | some o =>
      have z : hp.get? (hp.objs.size + 1) = some o := X _ _ e
      exact absurd (Nat.lt_of_succ_lt (Heap.lt_size z)) (Nat.lt_irrefl _)
  refine call_own F.excBase_ValueError (fun X => refsVE_contains X bm hbm) (X _ _ hC) (looks_findIn X T.iC) (fun self => bind_fn X self T.tC) (one_size v) ?_
  refine init_BadPart (s := ⟨(hp.push (kdv_tup [v])).push (excO C hp.objs.size), g, dr, tk, os⟩) T (X.keeps k) (hlim.keeps k) hget hnx ?_ fun h' tk' dx ⟨k', hx, dn, dne, hns⟩ => ?_
  · show A.depth + 1 < recursionLimit
    exact hroom
  · have old : ∀ b o, hp.get? b = some o → h'.get? b = some o := fun b o e => k' b o (Nat.ne_of_lt (Nat.lt_succ_of_lt (Heap.lt_size e))) (k b o e)
    have z : hp.objs.size + 1 + 1 ≤ dx := by
      first
        | (simpa only [Heap.size_push] using dn)
        | exact dn
        | (have q := dn; rw [Heap.size_push, Heap.size_push] at q; exact q)
    exact ⟨rfl, hq h' tk' (hp.objs.size + 1) dx ⟨old, Nat.le_succ _, ⟨_, _, hx, rfl, rfl, rfl, rfl, (by show (4 : Nat) < 6; decide)⟩, Nat.le_trans (Nat.le_trans (Nat.le_succ _) (Nat.le_succ _)) z, dne, hns⟩⟩
end
end BadPartX
end PySem
namespace L2
open PySem PySem.Spec PyProof.Rows
theorem relO_BadPart {v : V} {v' : Value} (r : RelV v v') (f : Str) : RelO (List.lookup f [(("part" : Str), v)]) (if f = "part" then some v' else none) := by
  by_cases hw : f = "part"
  · subst hw
    rw [if_pos rfl]
    have q : List.lookup ("part" : Str) [(("part" : Str), v)] = some v := by simp [List.lookup]
    rw [q]
    exact r
  · rw [if_neg hw]
    have qw : (f == ("part" : Str)) = false := by simpa using hw
    have q2 : List.lookup f [(("part" : Str), v)] = none := by simp [List.lookup, qw]
    rw [q2]
    trivial
section
variable {X : Cx} {C fI : Addr}
/-- Low(e) -/
def tMkBadPart (C : Addr) (ta : TA) : St → Hp → XK → Prop := fun σ H Q => ta σ H fun vs H1 => ∃ v, vs = [v] ∧ ∀ d, H1 d = none → Q (.ref C) (some d) (upd H1 d (.xd [(("part" : Str), v)]))
theorem pmk_BadPart {a : Expr} {ta : TA} {p pos : Pos} {k : Nat} (T : PySem.BadPartX.BadPartTxt X.K X.mg C fI) (hr : Room k X.A) (ha : PA X [a] ta) (hg : Gl X "BadPart" := by rfl)
    (he : starEach (a :: []) X.env = (false, eval a X.env) :: starEach [] X.env := by rfl) (hpl : (backTo pos (starEach [] X.env)).any (·.1) = false := by rfl) :
    PMk X (.Call (.Name "BadPart" p) [a] [] pos) (tMkBadPart C ta) := by
  intro pins s σ H Q I h
  refine wpAny_Call_Name_kw (ld_glob I hg T.gC ?_)
  refine PySem.W.callWith_K (h₀ := X.base) I.ok.mod.kin T.kC (thn (ha.run pos pins s σ H _ I h) fun us s1 hh => ?_) he hpl
  obtain ⟨vs, H1, I1, r1, v, ev, q1⟩ := hh
  subst ev
  refine ⟨I1.kIn, ?_⟩
  cases r1 with
  | cons rv rn =>
    rename_i v' us'
    cases rn
    show wpAny _ _ (call (.ref C) [v']) _ _ _
    have hlim := I1.nolimit
    obtain ⟨hp, g, dr, tk, os⟩ := s1
    refine wpAny_call (PySem.BadPartX.made_BadPart T I1.kIn hlim (by have := hr.dp; omega) fun h' tk' e d M => ?_)
    show MkP X pins σ Q (.ref e) ⟨h', g, dr, tk', os⟩
    obtain ⟨oe, fv, hoe, hc, hd, hdat, h1, _⟩ := M.obj
    have hns := M.ns
    obtain ⟨G', g1, g2⟩ := restrict h' fun b => decide (b ≠ e)
    have gk : ∀ b, b ≠ e → G'.get? b = h'.get? b := fun b hb => g1 b (decide_eq_true hb)
    have ge : G'.get? e = none := g2 e (by simp)
    have old : ∀ b o, hp.get? b = some o → G'.get? b = some o := fun b o q => (gk b (Nat.ne_of_lt (Nat.lt_of_lt_of_le (Heap.lt_size q) M.new))).trans (M.keep b o q)
    have ob : ObjOk X.prog X.w (upd H1 d (.xd [(("part" : Str), v)])) G' d (.xd [(("part" : Str), v)]) :=
      ⟨_, hns.at (fun o q => (gk d M.dne).trans q), fun f => relO_BadPart rv f⟩
    have J : Inv X pins σ (upd H1 d (.xd [(("part" : Str), v)])) ⟨G', g, dr, tk', os⟩ := I1.laid (t' := tk') old M.dbig ob
    refine ⟨e, oe, fv, ⟨G', g, dr, tk', os⟩, _, .ref C, some d, rfl, J, fun b o q => ?_, ge, hoe, ⟨hc, hd⟩, hdat, h1, ?_, rfl, I1.bare, raises_own T.exC T.tyC, q1 d (I1.hok.fresh M.dbig)⟩
    · by_cases hb : b = e
      · have q' : G'.get? b = some o := q
        rw [hb, ge] at q'; cases q'
      · exact (gk b hb).symm.trans q
    · rw [upd_ne (Ne.symm M.dne)]
      exact I1.hok.fresh M.new
/-- raise Low(e) -/
def tRaiseBadPart (C : Addr) (W : WX) (ta : TA) : TS := fun _ σ H => tMkBadPart C ta σ H fun cls d H' => W cls d σ H'
theorem ps_raiseBadPart {a : Expr} {ta : TA} {W : WX} {p pos pos2 : Pos} {k : Nat} (hc : X.calm = true) (T : PySem.BadPartX.BadPartTxt X.K X.mg C fI) (hr : Room k X.A) (tk : Takes X W) (ha : PA X [a] ta) (hg : Gl X "BadPart" := by rfl)
    (he : starEach (a :: []) X.env = (false, eval a X.env) :: starEach [] X.env := by rfl) (hpl : (backTo pos (starEach [] X.env)).any (·.1) = false := by rfl) :
    PS X (.Raise (some (.Call (.Name "BadPart" p) [a] [] pos)) none pos2) (tRaiseBadPart C W ta) := ps_raise hc tk (pmk_BadPart T hr ha hg he hpl)
/-- low.by, low the exception that the suite holds (at a; its class cls, its dict d) -/
def tByBadPart (C : Addr) (a : Addr) (cls : Value) (d : Option Addr) (te : TE) : TE := fun σ H Q => te σ H fun x H1 => x = .ref a ∧ cls = .ref C ∧ ∃ (dd : Addr) (v : V), d = some dd ∧ H1 dd = some (.xd [(("part" : Str), v)]) ∧ Q v H1
theorem pe_byBadPart {a : Addr} {oe : Obj} {cls : Value} {d : Option Addr} {pn : List (Addr × Obj)} {e : Expr} {te : TE} {pos : Pos} (T : PySem.BadPartX.BadPartTxt X.K X.mg C fI) (hz : Zc cls d oe) (hf : ∃ vs, oe.data = .fields vs) (he : PE (X.suite a ((a, oe) :: pn)) e te)
    (hb : attributeBase e "part" X.env (eval e X.env) = eval e X.env := by rfl) :
    PE (X.suite a ((a, oe) :: pn)) (.Attribute e "part" pos) (tByBadPart C a cls d te) := by
  refine ⟨fun pins s σ H Q I h => ?_⟩
  refine attr_of hb (thn (he.run pins s σ H _ I h) fun u s1 hh => ?_)
  obtain ⟨x, H1, I1, rx, ex, ec, dd, v, ed, ea, q⟩ := hh
  subst ex
  obtain rfl : u = Value.ref a := rx
  subst ec
  subst ed
  obtain ⟨ha, _⟩ := I1.pin (a, oe) (List.mem_append_left _ List.mem_cons_self)
  obtain ⟨vs, hd⟩ := hf
  have hx : ObjOk X.prog X.w H1 s1.heap dd (.xd [(("part" : Str), v)]) := I1.hok dd _ ea
  obtain ⟨mA, hns, hr⟩ := hx
  obtain ⟨od, ho, hl⟩ := lookIn_ns hns
  have l : List.lookup ("part" : Str) [(("part" : Str), v)] = some v := by simp [List.lookup]
  obtain ⟨u, hu, ru⟩ := RelO.some_of (v := v) (o := mA "part") (by rw [← l]; exact hr "part")
  have J : PySem.W.InstAt s1.heap a oe C (some od) := ⟨ha, hz.1, by unfold PySem.W.notCls; rw [hd] <;> rfl, by rw [hz.2]; exact ho⟩
  exact HandSPX.exc_get I1.kIn J T.ga T.gg T.exC (PySem.W.findObj_own T.hdC T.noN rfl (by rw [hl, hu])) (handed_of ru) ⟨v, H1, I1.tok _, ru, q⟩
end
end L2



namespace PySem
namespace IsGoneX
open PySem.W PySem.Calls PyProof.Rows PySem.HandSPX
/-! ### the text of __init__ -/
def iA (p1 p2 : Pos) : Arguments := { posonlyargs := [], args := [{ arg := "self", annotation := none, pos := p1 }, { arg := "part", annotation := none, pos := p2 }], vararg := none, kwonlyargs := [], kw_defaults := [], kwarg := none, defaults := [] }
def iB (q1 q2 q3 q4 : Pos) : List Stmt := [.Assign [.Attribute (.Name "self" q1) "part" q2] (.Name "part" q3) q4]
def iS : Scope := { kind := .function, names := [(PySem.Str.ofString "self", .local), (PySem.Str.ofString "part", .local)], isGenerator := false, isCoroutine := false, more := [] }
/-- what the written part says of Low, at C, and of its __init__, at fI -/
structure IsGoneTxt (K : Frag) (mg : Str → Option Value) (C fI : Addr) : Prop where
  gC : mg "IsGone" = some (.ref C)
  cls : ∃ nm q N bs bm sn sub ab col dd k0 k1 k2 k3 k5, K.lookup C = some (excClassObj nm q C N bs bm true sn sub ab col dd k0 k1 k2 k3 k5 "ValueError.__new__") ∧ refsVE bm = true
  sa : findIn K (.ref C) "__setattr__" = some (some (.builtin "object.__setattr__"))
  ga : findIn K (.ref C) "__getattribute__" = some (some (.builtin "BaseException.__getattribute__"))
  gg : findIn K (.ref C) "__getattr__" = some none
  noN : findIn K (.ref C) "part" = some none
  iC : findIn K (.ref C) "__init__" = some (some (.ref fI))
  tC : typeIn K (.ref fI) = some (.type "function")
  kC : keepIn K (.ref C) = true
  exC : subIn K (.ref C) (.type "BaseException") = some true
  tyC : typeIn K (.ref C) = some (.type "type")
  hdC : hasDictIn K C = true
  te : exmOne K (.ref C) (.ref C) = some true
  fn : ∃ (oc : Value) (od : Option Addr) (kV doc pm : Value) (an : Option Addr) (cdv ct : Value) (osl : Array (Option Value)) (p1 p2 q1 q2 q3 q4 : Pos),
    K.lookup fI = some ⟨oc, od, .func (fnOf "__init__" "IsGone.__init__" (iA p1 p2) (iB q1 q2 q3 q4) iS .none kV doc pm an cdv ct), osl⟩ ∧ codeIn K cdv "IsGone.__init__" = true
theorem one_size (v : Value) : [v].length ≤ sizeLine := by
  rw [sizeLine_eq]
  exact (by decide : 1 ≤ 16777216)
theorem kept_but {K : Frag} {h h' : Heap} {x : Addr} (X : K.In h) (hx : K.lookup x = none) (k : ∀ b o, b ≠ x → h.get? b = some o → h'.get? b = some o) : K.In h' := fun a o e =>
  k a o (fun z => by rw [z, hx] at e; cases e) (X a o e)
theorem ldC {M : Model} {s : Shared} {name : Str} {scope : Scope} {L a : Addr} {cd : Value} {m : Str → Option Value} {x : Str} {pos : Pos} {v : Value} {Q : Value → Shared → Prop} {A : Around} {E : Value → Shared → Prop} (hn : s.heap.Ns L m) (hv : m x = some v) (h : Q v s)
    (hk : scope.kind = .function := by rfl) (hl : (envOfC name scope L a cd).kindOf x = some .local := by rfl) (hd : (x == ("__debug__" : Str)) = false := by decide) :
    wpAny M A (eval (.Name x pos) (envOfC name scope L a cd)) Q E s := wpAny_Name (wpAny_loadName_local hk hl hn hv h) hd
/-- what __init__ leaves of a fresh exception at x -/
structure InitEnd (h h' : Heap) (x C dx t1 : Addr) (v : Value) : Prop where
  keep : ∀ b o, b ≠ x → h.get? b = some o → h'.get? b = some o
  obj : h'.get? x = some { cls := .ref C, dict := some dx, data := .fields #[.ref t1, .none, .none, .none, .bool false, .none] }
  dbig : h.objs.size ≤ dx
  dne : dx ≠ x
  ns : h'.Ns1 dx (fun y => if y = "part" then some v else none)
/-- a made Low -/
structure OwnMade (h h' : Heap) (e C d : Addr) (v : Value) : Prop where
  keep : ∀ b o, h.get? b = some o → h'.get? b = some o
  new : h.objs.size ≤ e
  obj : ∃ oe vs, h'.get? e = some oe ∧ oe.cls = .ref C ∧ oe.dict = some d ∧ oe.data = .fields vs ∧ vs[1]? = some .none ∧ 4 < vs.size
  dbig : h.objs.size ≤ d
  dne : d ≠ e
  ns : h'.Ns1 d (fun y => if y = "part" then some v else none)
section
variable {prog : Program} {w : World} {A : Around} {E : Value → Shared → Prop} {R : Result → Shared → Prop} {s : Shared} {K : Frag} {mg : Str → Option Value} {C fI : Addr}
theorem init_IsGone (T : IsGoneTxt K mg C fI) {x t0 : Addr} {v : Value} (X : K.In s.heap) (hlim : s.heap.NoLimit) (hx : s.heap.get? x = some (excO C t0)) (hnx : K.lookup x = none) (hroom : A.depth < recursionLimit)
    (hq : ∀ h' tk dx, InitEnd s.heap h' x C dx t0 v → R (.ok (.ret .none)) { s with heap := h', toks := tk }) :
    codeAny (model prog w) A (.call (.ref fI) ⟨[.ref x, v], []⟩) R s := by
  obtain ⟨oc, od, kV, doc, pm, an, cdv, ct, osl, p1, p2, q1, q2, q3, q4, ho, hcd⟩ := T.fn
  obtain ⟨nm, q, N, bs, bm, sn, sub, ab, col, dd, k0, k1, k2, k3, k5, hC, hbm⟩ := T.cls
  have hcl : clsIn K C = some { name := nm, bases := bs, mro := .ref C :: bm, ns := N, qualname := q, hasDict := true, slotNames := sn, subclasses := sub, abstract := ab, collection := col, hasDel := false } := by unfold clsIn; rw [hC] <;> rfl
  refine Att.call_fn (binds := [("self", .ref x), ("part", v)]) X hlim ho hcd hroom (BindsTo.of_eq (by first | rfl | with_unfolding_all rfl)) (by first | rfl | decide | with_unfolding_all rfl) (fun s₁ IC => ?_) rfl rfl rfl
  obtain ⟨h₁, tk₁, rfl⟩ := IC.toInCall.same
  have k : ∀ b o, s.heap.get? b = some o → h₁.get? b = some o := IC.toInCall.keep
  have hn := IC.toInCall.ns
  have hxL : s.heap.objs.size ≠ x := Nat.ne_of_gt (Heap.lt_size hx)
  have X₁ : K.In h₁ := X.keeps k
  have hx₁ := k _ _ hx
  -- self.by = by
  show wpAny _ _ (execs _ _) _ _ _
  refine wpAny_execs_cons (plainObj_wpAny_Assign_Attribute ?_)
  refine ldC (v := v) hn (by first | rfl | with_unfolding_all rfl | kernel_rfl) (ldC (v := .ref x) hn (by first | rfl | with_unfolding_all rfl | kernel_rfl) ?_)
  refine set_plain X₁ (ox := excO C t0) (od := none) ⟨hx₁, rfl, rfl, trivial⟩ T.sa ?_
  refine exc_osa X₁ hx₁ hcl (show refsVE (.ref C :: bm) = true from hbm) rfl T.noN (fun h₃ tk₃ dx k₃ dn dne hx₃ hn₃ => ?_)
  show wpAny _ _ (execs _ _) _ _ _
  have z : s.heap.objs.size < h₁.objs.size := hn.lt
  exact wpAny_execs_nil (hq h₃ tk₃ dx ⟨fun b o hb e => k₃ b o hb (k b o e), hx₃, Nat.le_of_lt (Nat.lt_of_lt_of_le z dn), dne, hn₃⟩)
theorem made_IsGone (T : IsGoneTxt K mg C fI) {v : Value} (X : K.In s.heap) (hlim : s.heap.NoLimit) (hroom : A.depth + 1 < recursionLimit)
    (hq : ∀ h' tk e d, OwnMade s.heap h' e C d v → R (.ok (.ret (.ref e))) { s with heap := h', toks := tk }) :
    codeAny (model prog w) A (.call (.ref C) ⟨[v], []⟩) R s := by
  obtain ⟨nm, q, N, bs, bm, sn, sub, ab, col, dd, k0, k1, k2, k3, k5, hC, hbm⟩ := T.cls
  obtain ⟨hp, g, dr, tk, os⟩ := s
  have k : ∀ b o, hp.get? b = some o → ((hp.push (kdv_tup [v])).push (excO C hp.objs.size)).get? b = some o := fun b o e => Heap.get?_push_of_some _ (Heap.get?_push_of_some _ e)
  have hget : ((hp.push (kdv_tup [v])).push (excO C hp.objs.size)).get? (hp.objs.size + 1) = some (excO C hp.objs.size) := by heap_get
  have hnx : K.lookup (hp.objs.size + 1) = none := by
    cases e : K.lookup (hp.objs.size + 1) with
    | none => rfl
    | some o =>
      have z : hp.get? (hp.objs.size + 1) = some o := X _ _ e
      exact absurd (Nat.lt_of_succ_lt (Heap.lt_size z)) (Nat.lt_irrefl _)
  refine call_own F.excBase_ValueError (fun X => refsVE_contains X bm hbm) (X _ _ hC) (looks_findIn X T.iC) (fun self => bind_fn X self T.tC) (one_size v) ?_
  refine init_IsGone (s := ⟨(hp.push (kdv_tup [v])).push (excO C hp.objs.size), g, dr, tk, os⟩) T (X.keeps k) (hlim.keeps k) hget hnx ?_ fun h' tk' dx ⟨k', hx, dn, dne, hns⟩ => ?_
  · show A.depth + 1 < recursionLimit
    exact hroom
  · have old : ∀ b o, hp.get? b = some o → h'.get? b = some o := fun b o e => k' b o (Nat.ne_of_lt (Nat.lt_succ_of_lt (Heap.lt_size e))) (k b o e)
    have z : hp.objs.size + 1 + 1 ≤ dx := by
      first
        | (simpa only [Heap.size_push] using dn)
        | exact dn
        | (have q := dn; rw [Heap.size_push, Heap.size_push] at q; exact q)
    exact ⟨rfl, hq h' tk' (hp.objs.size + 1) dx ⟨old, Nat.le_succ _, ⟨_, _, hx, rfl, rfl, rfl, rfl, (by show (4 : Nat) < 6; decide)⟩, Nat.le_trans (Nat.le_trans (Nat.le_succ _) (Nat.le_succ _)) z, dne, hns⟩⟩
end
end IsGoneX
end PySem
namespace L2
open PySem PySem.Spec PyProof.Rows
theorem relO_IsGone {v : V} {v' : Value} (r : RelV v v') (f : Str) : RelO (List.lookup f [(("part" : Str), v)]) (if f = "part" then some v' else none) := by
  by_cases hw : f = "part"
  · subst hw
    rw [if_pos rfl]
    have q : List.lookup ("part" : Str) [(("part" : Str), v)] = some v := by simp [List.lookup]
    rw [q]
    exact r
  · rw [if_neg hw]
    have qw : (f == ("part" : Str)) = false := by simpa using hw
    have q2 : List.lookup f [(("part" : Str), v)] = none := by simp [List.lookup, qw]
    rw [q2]
    trivial
section
variable {X : Cx} {C fI : Addr}
/-- Low(e) -/
def tMkIsGone (C : Addr) (ta : TA) : St → Hp → XK → Prop := fun σ H Q => ta σ H fun vs H1 => ∃ v, vs = [v] ∧ ∀ d, H1 d = none → Q (.ref C) (some d) (upd H1 d (.xd [(("part" : Str), v)]))
theorem pmk_IsGone {a : Expr} {ta : TA} {p pos : Pos} {k : Nat} (T : PySem.IsGoneX.IsGoneTxt X.K X.mg C fI) (hr : Room k X.A) (ha : PA X [a] ta) (hg : Gl X "IsGone" := by rfl)
    (he : starEach (a :: []) X.env = (false, eval a X.env) :: starEach [] X.env := by rfl) (hpl : (backTo pos (starEach [] X.env)).any (·.1) = false := by rfl) :
    PMk X (.Call (.Name "IsGone" p) [a] [] pos) (tMkIsGone C ta) := by
  intro pins s σ H Q I h
  refine wpAny_Call_Name_kw (ld_glob I hg T.gC ?_)
  refine PySem.W.callWith_K (h₀ := X.base) I.ok.mod.kin T.kC (thn (ha.run pos pins s σ H _ I h) fun us s1 hh => ?_) he hpl
  obtain ⟨vs, H1, I1, r1, v, ev, q1⟩ := hh
  subst ev
  refine ⟨I1.kIn, ?_⟩
  cases r1 with
  | cons rv rn =>
    rename_i v' us'
    cases rn
    show wpAny _ _ (call (.ref C) [v']) _ _ _
    have hlim := I1.nolimit
    obtain ⟨hp, g, dr, tk, os⟩ := s1
    refine wpAny_call (PySem.IsGoneX.made_IsGone T I1.kIn hlim (by have := hr.dp; omega) fun h' tk' e d M => ?_)
    show MkP X pins σ Q (.ref e) ⟨h', g, dr, tk', os⟩
    obtain ⟨oe, fv, hoe, hc, hd, hdat, h1, _⟩ := M.obj
    have hns := M.ns
    obtain ⟨G', g1, g2⟩ := restrict h' fun b => decide (b ≠ e)
    have gk : ∀ b, b ≠ e → G'.get? b = h'.get? b := fun b hb => g1 b (decide_eq_true hb)
    have ge : G'.get? e = none := g2 e (by simp)
    have old : ∀ b o, hp.get? b = some o → G'.get? b = some o := fun b o q => (gk b (Nat.ne_of_lt (Nat.lt_of_lt_of_le (Heap.lt_size q) M.new))).trans (M.keep b o q)
    have ob : ObjOk X.prog X.w (upd H1 d (.xd [(("part" : Str), v)])) G' d (.xd [(("part" : Str), v)]) :=
      ⟨_, hns.at (fun o q => (gk d M.dne).trans q), fun f => relO_IsGone rv f⟩
    have J : Inv X pins σ (upd H1 d (.xd [(("part" : Str), v)])) ⟨G', g, dr, tk', os⟩ := I1.laid (t' := tk') old M.dbig ob
    refine ⟨e, oe, fv, ⟨G', g, dr, tk', os⟩, _, .ref C, some d, rfl, J, fun b o q => ?_, ge, hoe, ⟨hc, hd⟩, hdat, h1, ?_, rfl, I1.bare, raises_own T.exC T.tyC, q1 d (I1.hok.fresh M.dbig)⟩
    · by_cases hb : b = e
      · have q' : G'.get? b = some o := q
        rw [hb, ge] at q'; cases q'
      · exact (gk b hb).symm.trans q
    · rw [upd_ne (Ne.symm M.dne)]
      exact I1.hok.fresh M.new
/-- raise Low(e) -/
def tRaiseIsGone (C : Addr) (W : WX) (ta : TA) : TS := fun _ σ H => tMkIsGone C ta σ H fun cls d H' => W cls d σ H'
theorem ps_raiseIsGone {a : Expr} {ta : TA} {W : WX} {p pos pos2 : Pos} {k : Nat} (hc : X.calm = true) (T : PySem.IsGoneX.IsGoneTxt X.K X.mg C fI) (hr : Room k X.A) (tk : Takes X W) (ha : PA X [a] ta) (hg : Gl X "IsGone" := by rfl)
    (he : starEach (a :: []) X.env = (false, eval a X.env) :: starEach [] X.env := by rfl) (hpl : (backTo pos (starEach [] X.env)).any (·.1) = false := by rfl) :
    PS X (.Raise (some (.Call (.Name "IsGone" p) [a] [] pos)) none pos2) (tRaiseIsGone C W ta) := ps_raise hc tk (pmk_IsGone T hr ha hg he hpl)
/-- low.by, low the exception that the suite holds (at a; its class cls, its dict d) -/
def tByIsGone (C : Addr) (a : Addr) (cls : Value) (d : Option Addr) (te : TE) : TE := fun σ H Q => te σ H fun x H1 => x = .ref a ∧ cls = .ref C ∧ ∃ (dd : Addr) (v : V), d = some dd ∧ H1 dd = some (.xd [(("part" : Str), v)]) ∧ Q v H1
theorem pe_byIsGone {a : Addr} {oe : Obj} {cls : Value} {d : Option Addr} {pn : List (Addr × Obj)} {e : Expr} {te : TE} {pos : Pos} (T : PySem.IsGoneX.IsGoneTxt X.K X.mg C fI) (hz : Zc cls d oe) (hf : ∃ vs, oe.data = .fields vs) (he : PE (X.suite a ((a, oe) :: pn)) e te)
    (hb : attributeBase e "part" X.env (eval e X.env) = eval e X.env := by rfl) :
    PE (X.suite a ((a, oe) :: pn)) (.Attribute e "part" pos) (tByIsGone C a cls d te) := by
  refine ⟨fun pins s σ H Q I h => ?_⟩
  refine attr_of hb (thn (he.run pins s σ H _ I h) fun u s1 hh => ?_)
  obtain ⟨x, H1, I1, rx, ex, ec, dd, v, ed, ea, q⟩ := hh
  subst ex
  obtain rfl : u = Value.ref a := rx
  subst ec
  subst ed
  obtain ⟨ha, _⟩ := I1.pin (a, oe) (List.mem_append_left _ List.mem_cons_self)
  obtain ⟨vs, hd⟩ := hf
  have hx : ObjOk X.prog X.w H1 s1.heap dd (.xd [(("part" : Str), v)]) := I1.hok dd _ ea
  obtain ⟨mA, hns, hr⟩ := hx
  obtain ⟨od, ho, hl⟩ := lookIn_ns hns
  have l : List.lookup ("part" : Str) [(("part" : Str), v)] = some v := by simp [List.lookup]
  obtain ⟨u, hu, ru⟩ := RelO.some_of (v := v) (o := mA "part") (by rw [← l]; exact hr "part")
  have J : PySem.W.InstAt s1.heap a oe C (some od) := ⟨ha, hz.1, by unfold PySem.W.notCls; rw [hd] <;> rfl, by rw [hz.2]; exact ho⟩
  exact HandSPX.exc_get I1.kIn J T.ga T.gg T.exC (PySem.W.findObj_own T.hdC T.noN rfl (by rw [hl, hu])) (handed_of ru) ⟨v, H1, I1.tok _, ru, q⟩
end
end L2



namespace PySem
namespace BadDemandX
open PySem.W PySem.Calls PyProof.Rows PySem.HandSPX
/-! ### the text of __init__ -/
def iA (p1 p2 : Pos) : Arguments := { posonlyargs := [], args := [{ arg := "self", annotation := none, pos := p1 }, { arg := "place", annotation := none, pos := p2 }], vararg := none, kwonlyargs := [], kw_defaults := [], kwarg := none, defaults := [] }
def iB (q1 q2 q3 q4 : Pos) : List Stmt := [.Assign [.Attribute (.Name "self" q1) "place" q2] (.Name "place" q3) q4]
def iS : Scope := { kind := .function, names := [(PySem.Str.ofString "self", .local), (PySem.Str.ofString "place", .local)], isGenerator := false, isCoroutine := false, more := [] }
/-- what the written part says of Low, at C, and of its __init__, at fI -/
structure BadDemandTxt (K : Frag) (mg : Str → Option Value) (C fI : Addr) : Prop where
  gC : mg "BadDemand" = some (.ref C)
  cls : ∃ nm q N bs bm sn sub ab col dd k0 k1 k2 k3 k5, K.lookup C = some (excClassObj nm q C N bs bm true sn sub ab col dd k0 k1 k2 k3 k5 "ValueError.__new__") ∧ refsVE bm = true
  sa : findIn K (.ref C) "__setattr__" = some (some (.builtin "object.__setattr__"))
  ga : findIn K (.ref C) "__getattribute__" = some (some (.builtin "BaseException.__getattribute__"))
  gg : findIn K (.ref C) "__getattr__" = some none
  noN : findIn K (.ref C) "place" = some none
  iC : findIn K (.ref C) "__init__" = some (some (.ref fI))
  tC : typeIn K (.ref fI) = some (.type "function")
  kC : keepIn K (.ref C) = true
  exC : subIn K (.ref C) (.type "BaseException") = some true
  tyC : typeIn K (.ref C) = some (.type "type")
  hdC : hasDictIn K C = true
  te : exmOne K (.ref C) (.ref C) = some true
  fn : ∃ (oc : Value) (od : Option Addr) (kV doc pm : Value) (an : Option Addr) (cdv ct : Value) (osl : Array (Option Value)) (p1 p2 q1 q2 q3 q4 : Pos),
    K.lookup fI = some ⟨oc, od, .func (fnOf "__init__" "BadDemand.__init__" (iA p1 p2) (iB q1 q2 q3 q4) iS .none kV doc pm an cdv ct), osl⟩ ∧ codeIn K cdv "BadDemand.__init__" = true
theorem one_size (v : Value) : [v].length ≤ sizeLine := by
  rw [sizeLine_eq]
  exact (by decide : 1 ≤ 16777216)
theorem kept_but {K : Frag} {h h' : Heap} {x : Addr} (X : K.In h) (hx : K.lookup x = none) (k : ∀ b o, b ≠ x → h.get? b = some o → h'.get? b = some o) : K.In h' := fun a o e =>
  k a o (fun z => by rw [z, hx] at e; cases e) (X a o e)
theorem ldC {M : Model} {s : Shared} {name : Str} {scope : Scope} {L a : Addr} {cd : Value} {m : Str → Option Value} {x : Str} {pos : Pos} {v : Value} {Q : Value → Shared → Prop} {A : Around} {E : Value → Shared → Prop} (hn : s.heap.Ns L m) (hv : m x = some v) (h : Q v s)
    (hk : scope.kind = .function := by rfl) (hl : (envOfC name scope L a cd).kindOf x = some .local := by rfl) (hd : (x == ("__debug__" : Str)) = false := by decide) :
    wpAny M A (eval (.Name x pos) (envOfC name scope L a cd)) Q E s := wpAny_Name (wpAny_loadName_local hk hl hn hv h) hd
/-- what __init__ leaves of a fresh exception at x -/
structure InitEnd (h h' : Heap) (x C dx t1 : Addr) (v : Value) : Prop where
  keep : ∀ b o, b ≠ x → h.get? b = some o → h'.get? b = some o
  obj : h'.get? x = some { cls := .ref C, dict := some dx, data := .fields #[.ref t1, .none, .none, .none, .bool false, .none] }
  dbig : h.objs.size ≤ dx
  dne : dx ≠ x
  ns : h'.Ns1 dx (fun y => if y = "place" then some v else none)
/-- a made Low -/
structure OwnMade (h h' : Heap) (e C d : Addr) (v : Value) : Prop where
  keep : ∀ b o, h.get? b = some o → h'.get? b = some o
  new : h.objs.size ≤ e
  obj : ∃ oe vs, h'.get? e = some oe ∧ oe.cls = .ref C ∧ oe.dict = some d ∧ oe.data = .fields vs ∧ vs[1]? = some .none ∧ 4 < vs.size
  dbig : h.objs.size ≤ d
  dne : d ≠ e
  ns : h'.Ns1 d (fun y => if y = "place" then some v else none)
section
variable {prog : Program} {w : World} {A : Around} {E : Value → Shared → Prop} {R : Result → Shared → Prop} {s : Shared} {K : Frag} {mg : Str → Option Value} {C fI : Addr}
theorem init_BadDemand (T : BadDemandTxt K mg C fI) {x t0 : Addr} {v : Value} (X : K.In s.heap) (hlim : s.heap.NoLimit) (hx : s.heap.get? x = some (excO C t0)) (hnx : K.lookup x = none) (hroom : A.depth < recursionLimit)
    (hq : ∀ h' tk dx, InitEnd s.heap h' x C dx t0 v → R (.ok (.ret .none)) { s with heap := h', toks := tk }) :
    codeAny (model prog w) A (.call (.ref fI) ⟨[.ref x, v], []⟩) R s := by
  obtain ⟨oc, od, kV, doc, pm, an, cdv, ct, osl, p1, p2, q1, q2, q3, q4, ho, hcd⟩ := T.fn
  obtain ⟨nm, q, N, bs, bm, sn, sub, ab, col, dd, k0, k1, k2, k3, k5, hC, hbm⟩ := T.cls
  have hcl : clsIn K C = some { name := nm, bases := bs, mro := .ref C :: bm, ns := N, qualname := q, hasDict := true, slotNames := sn, subclasses := sub, abstract := ab, collection := col, hasDel := false } := by unfold clsIn; rw [hC] <;> rfl
  refine Att.call_fn (binds := [("self", .ref x), ("place", v)]) X hlim ho hcd hroom (BindsTo.of_eq (by first | rfl | with_unfolding_all rfl)) (by first | rfl | decide | with_unfolding_all rfl) (fun s₁ IC => ?_) rfl rfl rfl
  obtain ⟨h₁, tk₁, rfl⟩ := IC.toInCall.same
  have k : ∀ b o, s.heap.get? b = some o → h₁.get? b = some o := IC.toInCall.keep
  have hn := IC.toInCall.ns
  have hxL : s.heap.objs.size ≠ x := Nat.ne_of_gt (Heap.lt_size hx)
  have X₁ : K.In h₁ := X.keeps k
  have hx₁ := k _ _ hx
  -- self.by = by
  show wpAny _ _ (execs _ _) _ _ _
  refine wpAny_execs_cons (plainObj_wpAny_Assign_Attribute ?_)
  refine ldC (v := v) hn (by first | rfl | with_unfolding_all rfl | kernel_rfl) (ldC (v := .ref x) hn (by first | rfl | with_unfolding_all rfl | kernel_rfl) ?_)
  refine set_plain X₁ (ox := excO C t0) (od := none) ⟨hx₁, rfl, rfl, trivial⟩ T.sa ?_
  refine exc_osa X₁ hx₁ hcl (show refsVE (.ref C :: bm) = true from hbm) rfl T.noN (fun h₃ tk₃ dx k₃ dn dne hx₃ hn₃ => ?_)
  show wpAny _ _ (execs _ _) _ _ _
  have z : s.heap.objs.size < h₁.objs.size := hn.lt
  exact wpAny_execs_nil (hq h₃ tk₃ dx ⟨fun b o hb e => k₃ b o hb (k b o e), hx₃, Nat.le_of_lt (Nat.lt_of_lt_of_le z dn), dne, hn₃⟩)
theorem made_BadDemand (T : BadDemandTxt K mg C fI) {v : Value} (X : K.In s.heap) (hlim : s.heap.NoLimit) (hroom : A.depth + 1 < recursionLimit)
    (hq : ∀ h' tk e d, OwnMade s.heap h' e C d v → R (.ok (.ret (.ref e))) { s with heap := h', toks := tk }) :
    codeAny (model prog w) A (.call (.ref C) ⟨[v], []⟩) R s := by
  obtain ⟨nm, q, N, bs, bm, sn, sub, ab, col, dd, k0, k1, k2, k3, k5, hC, hbm⟩ := T.cls
  obtain ⟨hp, g, dr, tk, os⟩ := s
  have k : ∀ b o, hp.get? b = some o → ((hp.push (kdv_tup [v])).push (excO C hp.objs.size)).get? b = some o := fun b o e => Heap.get?_push_of_some _ (Heap.get?_push_of_some _ e)
  have hget : ((hp.push (kdv_tup [v])).push (excO C hp.objs.size)).get? (hp.objs.size + 1) = some (excO C hp.objs.size) := by heap_get
  have hnx : K.lookup (hp.objs.size + 1) = none := by
    cases e : K.lookup (hp.objs.size + 1) with
    | none => rfl
    | some o =>
      have z : hp.get? (hp.objs.size + 1) = some o := X _ _ e
      exact absurd (Nat.lt_of_succ_lt (Heap.lt_size z)) (Nat.lt_irrefl _)
  refine call_own F.excBase_ValueError (fun X => refsVE_contains X bm hbm) (X _ _ hC) (looks_findIn X T.iC) (fun self => bind_fn X self T.tC) (one_size v) ?_
  refine init_BadDemand (s := ⟨(hp.push (kdv_tup [v])).push (excO C hp.objs.size), g, dr, tk, os⟩) T (X.keeps k) (hlim.keeps k) hget hnx ?_ fun h' tk' dx ⟨k', hx, dn, dne, hns⟩ => ?_
  · show A.depth + 1 < recursionLimit
    exact hroom
  · have old : ∀ b o, hp.get? b = some o → h'.get? b = some o := fun b o e => k' b o (Nat.ne_of_lt (Nat.lt_succ_of_lt (Heap.lt_size e))) (k b o e)
    have z : hp.objs.size + 1 + 1 ≤ dx := by
      first
        | (simpa only [Heap.size_push] using dn)
        | exact dn
        | (have q := dn; rw [Heap.size_push, Heap.size_push] at q; exact q)
    exact ⟨rfl, hq h' tk' (hp.objs.size + 1) dx ⟨old, Nat.le_succ _, ⟨_, _, hx, rfl, rfl, rfl, rfl, (by show (4 : Nat) < 6; decide)⟩, Nat.le_trans (Nat.le_trans (Nat.le_succ _) (Nat.le_succ _)) z, dne, hns⟩⟩
end
end BadDemandX
end PySem
namespace L2
open PySem PySem.Spec PyProof.Rows
theorem relO_BadDemand {v : V} {v' : Value} (r : RelV v v') (f : Str) : RelO (List.lookup f [(("place" : Str), v)]) (if f = "place" then some v' else none) := by
  by_cases hw : f = "place"
  · subst hw
    rw [if_pos rfl]
    have q : List.lookup ("place" : Str) [(("place" : Str), v)] = some v := by simp [List.lookup]
    rw [q]
    exact r
  · rw [if_neg hw]
    have qw : (f == ("place" : Str)) = false := by simpa using hw
    have q2 : List.lookup f [(("place" : Str), v)] = none := by simp [List.lookup, qw]
    rw [q2]
    trivial
section
variable {X : Cx} {C fI : Addr}
/-- Low(e) -/
def tMkBadDemand (C : Addr) (ta : TA) : St → Hp → XK → Prop := fun σ H Q => ta σ H fun vs H1 => ∃ v, vs = [v] ∧ ∀ d, H1 d = none → Q (.ref C) (some d) (upd H1 d (.xd [(("place" : Str), v)]))
theorem pmk_BadDemand {a : Expr} {ta : TA} {p pos : Pos} {k : Nat} (T : PySem.BadDemandX.BadDemandTxt X.K X.mg C fI) (hr : Room k X.A) (ha : PA X [a] ta) (hg : Gl X "BadDemand" := by rfl)
    (he : starEach (a :: []) X.env = (false, eval a X.env) :: starEach [] X.env := by rfl) (hpl : (backTo pos (starEach [] X.env)).any (·.1) = false := by rfl) :
    PMk X (.Call (.Name "BadDemand" p) [a] [] pos) (tMkBadDemand C ta) := by
  intro pins s σ H Q I h
  refine wpAny_Call_Name_kw (ld_glob I hg T.gC ?_)
  refine PySem.W.callWith_K (h₀ := X.base) I.ok.mod.kin T.kC (thn (ha.run pos pins s σ H _ I h) fun us s1 hh => ?_) he hpl
  obtain ⟨vs, H1, I1, r1, v, ev, q1⟩ := hh
  subst ev
  refine ⟨I1.kIn, ?_⟩
  cases r1 with
  | cons rv rn =>
    rename_i v' us'
    cases rn
    show wpAny _ _ (call (.ref C) [v']) _ _ _
    have hlim := I1.nolimit
    obtain ⟨hp, g, dr, tk, os⟩ := s1
    refine wpAny_call (PySem.BadDemandX.made_BadDemand T I1.kIn hlim (by have := hr.dp; omega) fun h' tk' e d M => ?_)
    show MkP X pins σ Q (.ref e) ⟨h', g, dr, tk', os⟩
    obtain ⟨oe, fv, hoe, hc, hd, hdat, h1, _⟩ := M.obj
    have hns := M.ns
    obtain ⟨G', g1, g2⟩ := restrict h' fun b => decide (b ≠ e)
    have gk : ∀ b, b ≠ e → G'.get? b = h'.get? b := fun b hb => g1 b (decide_eq_true hb)
    have ge : G'.get? e = none := g2 e (by simp)
    have old : ∀ b o, hp.get? b = some o → G'.get? b = some o := fun b o q => (gk b (Nat.ne_of_lt (Nat.lt_of_lt_of_le (Heap.lt_size q) M.new))).trans (M.keep b o q)
    have ob : ObjOk X.prog X.w (upd H1 d (.xd [(("place" : Str), v)])) G' d (.xd [(("place" : Str), v)]) :=
      ⟨_, hns.at (fun o q => (gk d M.dne).trans q), fun f => relO_BadDemand rv f⟩
    have J : Inv X pins σ (upd H1 d (.xd [(("place" : Str), v)])) ⟨G', g, dr, tk', os⟩ := I1.laid (t' := tk') old M.dbig ob
    refine ⟨e, oe, fv, ⟨G', g, dr, tk', os⟩, _, .ref C, some d, rfl, J, fun b o q => ?_, ge, hoe, ⟨hc, hd⟩, hdat, h1, ?_, rfl, I1.bare, raises_own T.exC T.tyC, q1 d (I1.hok.fresh M.dbig)⟩
    · by_cases hb : b = e
      · have q' : G'.get? b = some o := q
        rw [hb, ge] at q'; cases q'
      · exact (gk b hb).symm.trans q
    · rw [upd_ne (Ne.symm M.dne)]
      exact I1.hok.fresh M.new
/-- raise Low(e) -/
def tRaiseBadDemand (C : Addr) (W : WX) (ta : TA) : TS := fun _ σ H => tMkBadDemand C ta σ H fun cls d H' => W cls d σ H'
theorem ps_raiseBadDemand {a : Expr} {ta : TA} {W : WX} {p pos pos2 : Pos} {k : Nat} (hc : X.calm = true) (T : PySem.BadDemandX.BadDemandTxt X.K X.mg C fI) (hr : Room k X.A) (tk : Takes X W) (ha : PA X [a] ta) (hg : Gl X "BadDemand" := by rfl)
    (he : starEach (a :: []) X.env = (false, eval a X.env) :: starEach [] X.env := by rfl) (hpl : (backTo pos (starEach [] X.env)).any (·.1) = false := by rfl) :
    PS X (.Raise (some (.Call (.Name "BadDemand" p) [a] [] pos)) none pos2) (tRaiseBadDemand C W ta) := ps_raise hc tk (pmk_BadDemand T hr ha hg he hpl)
/-- low.by, low the exception that the suite holds (at a; its class cls, its dict d) -/
def tByBadDemand (C : Addr) (a : Addr) (cls : Value) (d : Option Addr) (te : TE) : TE := fun σ H Q => te σ H fun x H1 => x = .ref a ∧ cls = .ref C ∧ ∃ (dd : Addr) (v : V), d = some dd ∧ H1 dd = some (.xd [(("place" : Str), v)]) ∧ Q v H1
theorem pe_byBadDemand {a : Addr} {oe : Obj} {cls : Value} {d : Option Addr} {pn : List (Addr × Obj)} {e : Expr} {te : TE} {pos : Pos} (T : PySem.BadDemandX.BadDemandTxt X.K X.mg C fI) (hz : Zc cls d oe) (hf : ∃ vs, oe.data = .fields vs) (he : PE (X.suite a ((a, oe) :: pn)) e te)
    (hb : attributeBase e "place" X.env (eval e X.env) = eval e X.env := by rfl) :
    PE (X.suite a ((a, oe) :: pn)) (.Attribute e "place" pos) (tByBadDemand C a cls d te) := by
  refine ⟨fun pins s σ H Q I h => ?_⟩
  refine attr_of hb (thn (he.run pins s σ H _ I h) fun u s1 hh => ?_)
  obtain ⟨x, H1, I1, rx, ex, ec, dd, v, ed, ea, q⟩ := hh
  subst ex
  obtain rfl : u = Value.ref a := rx
  subst ec
  subst ed
  obtain ⟨ha, _⟩ := I1.pin (a, oe) (List.mem_append_left _ List.mem_cons_self)
  obtain ⟨vs, hd⟩ := hf
  have hx : ObjOk X.prog X.w H1 s1.heap dd (.xd [(("place" : Str), v)]) := I1.hok dd _ ea
  obtain ⟨mA, hns, hr⟩ := hx
  obtain ⟨od, ho, hl⟩ := lookIn_ns hns
  have l : List.lookup ("place" : Str) [(("place" : Str), v)] = some v := by simp [List.lookup]
  obtain ⟨u, hu, ru⟩ := RelO.some_of (v := v) (o := mA "place") (by rw [← l]; exact hr "place")
  have J : PySem.W.InstAt s1.heap a oe C (some od) := ⟨ha, hz.1, by unfold PySem.W.notCls; rw [hd] <;> rfl, by rw [hz.2]; exact ho⟩
  exact HandSPX.exc_get I1.kIn J T.ga T.gg T.exC (PySem.W.findObj_own T.hdC T.noN rfl (by rw [hl, hu])) (handed_of ru) ⟨v, H1, I1.tok _, ru, q⟩
end
end L2



namespace PySem
namespace NotAStockX
open PySem.W PySem.Calls PyProof.Rows PySem.HandSPX
/-! ### the text of __init__ -/
def iA (p1 p2 : Pos) : Arguments := { posonlyargs := [], args := [{ arg := "self", annotation := none, pos := p1 }, { arg := "place", annotation := none, pos := p2 }], vararg := none, kwonlyargs := [], kw_defaults := [], kwarg := none, defaults := [] }
def iB (q1 q2 q3 q4 : Pos) : List Stmt := [.Assign [.Attribute (.Name "self" q1) "place" q2] (.Name "place" q3) q4]
def iS : Scope := { kind := .function, names := [(PySem.Str.ofString "self", .local), (PySem.Str.ofString "place", .local)], isGenerator := false, isCoroutine := false, more := [] }
/-- what the written part says of Low, at C, and of its __init__, at fI -/
structure NotAStockTxt (K : Frag) (mg : Str → Option Value) (C fI : Addr) : Prop where
  gC : mg "NotAStock" = some (.ref C)
  cls : ∃ nm q N bs bm sn sub ab col dd k0 k1 k2 k3 k5, K.lookup C = some (excClassObj nm q C N bs bm true sn sub ab col dd k0 k1 k2 k3 k5 "ValueError.__new__") ∧ refsVE bm = true
  sa : findIn K (.ref C) "__setattr__" = some (some (.builtin "object.__setattr__"))
  ga : findIn K (.ref C) "__getattribute__" = some (some (.builtin "BaseException.__getattribute__"))
  gg : findIn K (.ref C) "__getattr__" = some none
  noN : findIn K (.ref C) "place" = some none
  iC : findIn K (.ref C) "__init__" = some (some (.ref fI))
  tC : typeIn K (.ref fI) = some (.type "function")
  kC : keepIn K (.ref C) = true
  exC : subIn K (.ref C) (.type "BaseException") = some true
  tyC : typeIn K (.ref C) = some (.type "type")
  hdC : hasDictIn K C = true
  te : exmOne K (.ref C) (.ref C) = some true
  fn : ∃ (oc : Value) (od : Option Addr) (kV doc pm : Value) (an : Option Addr) (cdv ct : Value) (osl : Array (Option Value)) (p1 p2 q1 q2 q3 q4 : Pos),
    K.lookup fI = some ⟨oc, od, .func (fnOf "__init__" "NotAStock.__init__" (iA p1 p2) (iB q1 q2 q3 q4) iS .none kV doc pm an cdv ct), osl⟩ ∧ codeIn K cdv "NotAStock.__init__" = true
theorem one_size (v : Value) : [v].length ≤ sizeLine := by
  rw [sizeLine_eq]
  exact (by decide : 1 ≤ 16777216)
theorem kept_but {K : Frag} {h h' : Heap} {x : Addr} (X : K.In h) (hx : K.lookup x = none) (k : ∀ b o, b ≠ x → h.get? b = some o → h'.get? b = some o) : K.In h' := fun a o e =>
  k a o (fun z => by rw [z, hx] at e; cases e) (X a o e)
theorem ldC {M : Model} {s : Shared} {name : Str} {scope : Scope} {L a : Addr} {cd : Value} {m : Str → Option Value} {x : Str} {pos : Pos} {v : Value} {Q : Value → Shared → Prop} {A : Around} {E : Value → Shared → Prop} (hn : s.heap.Ns L m) (hv : m x = some v) (h : Q v s)
    (hk : scope.kind = .function := by rfl) (hl : (envOfC name scope L a cd).kindOf x = some .local := by rfl) (hd : (x == ("__debug__" : Str)) = false := by decide) :
    wpAny M A (eval (.Name x pos) (envOfC name scope L a cd)) Q E s := wpAny_Name (wpAny_loadName_local hk hl hn hv h) hd
/-- what __init__ leaves of a fresh exception at x -/
structure InitEnd (h h' : Heap) (x C dx t1 : Addr) (v : Value) : Prop where
  keep : ∀ b o, b ≠ x → h.get? b = some o → h'.get? b = some o
  obj : h'.get? x = some { cls := .ref C, dict := some dx, data := .fields #[.ref t1, .none, .none, .none, .bool false, .none] }
  dbig : h.objs.size ≤ dx
  dne : dx ≠ x
  ns : h'.Ns1 dx (fun y => if y = "place" then some v else none)
/-- a made Low -/
structure OwnMade (h h' : Heap) (e C d : Addr) (v : Value) : Prop where
  keep : ∀ b o, h.get? b = some o → h'.get? b = some o
  new : h.objs.size ≤ e
  obj : ∃ oe vs, h'.get? e = some oe ∧ oe.cls = .ref C ∧ oe.dict = some d ∧ oe.data = .fields vs ∧ vs[1]? = some .none ∧ 4 < vs.size
  dbig : h.objs.size ≤ d
  dne : d ≠ e
  ns : h'.Ns1 d (fun y => if y = "place" then some v else none)
section
variable {prog : Program} {w : World} {A : Around} {E : Value → Shared → Prop} {R : Result → Shared → Prop} {s : Shared} {K : Frag} {mg : Str → Option Value} {C fI : Addr}
theorem init_NotAStock (T : NotAStockTxt K mg C fI) {x t0 : Addr} {v : Value} (X : K.In s.heap) (hlim : s.heap.NoLimit) (hx : s.heap.get? x = some (excO C t0)) (hnx : K.lookup x = none) (hroom : A.depth < recursionLimit)
    (hq : ∀ h' tk dx, InitEnd s.heap h' x C dx t0 v → R (.ok (.ret .none)) { s with heap := h', toks := tk }) :
    codeAny (model prog w) A (.call (.ref fI) ⟨[.ref x, v], []⟩) R s := by
  obtain ⟨oc, od, kV, doc, pm, an, cdv, ct, osl, p1, p2, q1, q2, q3, q4, ho, hcd⟩ := T.fn
  obtain ⟨nm, q, N, bs, bm, sn, sub, ab, col, dd, k0, k1, k2, k3, k5, hC, hbm⟩ := T.cls
  have hcl : clsIn K C = some { name := nm, bases := bs, mro := .ref C :: bm, ns := N, qualname := q, hasDict := true, slotNames := sn, subclasses := sub, abstract := ab, collection := col, hasDel := false } := by unfold clsIn; rw [hC] <;> rfl
  refine Att.call_fn (binds := [("self", .ref x), ("place", v)]) X hlim ho hcd hroom (BindsTo.of_eq (by first | rfl | with_unfolding_all rfl)) (by first | rfl | decide | with_unfolding_all rfl) (fun s₁ IC => ?_) rfl rfl rfl
  obtain ⟨h₁, tk₁, rfl⟩ := IC.toInCall.same
  have k : ∀ b o, s.heap.get? b = some o → h₁.get? b = some o := IC.toInCall.keep
  have hn := IC.toInCall.ns
  have hxL : s.heap.objs.size ≠ x := Nat.ne_of_gt (Heap.lt_size hx)
  have X₁ : K.In h₁ := X.keeps k
  have hx₁ := k _ _ hx
  -- self.by = by
  show wpAny _ _ (execs _ _) _ _ _
  refine wpAny_execs_cons (plainObj_wpAny_Assign_Attribute ?_)
  refine ldC (v := v) hn (by first | rfl | with_unfolding_all rfl | kernel_rfl) (ldC (v := .ref x) hn (by first | rfl | with_unfolding_all rfl | kernel_rfl) ?_)
  refine set_plain X₁ (ox := excO C t0) (od := none) ⟨hx₁, rfl, rfl, trivial⟩ T.sa ?_
  refine exc_osa X₁ hx₁ hcl (show refsVE (.ref C :: bm) = true from hbm) rfl T.noN (fun h₃ tk₃ dx k₃ dn dne hx₃ hn₃ => ?_)
  show wpAny _ _ (execs _ _) _ _ _
  have z : s.heap.objs.size < h₁.objs.size := hn.lt
  exact wpAny_execs_nil (hq h₃ tk₃ dx ⟨fun b o hb e => k₃ b o hb (k b o e), hx₃, Nat.le_of_lt (Nat.lt_of_lt_of_le z dn), dne, hn₃⟩)
theorem made_NotAStock (T : NotAStockTxt K mg C fI) {v : Value} (X : K.In s.heap) (hlim : s.heap.NoLimit) (hroom : A.depth + 1 < recursionLimit)
    (hq : ∀ h' tk e d, OwnMade s.heap h' e C d v → R (.ok (.ret (.ref e))) { s with heap := h', toks := tk }) :
    codeAny (model prog w) A (.call (.ref C) ⟨[v], []⟩) R s := by
  obtain ⟨nm, q, N, bs, bm, sn, sub, ab, col, dd, k0, k1, k2, k3, k5, hC, hbm⟩ := T.cls
  obtain ⟨hp, g, dr, tk, os⟩ := s
  have k : ∀ b o, hp.get? b = some o → ((hp.push (kdv_tup [v])).push (excO C hp.objs.size)).get? b = some o := fun b o e => Heap.get?_push_of_some _ (Heap.get?_push_of_some _ e)
  have hget : ((hp.push (kdv_tup [v])).push (excO C hp.objs.size)).get? (hp.objs.size + 1) = some (excO C hp.objs.size) := by heap_get
  have hnx : K.lookup (hp.objs.size + 1) = none := by
    cases e : K.lookup (hp.objs.size + 1) with
    | none => rfl
    | some o =>
      have z : hp.get? (hp.objs.size + 1) = some o := X _ _ e
      exact absurd (Nat.lt_of_succ_lt (Heap.lt_size z)) (Nat.lt_irrefl _)
  refine call_own F.excBase_ValueError (fun X => refsVE_contains X bm hbm) (X _ _ hC) (looks_findIn X T.iC) (fun self => bind_fn X self T.tC) (one_size v) ?_
  refine init_NotAStock (s := ⟨(hp.push (kdv_tup [v])).push (excO C hp.objs.size), g, dr, tk, os⟩) T (X.keeps k) (hlim.keeps k) hget hnx ?_ fun h' tk' dx ⟨k', hx, dn, dne, hns⟩ => ?_
  · show A.depth + 1 < recursionLimit
    exact hroom
  · have old : ∀ b o, hp.get? b = some o → h'.get? b = some o := fun b o e => k' b o (Nat.ne_of_lt (Nat.lt_succ_of_lt (Heap.lt_size e))) (k b o e)
    have z : hp.objs.size + 1 + 1 ≤ dx := by
      first
        | (simpa only [Heap.size_push] using dn)
        | exact dn
        | (have q := dn; rw [Heap.size_push, Heap.size_push] at q; exact q)
    exact ⟨rfl, hq h' tk' (hp.objs.size + 1) dx ⟨old, Nat.le_succ _, ⟨_, _, hx, rfl, rfl, rfl, rfl, (by show (4 : Nat) < 6; decide)⟩, Nat.le_trans (Nat.le_trans (Nat.le_succ _) (Nat.le_succ _)) z, dne, hns⟩⟩
end
end NotAStockX
end PySem
namespace L2
open PySem PySem.Spec PyProof.Rows
theorem relO_NotAStock {v : V} {v' : Value} (r : RelV v v') (f : Str) : RelO (List.lookup f [(("place" : Str), v)]) (if f = "place" then some v' else none) := by
  by_cases hw : f = "place"
  · subst hw
    rw [if_pos rfl]
    have q : List.lookup ("place" : Str) [(("place" : Str), v)] = some v := by simp [List.lookup]
    rw [q]
    exact r
  · rw [if_neg hw]
    have qw : (f == ("place" : Str)) = false := by simpa using hw
    have q2 : List.lookup f [(("place" : Str), v)] = none := by simp [List.lookup, qw]
    rw [q2]
    trivial
section
variable {X : Cx} {C fI : Addr}
/-- Low(e) -/
def tMkNotAStock (C : Addr) (ta : TA) : St → Hp → XK → Prop := fun σ H Q => ta σ H fun vs H1 => ∃ v, vs = [v] ∧ ∀ d, H1 d = none → Q (.ref C) (some d) (upd H1 d (.xd [(("place" : Str), v)]))
theorem pmk_NotAStock {a : Expr} {ta : TA} {p pos : Pos} {k : Nat} (T : PySem.NotAStockX.NotAStockTxt X.K X.mg C fI) (hr : Room k X.A) (ha : PA X [a] ta) (hg : Gl X "NotAStock" := by rfl)
    (he : starEach (a :: []) X.env = (false, eval a X.env) :: starEach [] X.env := by rfl) (hpl : (backTo pos (starEach [] X.env)).any (·.1) = false := by rfl) :
    PMk X (.Call (.Name "NotAStock" p) [a] [] pos) (tMkNotAStock C ta) := by
  intro pins s σ H Q I h
  refine wpAny_Call_Name_kw (ld_glob I hg T.gC ?_)
  refine PySem.W.callWith_K (h₀ := X.base) I.ok.mod.kin T.kC (thn (ha.run pos pins s σ H _ I h) fun us s1 hh => ?_) he hpl
  obtain ⟨vs, H1, I1, r1, v, ev, q1⟩ := hh
  subst ev
  refine ⟨I1.kIn, ?_⟩
  cases r1 with
  | cons rv rn =>
    rename_i v' us'
    cases rn
    show wpAny _ _ (call (.ref C) [v']) _ _ _
    have hlim := I1.nolimit
    obtain ⟨hp, g, dr, tk, os⟩ := s1
    refine wpAny_call (PySem.NotAStockX.made_NotAStock T I1.kIn hlim (by have := hr.dp; omega) fun h' tk' e d M => ?_)
    show MkP X pins σ Q (.ref e) ⟨h', g, dr, tk', os⟩
    obtain ⟨oe, fv, hoe, hc, hd, hdat, h1, _⟩ := M.obj
    have hns := M.ns
    obtain ⟨G', g1, g2⟩ := restrict h' fun b => decide (b ≠ e)
    have gk : ∀ b, b ≠ e → G'.get? b = h'.get? b := fun b hb => g1 b (decide_eq_true hb)
    have ge : G'.get? e = none := g2 e (by simp)
    have old : ∀ b o, hp.get? b = some o → G'.get? b = some o := fun b o q => (gk b (Nat.ne_of_lt (Nat.lt_of_lt_of_le (Heap.lt_size q) M.new))).trans (M.keep b o q)
    have ob : ObjOk X.prog X.w (upd H1 d (.xd [(("place" : Str), v)])) G' d (.xd [(("place" : Str), v)]) :=
      ⟨_, hns.at (fun o q => (gk d M.dne).trans q), fun f => relO_NotAStock rv f⟩
    have J : Inv X pins σ (upd H1 d (.xd [(("place" : Str), v)])) ⟨G', g, dr, tk', os⟩ := I1.laid (t' := tk') old M.dbig ob
    refine ⟨e, oe, fv, ⟨G', g, dr, tk', os⟩, _, .ref C, some d, rfl, J, fun b o q => ?_, ge, hoe, ⟨hc, hd⟩, hdat, h1, ?_, rfl, I1.bare, raises_own T.exC T.tyC, q1 d (I1.hok.fresh M.dbig)⟩
    · by_cases hb : b = e
      · have q' : G'.get? b = some o := q
        rw [hb, ge] at q'; cases q'
      · exact (gk b hb).symm.trans q
    · rw [upd_ne (Ne.symm M.dne)]
      exact I1.hok.fresh M.new
/-- raise Low(e) -/
def tRaiseNotAStock (C : Addr) (W : WX) (ta : TA) : TS := fun _ σ H => tMkNotAStock C ta σ H fun cls d H' => W cls d σ H'
theorem ps_raiseNotAStock {a : Expr} {ta : TA} {W : WX} {p pos pos2 : Pos} {k : Nat} (hc : X.calm = true) (T : PySem.NotAStockX.NotAStockTxt X.K X.mg C fI) (hr : Room k X.A) (tk : Takes X W) (ha : PA X [a] ta) (hg : Gl X "NotAStock" := by rfl)
    (he : starEach (a :: []) X.env = (false, eval a X.env) :: starEach [] X.env := by rfl) (hpl : (backTo pos (starEach [] X.env)).any (·.1) = false := by rfl) :
    PS X (.Raise (some (.Call (.Name "NotAStock" p) [a] [] pos)) none pos2) (tRaiseNotAStock C W ta) := ps_raise hc tk (pmk_NotAStock T hr ha hg he hpl)
/-- low.by, low the exception that the suite holds (at a; its class cls, its dict d) -/
def tByNotAStock (C : Addr) (a : Addr) (cls : Value) (d : Option Addr) (te : TE) : TE := fun σ H Q => te σ H fun x H1 => x = .ref a ∧ cls = .ref C ∧ ∃ (dd : Addr) (v : V), d = some dd ∧ H1 dd = some (.xd [(("place" : Str), v)]) ∧ Q v H1
theorem pe_byNotAStock {a : Addr} {oe : Obj} {cls : Value} {d : Option Addr} {pn : List (Addr × Obj)} {e : Expr} {te : TE} {pos : Pos} (T : PySem.NotAStockX.NotAStockTxt X.K X.mg C fI) (hz : Zc cls d oe) (hf : ∃ vs, oe.data = .fields vs) (he : PE (X.suite a ((a, oe) :: pn)) e te)
    (hb : attributeBase e "place" X.env (eval e X.env) = eval e X.env := by rfl) :
    PE (X.suite a ((a, oe) :: pn)) (.Attribute e "place" pos) (tByNotAStock C a cls d te) := by
  refine ⟨fun pins s σ H Q I h => ?_⟩
  refine attr_of hb (thn (he.run pins s σ H _ I h) fun u s1 hh => ?_)
  obtain ⟨x, H1, I1, rx, ex, ec, dd, v, ed, ea, q⟩ := hh
  subst ex
  obtain rfl : u = Value.ref a := rx
  subst ec
  subst ed
  obtain ⟨ha, _⟩ := I1.pin (a, oe) (List.mem_append_left _ List.mem_cons_self)
  obtain ⟨vs, hd⟩ := hf
  have hx : ObjOk X.prog X.w H1 s1.heap dd (.xd [(("place" : Str), v)]) := I1.hok dd _ ea
  obtain ⟨mA, hns, hr⟩ := hx
  obtain ⟨od, ho, hl⟩ := lookIn_ns hns
  have l : List.lookup ("place" : Str) [(("place" : Str), v)] = some v := by simp [List.lookup]
  obtain ⟨u, hu, ru⟩ := RelO.some_of (v := v) (o := mA "place") (by rw [← l]; exact hr "place")
  have J : PySem.W.InstAt s1.heap a oe C (some od) := ⟨ha, hz.1, by unfold PySem.W.notCls; rw [hd] <;> rfl, by rw [hz.2]; exact ho⟩
  exact HandSPX.exc_get I1.kIn J T.ga T.gg T.exC (PySem.W.findObj_own T.hdC T.noN rfl (by rw [hl, hu])) (handed_of ru) ⟨v, H1, I1.tok _, ru, q⟩
end
end L2





set_option Elab.async false
set_option linter.all false
set_option maxRecDepth 100000
set_option maxHeartbeats 4000000
/-! A set's table laid anew: it never fails for small whole numbers. -/
namespace SetT
open PySem L2
def orb (mask : Nat) : Nat → Nat → Nat → List Nat
  | 0, _, _ => []
  | f + 1, i, p => i :: orb mask f ((i * 5 + 1 + p / 32) % (mask + 1)) (p / 32)
/-- every slot is met -/
def Met (mask h : Nat) : Prop := ∀ s, s < mask + 1 → s ∈ orb mask (SetTable.turns mask) (h % (mask + 1)) h
def allMet (mask : Nat) : Bool := (List.range 64).all fun h => (List.range (mask + 1)).all fun s => (orb mask (SetTable.turns mask) (h % (mask + 1)) h).contains s
theorem met_of {mask : Nat} (c : allMet mask = true) {h : Nat} (hh : h < 64) : Met mask h := fun s hs => by
  have a := List.all_eq_true.mp c h (List.mem_range.mpr hh)
  have b := List.all_eq_true.mp a s (List.mem_range.mpr hs)
  exact List.contains_iff_mem.mp b
theorem met7 : allMet 7 = true := by decide +kernel
theorem met15 : allMet 15 = true := by decide +kernel
theorem met31 : allMet 31 = true := by decide +kernel
theorem met63 : allMet 63 = true := by decide +kernel
theorem met127 : allMet 127 = true := by decide +kernel
def GoodM (mask : Nat) : Prop := mask = 7 ∨ mask = 15 ∨ mask = 31 ∨ mask = 63 ∨ mask = 127
theorem GoodM.met {mask : Nat} (g : GoodM mask) {h : Nat} (hh : h < 64) : Met mask h := by
  rcases g with rfl | rfl | rfl | rfl | rfl
  · exact met_of met7 hh
  · exact met_of met15 hh
  · exact met_of met31 hh
  · exact met_of met63 hh
  · exact met_of met127 hh
end SetT


set_option Elab.async false
set_option linter.all false
set_option maxRecDepth 100000
set_option maxHeartbeats 4000000
/-! A set's table laid anew: it never fails for small whole numbers. -/
namespace SetT
open PySem L2
theorem fm_congr {α β : Type} {f g : α → Option β} : ∀ {l : List α}, (∀ x ∈ l, f x = g x) → l.filterMap f = l.filterMap g
  | [], _ => rfl
  | x :: l, h => by
    have e := h x (List.mem_cons_self ..)
    have ih := fm_congr (l := l) fun y hy => h y (List.mem_cons_of_mem _ hy)
    cases q : f x with
    | none => rw [List.filterMap_cons_none q, List.filterMap_cons_none (by rw [← e]; exact q), ih]
    | some z => rw [List.filterMap_cons_some q, List.filterMap_cons_some (by rw [← e]; exact q), ih]
theorem free_some {mask : Nat} {owner : Array (Option Nat)} {s : Nat} (hs : (owner.getD s (some 0)).isNone = true) : ∀ (f i p : Nat), s ∈ orb mask f i p → ∃ j, SetTable.layClean.free mask owner f i p = some j
  | 0, i, p, h => by simp [orb] at h
  | f + 1, i, p, h => by
    unfold SetTable.layClean.free
    cases hf : (List.range (SetTable.runEnd mask i + 1 - i)).find? fun k => (owner.getD (i + k) (some 0)).isNone with
    | some k => exact ⟨_, rfl⟩
    | none =>
      rcases List.mem_cons.mp h with e | e
      · exfalso
        have h0 := List.find?_eq_none.mp hf 0 (List.mem_range.mpr (by
          unfold SetTable.runEnd
          split <;> omega))
        rw [← e] at h0
        exact h0 (by simpa using hs)
      · exact free_some hs f _ _ e
theorem free_sound {mask : Nat} {owner : Array (Option Nat)} : ∀ (f i p j : Nat), SetTable.layClean.free mask owner f i p = some j → (owner.getD j (some 0)).isNone = true
  | 0, i, p, j, h => by simp [SetTable.layClean.free] at h
  | f + 1, i, p, j, h => by
    unfold SetTable.layClean.free at h
    cases hf : (List.range (SetTable.runEnd mask i + 1 - i)).find? fun k => (owner.getD (i + k) (some 0)).isNone with
    | some k =>
      rw [hf] at h
      have e : i + k = j := Option.some.inj h
      rw [← e]
      exact List.find?_some (p := fun k => (owner.getD (i + k) (some 0)).isNone) hf
    | none =>
      rw [hf] at h
      exact free_sound f _ _ j h
def ownL (owner : Array (Option Nat)) (M : Nat) : List Nat := (List.range M).filterMap fun j => owner.getD j none
structure Owned (owner : Array (Option Nat)) (M k : Nat) : Prop where
  size : owner.size = M
  perm : (ownL owner M).Perm (List.range k)
theorem fm_new {f g : Nat → Option Nat} {j k : Nat} (hf : f j = none) (hg : g j = some k) (ho : ∀ i, i ≠ j → g i = f i) : ∀ l : List Nat, l.Nodup → j ∈ l → (l.filterMap g).Perm (k :: l.filterMap f)
  | [], _, h => by simp at h
  | x :: l, nd, h => by
    obtain ⟨n1, n2⟩ := List.nodup_cons.mp nd
    by_cases c : x = j
    · subst c
      have e : l.filterMap g = l.filterMap f := fm_congr fun i hi => ho i fun z => n1 (z ▸ hi)
      rw [List.filterMap_cons_some hg, List.filterMap_cons_none hf, e]
    · have hj : j ∈ l := by
        rcases List.mem_cons.mp h with z | z
        · exact absurd z.symm c
        · exact z
      have ih := fm_new hf hg ho l n2 hj
      cases q : f x with
      | none =>
        rw [List.filterMap_cons_none (by rw [ho x c]; exact q), List.filterMap_cons_none q]
        exact ih
      | some y =>
        rw [List.filterMap_cons_some (by rw [ho x c]; exact q), List.filterMap_cons_some q]
        exact (ih.cons y).trans (List.Perm.swap k y _)
theorem Owned.step {owner : Array (Option Nat)} {M k j : Nat} (h : Owned owner M k) (hj : (owner.getD j (some 0)).isNone = true) : Owned (owner.setIfInBounds j (some k)) M (k + 1) := by
  have hjs : j < owner.size := by
    by_cases c : j < owner.size
    · exact c
    · rw [Array.getD_eq_getD_getElem?, Array.getElem?_eq_none (by omega)] at hj
      cases hj
  have hn : owner.getD j none = none := by
    rw [Array.getD_eq_getD_getElem?, Array.getElem?_eq_getElem hjs] at hj ⊢
    simpa using hj
  refine ⟨by rw [Array.size_setIfInBounds]; exact h.size, ?_⟩
  have p := fm_new (f := fun i => owner.getD i none) (g := fun i => (owner.setIfInBounds j (some k)).getD i none) (j := j) (k := k) hn (by
    show (owner.setIfInBounds j (some k)).getD j none = some k
    rw [Array.getD_eq_getD_getElem?, Array.getElem?_setIfInBounds_self_of_lt hjs]
    rfl) (fun i hi => by
    show (owner.setIfInBounds j (some k)).getD i none = owner.getD i none
    rw [Array.getD_eq_getD_getElem?, Array.getD_eq_getD_getElem?, Array.getElem?_setIfInBounds_ne (Ne.symm hi)]) (List.range M) List.nodup_range (List.mem_range.mpr (by rw [← h.size]; exact hjs))
  refine p.trans ?_
  rw [List.range_succ]
  exact (h.perm.cons k).trans (List.perm_append_singleton k (List.range k)).symm
theorem fm_full {f : Nat → Option Nat} : ∀ l : List Nat, (∀ j ∈ l, f j ≠ none) → (l.filterMap f).length = l.length
  | [], _ => rfl
  | x :: l, h => by
    cases q : f x with
    | none => exact absurd q (h x (List.mem_cons_self ..))
    | some y =>
      rw [List.filterMap_cons_some q, List.length_cons, List.length_cons, fm_full l fun j hj => h j (List.mem_cons_of_mem _ hj)]
theorem Owned.room {owner : Array (Option Nat)} {M k : Nat} (h : Owned owner M k) (hk : k < M) : ∃ s, s < M ∧ (owner.getD s (some 0)).isNone = true := by
  apply Classical.byContradiction
  intro c
  have hall : ∀ j ∈ List.range M, owner.getD j none ≠ none := fun j hj e => by
    have hjM := List.mem_range.mp hj
    refine c ⟨j, hjM, ?_⟩
    rw [Array.getD_eq_getD_getElem?, Array.getElem?_eq_getElem (by rw [h.size]; exact hjM)] at e ⊢
    simp at e
    simp [e]
  have e1 := fm_full (f := fun j => owner.getD j none) (List.range M) hall
  have e2 := h.perm.length_eq
  unfold ownL at e2
  rw [List.length_range] at e1 e2
  omega
theorem Owned.nil (M : Nat) : Owned (Array.replicate M none) M 0 := by
  refine ⟨by simp, ?_⟩
  have e : ownL (Array.replicate M none) M = [] := by
    unfold ownL
    rw [List.filterMap_eq_nil_iff]
    intro j hj
    rw [Array.getD_eq_getD_getElem?, Array.getElem?_replicate]
    split <;> rfl
  rw [e]
  exact List.Perm.refl _
def stepL (mask : Nat) (acc : Option (Array (Option Nat) × Nat)) (h : Int) : Option (Array (Option Nat) × Nat) := do
    let (owner, k) ← acc
    let j ← SetTable.layClean.free mask owner (SetTable.turns mask) (SetTable.bits h % (mask + 1)) (SetTable.bits h)
    pure (owner.setIfInBounds j (some k), k + 1)
theorem fold_ok {mask : Nat} (g : GoodM mask) : ∀ (hs : List Int) (owner : Array (Option Nat)) (k : Nat), Owned owner (mask + 1) k → k + hs.length ≤ mask + 1 → (∀ h ∈ hs, SetTable.bits h < 64) →
    ∃ owner', hs.foldl (stepL mask) (some (owner, k)) = some (owner', k + hs.length) ∧ Owned owner' (mask + 1) (k + hs.length)
  | [], owner, k, O, _, _ => ⟨owner, rfl, O⟩
  | h :: hs, owner, k, O, hl, hb => by
    rw [List.length_cons] at hl
    obtain ⟨s, hs1, hs2⟩ := O.room (by omega)
    obtain ⟨j, hj⟩ := free_some hs2 _ _ _ (g.met (hb h (List.mem_cons_self ..)) s hs1)
    have hn := free_sound _ _ _ _ hj
    have e : stepL mask (some (owner, k)) h = some (owner.setIfInBounds j (some k), k + 1) := by
      unfold stepL
      show (SetTable.layClean.free mask owner (SetTable.turns mask) (SetTable.bits h % (mask + 1)) (SetTable.bits h)).bind _ = _
      rw [hj]
      rfl
    obtain ⟨o', h1, h2⟩ := fold_ok g hs _ (k + 1) (O.step hn) (by omega) fun z hz => hb z (List.mem_cons_of_mem _ hz)
    refine ⟨o', ?_, ?_⟩
    · rw [List.foldl_cons, e, h1, List.length_cons, show k + 1 + hs.length = k + (hs.length + 1) by omega]
    · rw [List.length_cons, show k + (hs.length + 1) = k + 1 + hs.length by omega]
      exact h2
theorem layClean_ok {mask : Nat} (g : GoodM mask) {hs : Array Int} (hl : hs.size ≤ mask + 1) (hb : ∀ h ∈ hs.toList, SetTable.bits h < 64) : ∃ owner, SetTable.layClean mask hs = some owner ∧ Owned owner (mask + 1) hs.size := by
  obtain ⟨o, h1, h2⟩ := fold_ok g hs.toList _ 0 (Owned.nil (mask + 1)) (by rw [Array.length_toList]; omega) hb
  refine ⟨o, ?_, by rw [Array.length_toList, Nat.zero_add] at h2; exact h2⟩
  unfold SetTable.layClean
  rw [← Array.foldl_toList]
  show Option.map (·.1) (hs.toList.foldl (stepL mask) (some (Array.replicate (mask + 1) none, 0))) = some o
  rw [h1]
  rfl
theorem laid_ok {mask finger moves : Nat} {led plain : Bool} (g : GoodM mask) {hs : Array Int} (hl : hs.size ≤ mask) (hb : ∀ h ∈ hs.toList, SetTable.bits h < 64) :
    ∃ t order, SetTable.laid mask finger moves led plain hs = some (t, order) ∧ t.mask = mask ∧ t.dummies = #[] ∧ t.led = led ∧ Ris t.place.toList ∧ t.fits hs.size = true ∧ order.toList.Perm (List.range hs.size) := by
  obtain ⟨owner, h1, h2⟩ := layClean_ok g (hs := hs) (by omega) hb
  have eo : ((List.range (mask + 1)).filterMap fun j => (owner.getD j none).map (j, ·)).map (·.2) = ownL owner (mask + 1) := by
    unfold ownL
    rw [List.map_filterMap]
    apply fm_congr
    intro j _
    cases owner.getD j none <;> rfl
  have el : ((List.range (mask + 1)).filterMap fun j => (owner.getD j none).map (j, ·)).length = hs.size := by
    have := congrArg List.length eo
    rw [List.length_map] at this
    rw [this, h2.perm.length_eq, List.length_range]
  refine ⟨_, _, by unfold SetTable.laid; rw [h1]; rfl, rfl, rfl, rfl, ?_, ?_, ?_⟩
  · refine (ris_live (fun j => owner.getD j none) (List.range (mask + 1)) ?_).1
    unfold Ris
    first | exact List.pairwise_lt_range | exact List.pairwise_lt_range _
  · unfold SetTable.fits SetTable.fill
    dsimp only
    rw [Bool.and_eq_true]
    refine ⟨?_, ?_⟩
    · rw [beq_iff_eq]
      simp only [List.size_toArray, List.length_map]
      exact el
    · rw [decide_eq_true_eq]
      simp only [List.size_toArray, List.length_map]
      rw [el]
      exact hl
  · dsimp only
    rw [eo]
    exact h2.perm
theorem range_fm {α : Type} (es : List α) : (List.range es.length).filterMap (fun i => es[i]?) = es := by
  suffices h : ∀ (n : Nat) (es : List α), es.length = n → (List.range es.length).filterMap (fun i => es[i]?) = es from h _ es rfl
  clear es
  intro n
  induction n with
  | zero =>
    intro es he
    rw [List.length_eq_zero_iff.mp he]
    rfl
  | succ n ih0 =>
    intro es0 he
    obtain ⟨es, x, rfl⟩ : ∃ es x, es0 = es ++ [x] := ⟨es0.dropLast, es0.getLast (fun z => by rw [z] at he; cases he), (List.dropLast_concat_getLast _).symm⟩
    have ih := ih0 es (by rw [List.length_append, List.length_singleton] at he; omega)
    rw [List.length_append, List.length_singleton, List.range_succ, List.filterMap_append]
    have e1 : (List.range es.length).filterMap (fun i => (es ++ [x])[i]?) = (List.range es.length).filterMap (fun i => es[i]?) := by
      apply fm_congr
      intro i hi
      rw [List.getElem?_append_left (List.mem_range.mp hi)]
    rw [e1, ih]
    simp
theorem order_perm {α : Type} {es : Array α} {order : Array Nat} (h : order.toList.Perm (List.range es.size)) : (order.filterMap (es[·]?)).toList.Perm es.toList := by
  rw [Array.toList_filterMap]
  refine (h.filterMap _).trans ?_
  have e : (List.range es.size).filterMap (fun i => es[i]?) = es.toList := by
    have := range_fm es.toList
    rw [Array.length_toList] at this
    refine Eq.trans (fm_congr fun i _ => ?_) this
    rw [Array.getElem?_toList]
  rw [e]
end SetT


set_option Elab.async false
set_option linter.all false
set_option maxRecDepth 100000
set_option maxHeartbeats 4000000
/-! Sets of small whole numbers: walked, laid anew, merged. -/
namespace SetT
open PySem PySem.Spec PyProof.Rows L2
/-- a set of whole numbers at a: its elements es -/
structure SX (w : World) (h : Heap) (a : Addr) (es : Array (Int × Value)) (ep : Nat) (t : SetTable) : Prop where
  ob : ∃ o, h.get? a = some o ∧ o.ExactSet ∧ o.data = .set es ep t
  good : ∀ e ∈ es.toList, GoodE e
  nd : (es.toList.map keyOf).Nodup
  small : es.size < scanBound
  fits : t.fits es.size = true
  ris : Ris t.place.toList
  led : w.params.followText "set-order" = true ∨ t.led = true
def Mem (S : Int → Bool) (es : Array (Int × Value)) : Prop := ∀ k, S k = true ↔ k ∈ es.toList.map keyOf
theorem sx_of {w : World} {h : Heap} {a : Addr} {S : Int → Bool} {n : Nat} (R : SetR w h a S n) : ∃ es ep t, SX w h a es ep t ∧ Mem S es ∧ es.size = n := by
  obtain ⟨o, es, ep, t, ho, hex, hd, g, nd, hm, hb, hf, hn, hr, hl⟩ := R
  exact ⟨es, ep, t, ⟨⟨o, ho, hex, hd⟩, g, nd, hb, hf, hr, hl⟩, hm, hn⟩
theorem SX.setR {w : World} {h : Heap} {a : Addr} {S : Int → Bool} {es : Array (Int × Value)} {ep : Nat} {t : SetTable} (X : SX w h a es ep t) (m : Mem S es) : SetR w h a S es.size := by
  obtain ⟨o, ho, hex, hd⟩ := X.ob
  exact ⟨o, es, ep, t, ho, hex, hd, X.good, X.nd, m, X.small, X.fits, rfl, X.ris, X.led⟩
theorem SX.keep {w : World} {h h' : Heap} {a : Addr} {es : Array (Int × Value)} {ep : Nat} {t : SetTable} (X : SX w h a es ep t) (k : ∀ o, h.get? a = some o → h'.get? a = some o) : SX w h' a es ep t := by
  obtain ⟨o, ho, r⟩ := X.ob
  exact ⟨⟨o, k o ho, r⟩, X.good, X.nd, X.small, X.fits, X.ris, X.led⟩
section
variable {P : Program} {w : World} {A : Around} {E : Value → Shared → Prop} {s : Shared} {a : Addr} {es : Array (Int × Value)} {ep : Nat} {t : SetTable}
theorem SX.typeIs (X : SX w s.heap a es ep t) : s.TypeIs (.ref a) "set" := by
  obtain ⟨o, ho, hex, _⟩ := X.ob
  exact ⟨o, ho, hex.1⟩
theorem SX.lt (X : SX w s.heap a es ep t) : a < s.heap.objs.size := by
  obtain ⟨o, ho, _⟩ := X.ob
  exact Heap.lt_size ho
theorem SX.state {Q : (Array (Int × Value) × Nat × SetTable) → Shared → Prop} (X : SX w s.heap a es ep t) (h : Q (es, ep, t) s) : wpAny (model P w) A (setState a) Q E s := by
  obtain ⟨o, ho, _, hd⟩ := X.ob
  exact wpAny_setState_of ho hd X.fits h
theorem SX.entries {Q : Array (Int × Value) → Shared → Prop} (X : SX w s.heap a es ep t) (h : Q es s) : wpAny (model P w) A (setEntries a) Q E s := by
  obtain ⟨o, ho, _, hd⟩ := X.ob
  exact wpAny_setEntries_of ho hd X.fits h
theorem SX.epoch {Q : Nat → Shared → Prop} (X : SX w s.heap a es ep t) (h : Q ep s) : wpAny (model P w) A (setEpoch a) Q E s := by
  obtain ⟨o, ho, _, hd⟩ := X.ob
  exact wpAny_setEpoch_of ho hd X.fits h
/-- stored anew -/
theorem SX.store {es' : Array (Int × Value)} {t' : SetTable} {Q : Unit → Shared → Prop} (X : SX w s.heap a es ep t) (g : ∀ e ∈ es'.toList, GoodE e) (nd : (es'.toList.map keyOf).Nodup) (hb : es'.size < scanBound) (hf : t'.fits es'.size = true) (r : Ris t'.place.toList) (hl : w.params.followText "set-order" = true ∨ t'.led = true)
    (h : ∀ h', Heap.SameBut a s.heap h' → SX w h' a es' (ep + 1) t' → Q () { s with heap := h' }) : wpAny (model P w) A (storeSet a es' t') Q E s := by
  obtain ⟨o, ho, hex, hd⟩ := X.ob
  refine wpAny_storeSet_of ho hd ?_ (fits_of_scanBound hb)
  have ho1 := store_at (es' := es') (t' := t') ho hd
  exact h _ (Heap.SameBut.update s.heap a (Obj.putSet es' t')) ⟨⟨_, ho1, hex, rfl⟩, g, nd, hb, hf, r, hl⟩
/-! ### walks -/
theorem setWalk_eq (a : Addr) : setWalk a = (do
  let (es, epoch, t) ← setState a
  if ← setsByText then return pickOrder ((← ask).params.setOrder a epoch) es
  if (!t.plain && es.size > 1) then return (← drawOrder es.size es.toList).toArray
  (do if !t.led && es.size > 1 then unsupported "set:maker-not-led" : Sem Unit)
  return es) := rfl
theorem SX.walk {Q : Array (Int × Value) → Shared → Prop} (X : SX w s.heap a es ep t) (h : ∀ es' d, es'.toList.Perm es.toList → Q es' { s with drawn := d }) : wpAny (model P w) A (setWalk a) Q E s := by
  rw [setWalk_eq]
  refine wpAny_bind (X.state ?_)
  dsimp only
  refine wpAny_bind (wpAny_byText ?_)
  cases hb : w.params.followText "set-order" with
  | true =>
    refine wp_if_pos rfl ?_
    refine wpAny_bind (wpAny_askSetting ?_)
    exact wpAny_pure (h _ s.drawn (pick_perm _ _))
  | false =>
    refine wp_if_neg (by simp) ?_
    have hl : t.led = true := by
      rcases X.led with z | z
      · rw [hb] at z; cases z
      · exact z
    cases hp : (!t.plain && decide (es.size > 1)) with
    | true =>
      refine wp_if_pos rfl ?_
      refine wpAny_bind (drawOrder_at _ _ _ _ (by rw [Array.length_toList]; exact Nat.le_refl _) fun ys d p => ?_)
      exact wpAny_pure (h _ d p)
    | false =>
      refine wp_if_neg (by simp) ?_
      refine wpAny_bind ?_
      rw [hl]
      refine wp_if_neg (by simp) ?_
      exact wpAny_pure (wpAny_pure (h _ s.drawn (List.Perm.refl _)))
theorem quiet_ok {Q : Bool → Shared → Prop} (as : List Addr) (ha : ∀ b ∈ as, ∃ es ep t, SX w s.heap b es ep t) (h : Q true s) : wpAny (model P w) A (setsQuiet as) Q E s := by
  unfold setsQuiet
  refine wpAny_bind ?_
  refine wpAny_forIn_list _ (fun rest r s' => r.1 = none ∧ s' = s ∧ ∀ b ∈ rest, ∃ es ep t, SX w s.heap b es ep t) _ ?_ ?_ _ _ ⟨rfl, rfl, ha⟩
  · rintro b rest r s' ⟨hr, rfl, hb⟩
    obtain ⟨es, ep, t, X⟩ := hb b (List.mem_cons_self ..)
    refine wpAny_bind (X.entries ?_)
    refine wpAny_bind ?_
    refine wpAny_forIn_array' _ (fun rest2 r2 s2 => r2.1 = none ∧ s2 = s' ∧ ∀ e ∈ rest2, GoodE e) _ ?_ ?_ _ _ ⟨rfl, rfl, X.good⟩
    · rintro ⟨hh, x⟩ rest2 r2 s2 ⟨hr2, rfl, hg⟩
      obtain ⟨k, tk, e1, e2⟩ := hg _ (List.mem_cons_self ..)
      dsimp only at e1
      subst e1
      dsimp only
      exact wpAny_pure ⟨rfl, rfl, fun e he => hg e (List.mem_cons_of_mem _ he)⟩
    · rintro r2 s2 ⟨hr2, rfl, _⟩
      obtain ⟨r21, r22⟩ := r2
      dsimp only at hr2
      subst hr2
      dsimp only
      exact wpAny_pure ⟨rfl, rfl, fun e he => hb e (List.mem_cons_of_mem _ he)⟩
  · rintro r s' ⟨hr, rfl, _⟩
    obtain ⟨r1, r2⟩ := r
    dsimp only at hr
    subst hr
    exact wpAny_pure h
end
end SetT


set_option Elab.async false
set_option linter.all false
set_option maxRecDepth 100000
set_option maxHeartbeats 4000000
/-! Sets of small whole numbers: merged, copied, joined. -/
namespace SetT
open PySem PySem.Spec PyProof.Rows L2
theorem bits_low {k : Int} (h0 : 0 ≤ k) (h1 : k < 64) : SetTable.bits (hashInt k) < 64 := by
  obtain ⟨n, rfl⟩ : ∃ n : Nat, k = (n : Int) := ⟨k.toNat, by omega⟩
  have hn : n < 64 := by omega
  have all : ∀ n : Fin 64, SetTable.bits (hashInt ((n : Nat) : Int)) < 64 := by decide +kernel
  exact all ⟨n, hn⟩
/-- the keys are small -/
def Low (es : Array (Int × Value)) : Prop := ∀ k ∈ es.toList.map keyOf, 0 ≤ k ∧ k < 64
theorem Low.bits {es : Array (Int × Value)} (l : Low es) (g : ∀ e ∈ es.toList, GoodE e) : ∀ h ∈ (es.map (·.1)).toList, SetTable.bits h < 64 := fun h hh => by
  rw [Array.toList_map] at hh
  obtain ⟨e, he, rfl⟩ := List.mem_map.mp hh
  obtain ⟨k, tk, h1, h2⟩ := g e he
  have hk : keyOf e = k := by
    unfold keyOf
    rw [h1]
  have := l (keyOf e) (List.mem_map.mpr ⟨e, he, rfl⟩)
  rw [hk] at this
  rw [h2]
  exact bits_low this.1 this.2
theorem above_good : ∀ n : Fin 128, (SetTable.sizeAbove n - 1 = 7 ∨ SetTable.sizeAbove n - 1 = 15 ∨ SetTable.sizeAbove n - 1 = 31 ∨ SetTable.sizeAbove n - 1 = 63 ∨ SetTable.sizeAbove n - 1 = 127) ∧ n < SetTable.sizeAbove n ∧ SetTable.sizeAbove n ≤ 128 := by decide +kernel
section
variable {P : Program} {w : World} {A : Around} {E : Value → Shared → Prop} {s : Shared} {a : Addr} {es : Array (Int × Value)} {ep : Nat} {t : SetTable}
theorem setRelay_eq (a : Addr) (wanted : Nat) : setRelay a wanted = (do
  let (es, _, t) ← setState a
  if SetTable.sizeAbove wanted > sizeLine then unsupported "set:memory"
  let (es, t) ← (do
    let some (t, order) := t.relaid (es.map (·.1)) wanted | unsupported "internal:set-table-without-room"
    let es' := order.filterMap (es[·]?)
    if es'.size != es.size then unsupported "internal:set-table-lost-an-element"
    pure (es', t))
  storeSet a es t) := rfl
/-- laid anew -/
theorem SX.relay {wanted : Nat} {Q : Unit → Shared → Prop} (X : SX w s.heap a es ep t) (lo : Low es) (hw : wanted < 128) (hs : es.size ≤ wanted)
    (h : ∀ h' es' t', Heap.SameBut a s.heap h' → SX w h' a es' (ep + 1) t' → es'.toList.Perm es.toList → GoodM t'.mask → wanted ≤ t'.mask → t'.dummies = #[] → Q () { s with heap := h' }) : wpAny (model P w) A (setRelay a wanted) Q E s := by
  obtain ⟨g1, g2, g3⟩ := above_good ⟨wanted, hw⟩
  dsimp only at g1 g2 g3
  obtain ⟨t', order, e1, e2, e3, e4, e5, e6, e7⟩ := laid_ok (finger := t.finger) (moves := t.movedTo (SetTable.sizeAbove wanted - 1)) (led := t.led) (plain := t.plain) g1 (hs := es.map (·.1)) (by rw [Array.size_map]; omega) (lo.bits X.good)
  rw [Array.size_map] at e6 e7
  have pm := order_perm e7
  have hsz : (order.filterMap (es[·]?)).size = es.size := by
    have := pm.length_eq
    rw [Array.length_toList, Array.length_toList] at this
    exact this
  rw [setRelay_eq]
  refine wpAny_bind (X.state ?_)
  dsimp only
  have hL : ¬ (SetTable.sizeAbove wanted > sizeLine) := by
    rw [sizeLine_eq]
    omega
  rw [if_neg hL]
  have er : t.relaid (es.map (·.1)) wanted = some (t', order) := e1
  rw [er]
  dsimp only
  have ec : ((order.filterMap (es[·]?)).size != es.size) = false := by
    rw [hsz]
    simp
  rw [ec]
  refine wpAny_bind (wpAny_pure ?_)
  dsimp only
  refine X.store (fun e he => X.good e (pm.mem_iff.mp he)) ((pm.map keyOf).nodup_iff.mpr X.nd) (by rw [hsz]; exact X.small) (by rw [hsz]; exact e6) e5 (X.led.imp id fun z => by rw [e4]; exact z) fun h' sb X' => ?_
  exact h h' _ t' sb X' pm (by rw [e2]; exact g1) (by rw [e2]; omega) e3
theorem Low.perm {es es' : Array (Int × Value)} (l : Low es) (p : es'.toList.Perm es.toList) : Low es' := fun k hk => l k ((p.map keyOf).mem_iff.mp hk)
theorem Mem.perm {S : Int → Bool} {es es' : Array (Int × Value)} (m : Mem S es) (p : es'.toList.Perm es.toList) : Mem S es' := fun k => (m k).trans (p.map keyOf).mem_iff.symm
/-- walked, where nobody sees the order -/
theorem SX.walkU {others : List Addr} {f : Addr} {ef : Array (Int × Value)} {epf : Nat} {tf : SetTable} {Q : Array (Int × Value) → Shared → Prop} (X : SX w s.heap a es ep t) (Xf : SX w s.heap f ef epf tf) (ho : ∀ b ∈ others, ∃ es ep t, SX w s.heap b es ep t)
    (h : ∀ es' h' d ep' t', es'.toList.Perm es.toList → Heap.SameBut f s.heap h' → SX w h' f ef ep' t' → Q es' { s with heap := h', drawn := d }) : wpAny (model P w) A (setWalkUnseen a others (some f)) Q E s := by
  have viaWalk : wpAny (model P w) A (setWalk a) Q E s := X.walk fun es' d p => h es' s.heap d epf tf p (Heap.SameBut.refl f s.heap) Xf
  unfold setWalkUnseen
  refine wpAny_bind (X.state ?_)
  dsimp only
  refine wpAny_bind (wpAny_byText ?_)
  by_cases c : (w.params.followText "set-order" || (t.led && t.plain) || decide (es.size ≤ 1)) = true
  · refine wp_if_pos c ?_
    first | exact viaWalk | exact wpAny_bind (wpAny_mono viaWalk (fun u s' q => wpAny_pure q) fun _ _ q => q)
  · refine wp_if_neg c ?_
    refine wpAny_bind (quiet_ok (a :: others) (fun b hb => ?_) ?_)
    · rcases List.mem_cons.mp hb with e | e
      · rw [e]
        exact ⟨_, _, _, X⟩
      · exact ho b e
    · refine wp_if_neg (by simp) ?_
      refine wpAny_bind (wpAny_rule ?_)
      refine wpAny_bind (Xf.state ?_)
      dsimp only
      have hb : w.params.followText "set-order" = false := by
        cases q : w.params.followText "set-order" with
        | false => rfl
        | true => rw [q] at c; exact absurd rfl c
      have hl : t.led = true := by
        rcases X.led with z | z
        · rw [hb] at z; cases z
        · exact z
      split
      · refine wpAny_bind (Xf.store Xf.good Xf.nd Xf.small ?_ Xf.ris (Xf.led.imp id fun z => ?_) fun h' sb X' => ?_)
        · exact Xf.fits
        · show (tf.led && t.led) = true
          rw [z, hl]
          rfl
        · exact wpAny_pure (h es h' s.drawn _ _ (List.Perm.refl _) sb X')
      · exact wpAny_pure (h es s.heap s.drawn epf tf (List.Perm.refl _) (Heap.SameBut.refl f s.heap) Xf)
end
end SetT


set_option Elab.async false
set_option linter.all false
set_option maxRecDepth 100000
set_option maxHeartbeats 4000000
/-! Sets of small whole numbers: one merged into another. -/
namespace SetT
open PySem PySem.Spec PyProof.Rows L2
/-- at a: the set S of at most c numbers; empty: its table can be filled -/
def Res (w : World) (h : Heap) (a : Addr) (S : Int → Bool) (c : Nat) (fl : Prop) : Prop := ∃ es ep t, SX w h a es ep t ∧ Mem S es ∧ es.size ≤ c ∧ (es.size = 0 → GoodM t.mask ∧ t.dummies = #[]) ∧ (fl → t.dummies = #[])
def LowS (S : Int → Bool) : Prop := ∀ k, S k = true → 0 ≤ k ∧ k < 64
theorem LowS.low {S : Int → Bool} {es : Array (Int × Value)} (l : LowS S) (m : Mem S es) : Low es := fun k hk => l k ((m k).mpr hk)
theorem Res.setR {w : World} {h : Heap} {a : Addr} {S : Int → Bool} {c : Nat} {fl : Prop} (R : Res w h a S c fl) : ∃ n, n ≤ c ∧ SetR w h a S n := by
  obtain ⟨es, ep, t, X, m, hc, _, _⟩ := R
  exact ⟨es.size, hc, X.setR m⟩
section
variable {P : Program} {w : World} {A : Around} {E : Value → Shared → Prop} {s : Shared} {a o : Addr} {es eo : Array (Int × Value)} {ep epo : Nat} {t to : SetTable}
theorem SX.room {more : Nat} {Q : Unit → Shared → Prop} (X : SX w s.heap a es ep t) (lo : Low es) (hm : es.size + more < 64) (hM : es.size = 0 → GoodM t.mask ∧ t.dummies = #[]) (hpos : 0 < more)
    (h : ∀ h' es' ep' t', Heap.SameBut a s.heap h' → SX w h' a es' ep' t' → es'.toList.Perm es.toList → (t'.fill = 0 → GoodM t'.mask ∧ more ≤ t'.mask) → (es.size = 0 ∧ t.dummies = #[] → t'.fill = 0) → Q () { s with heap := h' }) : wpAny (model P w) A (setRoomFor a more) Q E s := by
  unfold setRoomFor
  refine wpAny_bind (X.state ?_)
  dsimp only
  have hp : t.place.size = es.size := by
    have := X.fits
    unfold SetTable.fits at this
    rw [Bool.and_eq_true] at this
    exact beq_iff_eq.mp this.1
  unfold SetTable.roomFor
  by_cases c : (t.fill + more) * 5 ≥ t.mask * 3
  · rw [if_pos c]
    dsimp only
    refine X.relay lo (by rw [hp]; omega) (by rw [hp]; omega) fun h' es' t' sb X' pm g hw hd => ?_
    refine h h' es' _ t' sb X' pm (fun _ => ⟨g, by omega⟩) fun ⟨z, _⟩ => ?_
    have hp' : t'.place.size = es'.size := by
      have := X'.fits
      unfold SetTable.fits at this
      rw [Bool.and_eq_true] at this
      exact beq_iff_eq.mp this.1
    have hl := pm.length_eq
    rw [Array.length_toList, Array.length_toList] at hl
    unfold SetTable.fill
    rw [hd, hp', hl, z]
    rfl
  · rw [if_neg c]
    dsimp only
    refine wpAny_pure (h s.heap es ep t (Heap.SameBut.refl a s.heap) X (List.Perm.refl _) (fun hf => ?_) fun ⟨z, z2⟩ => by unfold SetTable.fill; rw [z2, hp, z]; rfl)
    have h0 : es.size = 0 := by
      unfold SetTable.fill at hf
      omega
    obtain ⟨g, _⟩ := hM h0
    exact ⟨g, by rw [hf] at c; omega⟩
theorem setMerge_eq (s o : Addr) (each : Sem Unit) : setMerge s o each = (do
  if s == o then return
  let (eo, epoch, to) ← setState o
  if eo.isEmpty then return
  setRoomFor s eo.size
  let (_, _, ts) ← setState s
  match ts.road to with
  | .slotForSlot => storeSet s eo { to with finger := ts.finger, led := ts.led && to.led, moves := ts.moves, plain := ts.plain && to.plain }
  | .clean =>
    let (es, t) ← (do
      let some (t, order) := (SetTable.laid ts.mask ts.finger ts.moves (led := ts.led && to.led) (plain := ts.plain && to.plain) (eo.map (·.1))) | unsupported "internal:set-table-without-room"
      let es' := order.filterMap (eo[·]?)
      if es'.size != eo.size then unsupported "internal:set-table-lost-an-element"
      pure (es', t))
    storeSet s es t
  | .oneByOne =>
    for (h, x) in ← setWalkUnseen o [s] (some s) do
      let _ ← holding [x] (setAddHashed s x h)
      each
      if (← setState o).2.1 != epoch then unsupported "set.changed-during-merge") := rfl
theorem merge_at {S So : Int → Bool} {each : Sem Unit} {Q : Unit → Shared → Prop} (X : SX w s.heap a es ep t) (Xo : SX w s.heap o eo epo to) (hne : a ≠ o) (m : Mem S es) (mo : Mem So eo) (lo : LowS S) (loo : LowS So) (hsz : es.size + eo.size < 64)
    (hM : es.size = 0 → GoodM t.mask ∧ t.dummies = #[]) (hE : ∀ (s1 : Shared) (Q' : Unit → Shared → Prop), SX w s1.heap o eo epo to → Q' () s1 → wpAny (model P w) A each Q' E s1)
    (h : ∀ h' d, Heap.SameBut a s.heap h' → Res w h' a (fun k => S k || So k) (es.size + eo.size) (es.size = 0 ∧ t.dummies = #[]) → Q () { s with heap := h', drawn := d }) : wpAny (model P w) A (setMerge a o each) Q E s := by
  rw [setMerge_eq]
  have hb : (a == o) = false := by simpa using hne
  rw [hb]
  refine wp_if_neg (by simp) ?_
  refine wpAny_bind (Xo.state ?_)
  dsimp only
  by_cases c0 : eo.size = 0
  · refine wp_if_pos (by simpa [Array.isEmpty] using c0) ?_
    refine wpAny_pure (h s.heap s.drawn (Heap.SameBut.refl a s.heap) ⟨es, ep, t, X, fun k => ?_, by omega, hM, fun z => z.2⟩)
    have hso : So k = false := by
      cases q : So k with
      | false => rfl
      | true =>
        have := (mo k).mp q
        rw [Array.size_eq_zero_iff.mp c0] at this
        simp at this
    show (S k || So k) = true ↔ _
    rw [hso, Bool.or_false]
    exact m k
  refine wp_if_neg (by simpa [Array.isEmpty] using c0) ?_
  refine wpAny_bind (X.room (lo.low m) (by omega) hM (by omega) fun h1 es1 ep1 t1 sb1 X1 pm1 hg1 hf1 => ?_)
  have Xo1 : SX w h1 o eo epo to := Xo.keep fun ob q => by rw [sb1.2 o (Ne.symm hne)]; exact q
  have hes1 : es1.size = es.size := by
    have := pm1.length_eq
    rw [Array.length_toList, Array.length_toList] at this
    exact this
  refine wpAny_bind (X1.state ?_)
  dsimp only
  have hp1 : t1.place.size = es1.size := by
    have := X1.fits
    unfold SetTable.fits at this
    rw [Bool.and_eq_true] at this
    exact beq_iff_eq.mp this.1
  have emp : t1.fill = 0 → ∀ k, S k = false := fun hf k => by
    cases q : S k with
    | false => rfl
    | true =>
      have := (m k).mp q
      have e0 : es.size = 0 := by
        unfold SetTable.fill at hf
        omega
      rw [Array.size_eq_zero_iff.mp e0] at this
      simp at this
  unfold SetTable.road
  by_cases cf : t1.fill = 0
  · have hS := emp cf
    have meq : ∀ {es' : Array (Int × Value)}, es'.toList.Perm eo.toList → Mem (fun k => S k || So k) es' := fun p k => by
      show (S k || So k) = true ↔ _
      rw [hS k, Bool.false_or]
      exact mo.perm p k
    rw [if_neg (by simp [cf])]
    by_cases cs : (t1.mask == to.mask && to.dummies.isEmpty) = true
    · rw [if_pos cs]
      dsimp only
      refine X1.store Xo.good Xo.nd Xo.small ?_ Xo.ris ?_ fun h2 sb2 X2 => ?_
      · exact Xo.fits
      · rcases X1.led with z | z
        · exact .inl z
        · rcases Xo.led with z2 | z2
          · exact .inl z2
          · exact .inr (by show (t1.led && to.led) = true; rw [z, z2]; rfl)
      · refine h h2 s.drawn (sb1.trans sb2) ⟨_, _, _, X2, meq (List.Perm.refl _), by omega, fun z => absurd z c0, fun _ => ?_⟩
        rw [Bool.and_eq_true] at cs
        exact Array.isEmpty_iff.mp cs.2
    · rw [if_neg cs]
      dsimp only
      obtain ⟨g1, g2⟩ := hg1 cf
      obtain ⟨t', order, e1, e2, e3, e4, e5, e6, e7⟩ := laid_ok (finger := t1.finger) (moves := t1.moves) (led := t1.led && to.led) (plain := t1.plain && to.plain) g1 (hs := eo.map (·.1)) (by rw [Array.size_map]; omega) ((loo.low mo).bits Xo.good)
      rw [Array.size_map] at e6 e7
      have pm := order_perm e7
      have hsz2 : (order.filterMap (eo[·]?)).size = eo.size := by
        have := pm.length_eq
        rw [Array.length_toList, Array.length_toList] at this
        exact this
      rw [e1]
      dsimp only
      have ec : ((order.filterMap (eo[·]?)).size != eo.size) = false := by
        rw [hsz2]
        simp
      rw [ec]
      refine wpAny_bind (wpAny_pure ?_)
      dsimp only
      refine X1.store (fun e he => Xo.good e (pm.mem_iff.mp he)) ((pm.map keyOf).nodup_iff.mpr Xo.nd) (by rw [hsz2]; exact Xo.small) (by rw [hsz2]; exact e6) e5 ?_ fun h2 sb2 X2 => ?_
      · rcases X1.led with z | z
        · exact .inl z
        · rcases Xo.led with z2 | z2
          · exact .inl z2
          · exact .inr (by rw [e4, z, z2]; rfl)
      · exact h h2 s.drawn (sb1.trans sb2) ⟨_, _, _, X2, meq pm, by rw [hsz2]; omega, fun z => absurd (hsz2 ▸ z) c0, fun _ => e3⟩
  · rw [if_pos (by simp [cf])]
    dsimp only
    refine wpAny_bind (SX.walkU (s := { s with heap := h1 }) Xo1 X1 (fun b hb => ?_) fun es2 h2 d2 ep2 t2 pm2 sb2 X2 => ?_)
    · rw [List.mem_singleton.mp hb]
      exact ⟨_, _, _, X1⟩
    · have Xo2 : SX w h2 o eo epo to := Xo1.keep fun ob q => by rw [sb2.2 o (Ne.symm hne)]; exact q
      have R2 : SetR w h2 a S es1.size := X2.setR (m.perm pm1)
      have hl2 : es2.toList.length = eo.size := by rw [pm2.length_eq, Array.length_toList]
      refine wpAny_bind ?_
      refine wpAny_forIn_array' _ (fun rest _ s1 => ∃ h3 S3 c3, s1 = { s with heap := h3, drawn := d2 } ∧ Heap.SameBut a h2 h3 ∧ SetR w h3 a S3 c3 ∧ c3 + rest.length ≤ es.size + eo.size ∧ (∀ e ∈ rest, GoodE e) ∧ (∀ k, (S3 k = true ∨ k ∈ rest.map keyOf) ↔ (S k = true ∨ So k = true)))
        _ ?_ ?_ _ _ ⟨h2, S, es1.size, rfl, Heap.SameBut.refl a h2, R2, by omega, fun e he => Xo.good e (pm2.mem_iff.mp he), fun k => by rw [(mo.perm pm2 k)]⟩
      · rintro ⟨hh, x⟩ rest _ s1 ⟨h3, S3, c3, rfl, sb3, R3, hc3, hg3, hk3⟩
        obtain ⟨k, tk, e1, e2⟩ := hg3 _ (List.mem_cons_self ..)
        dsimp only at e1 e2
        subst e1 e2
        rw [List.length_cons] at hc3
        have hkey : keyOf (hashInt k, Value.int k tk) = k := rfl
        have sc : scanBound = 4096 := rfl
        refine wpAny_bind (wpAny_holding ?_)
        refine setR_add_hashed (s := { s with heap := h3, drawn := d2 }) (k := k) (tk := tk) R3 (by omega) fun h4 sb4 R4 => ?_
        have Xo4 : SX w h4 o eo epo to := (Xo2.keep fun ob q => by rw [sb3.2 o (Ne.symm hne)]; exact q).keep fun ob q => by rw [sb4.2 o (Ne.symm hne)]; exact q
        refine wpAny_bind (hE _ _ Xo4 ?_)
        refine wpAny_bind (Xo4.state ?_)
        have en : (epo != epo) = false := by simp
        dsimp only
        rw [en]
        refine wp_if_neg (by simp) ?_
        refine wpAny_pure ⟨h4, _, _, rfl, sb3.trans sb4, R4, ?_, fun e he => hg3 e (List.mem_cons_of_mem _ he), fun j => ?_⟩
        · split <;> omega
        · rw [← hk3 j, List.map_cons, hkey]
          simp only [Bool.or_eq_true, decide_eq_true_eq, List.mem_cons]
          constructor
          · rintro ((z | z) | z)
            · exact .inl z
            · exact .inr (.inl z)
            · exact .inr (.inr z)
          · rintro (z | z | z)
            · exact .inl (.inl z)
            · exact .inl (.inr z)
            · exact .inr z
      · rintro _ s1 ⟨h3, S3, c3, rfl, sb3, R3, hc3, _, hk3⟩
        have eS : ∀ k, (fun k => S k || So k) k = S3 k := fun k => by
          have := hk3 k
          rw [List.map_nil] at this
          simp only [List.not_mem_nil, or_false] at this
          cases q1 : S3 k <;> cases q2 : S k <;> cases q3 : So k <;> simp_all
        have R4 := R3.congr eS
        obtain ⟨es4, ep4, t4, X4, m4, hn4⟩ := sx_of R4
        refine wpAny_pure (h h3 d2 ((sb1.trans sb2).trans sb3) ⟨es4, ep4, t4, X4, m4, ?_, fun z => ?_, fun z => absurd (hf1 z) cf⟩)
        · simp at hc3
          omega
        · exfalso
          obtain ⟨e0, he0⟩ : ∃ e0, e0 ∈ eo.toList := List.exists_mem_of_ne_nil _ fun q => c0 (by rw [← Array.length_toList, q]; rfl)
          have hk0 : So (keyOf e0) = true := (mo _).mpr (List.mem_map.mpr ⟨e0, he0, rfl⟩)
          have := (m4 (keyOf e0)).mp (by show (S (keyOf e0) || So (keyOf e0)) = true; rw [hk0, Bool.or_true])
          rw [Array.size_eq_zero_iff.mp z] at this
          simp at this
end
end SetT


set_option Elab.async false
set_option linter.all false
set_option maxRecDepth 100000
set_option maxHeartbeats 4000000
namespace SetT
open PySem PySem.Spec PyProof.Rows L2
theorem entry_or : entryFor table "set.__or__" = some Builtin.«frozenset.__or__» := entryFor_alias (id' := "frozenset.__or__") (by kernel_rfl) rfl (by decide +kernel) (by kernel_rfl)
theorem entry_and : entryFor table "set.__and__" = some Builtin.«frozenset.__and__» := entryFor_alias (id' := "frozenset.__and__") (by kernel_rfl) rfl (by decide +kernel) (by kernel_rfl)
theorem entry_sub : entryFor table "set.__sub__" = some Builtin.«frozenset.__sub__» := entryFor_alias (id' := "frozenset.__sub__") (by kernel_rfl) rfl (by decide +kernel) (by kernel_rfl)
end SetT


set_option Elab.async false
set_option linter.all false
set_option maxRecDepth 100000
set_option maxHeartbeats 4000000
/-! Sets of small whole numbers: a | b, a & b, a - b. -/
namespace SetT
open PySem PySem.Spec PyProof.Rows L2
section
variable {P : Program} {w : World} {A : Around} {E : Value → Shared → Prop} {s : Shared} {a o : Addr} {es eo : Array (Int × Value)} {ep epo : Nat} {t to : SetTable}
def freshObj (w : World) : Obj := { cls := .type "set", dict := none, data := .set #[] 0 (.fresh 0 0 (!w.params.followText "set-order")) }
theorem newSet_at {Q : Value → Shared → Prop} (h : Q (.ref s.heap.objs.size) { s with heap := s.heap.push (freshObj w) }) : wpAny (model P w) A (newSet (.type "set")) Q E s := by
  unfold newSet setsByText
  refine wpAny_bind (wpAny_bind (wpAny_askSetting (wpAny_pure ?_)))
  dsimp only
  simp only [newObj]
  exact wpAny_bind (wpAny_alloc (wpAny_pure h))
theorem fresh_sx {h : Heap} (w : World) : SX w (h.push (freshObj w)) h.objs.size #[] 0 (.fresh 0 0 (!w.params.followText "set-order")) :=
  ⟨⟨_, Heap.get?_push_size _ rfl, ⟨rfl, rfl, rfl⟩, rfl⟩, (fun e he => by simp at he), (by simp), (by decide), (by rfl), List.Pairwise.nil, by
    show _ ∨ (!w.params.followText "set-order") = true
    cases w.params.followText "set-order"
    · exact .inr rfl
    · exact .inl rfl⟩
theorem SX.anySet {Q : Bool → Shared → Prop} (X : SX w s.heap a es ep t) (h : Q true s) : wpAny (model P w) A (Builtin.Frozenset.isAnySet (.ref a)) Q E s := by
  unfold Builtin.Frozenset.isAnySet orM
  refine wpAny_bind (wpAny_isInstance (b := true) X.typeIs sub_set_self ?_)
  exact wpAny_pure h
theorem SX.base {Q : Value → Shared → Prop} (X : SX w s.heap a es ep t) (h : Q (.type "set") s) : wpAny (model P w) A (Builtin.Frozenset.baseOf a) Q E s := by
  unfold Builtin.Frozenset.baseOf
  refine wpAny_bind (wpAny_isInstance (b := true) X.typeIs sub_set_self ?_)
  exact wpAny_pure h
theorem SX.push (X : SX w s.heap a es ep t) (x : Obj) : SX w (s.heap.push x) a es ep t := X.keep fun _ q => Heap.get?_push_of_some _ q
theorem SX.ne_new (X : SX w s.heap a es ep t) : s.heap.objs.size ≠ a := Nat.ne_of_gt X.lt
/-- a new heap: all old things stay, at the new place stands S -/
def NewS (w : World) (h h' : Heap) (S : Int → Bool) (c : Nat) (fl : Prop) : Prop := (∀ b u, h.get? b = some u → h'.get? b = some u) ∧ Res w h' h.objs.size S c fl
theorem keep_new {h h' : Heap} {x : Obj} (sb : Heap.SameBut h.objs.size (h.push x) h') : ∀ b u, h.get? b = some u → h'.get? b = some u := fun b u q => by
  rw [sb.2 b (Nat.ne_of_lt (Heap.lt_size q))]
  exact Heap.get?_push_of_some _ q
/-- a copy -/
theorem copy_at {S : Int → Bool} {Q : Value → Shared → Prop} (X : SX w s.heap a es ep t) (m : Mem S es) (lo : LowS S) (hs : es.size < 64)
    (h : ∀ h' d, NewS w s.heap h' S es.size True → Q (.ref s.heap.objs.size) { s with heap := h', drawn := d }) : wpAny (model P w) A (Builtin.Frozenset.copyOf a) Q E s := by
  unfold Builtin.Frozenset.copyOf
  refine wpAny_bind (X.base ?_)
  refine wpAny_bind (newSet_at ?_)
  unfold Builtin.Frozenset.addrOf
  refine wpAny_bind (wpAny_pure ?_)
  refine wpAny_bind (merge_at (s := { s with heap := s.heap.push (freshObj w) }) (S := fun _ => false) (So := S) (fresh_sx w) (X.push _) X.ne_new (fun k => by simp) m (fun k z => nomatch z) lo (by simp; exact hs) (fun _ => ⟨.inl rfl, rfl⟩) (fun s1 Q' _ q => wpAny_pure q) fun h' d sb R => ?_)
  refine wpAny_pure (h h' d ⟨keep_new sb, ?_⟩)
  obtain ⟨es', ep', t', X', m', hc, hM, hF⟩ := R
  exact ⟨es', ep', t', X', fun k => by rw [← m' k]; simp, by simpa using hc, hM, fun _ => hF ⟨rfl, rfl⟩⟩
theorem Res.mono {h : Heap} {S S' : Int → Bool} {c c' : Nat} {fl : Prop} (R : Res w h a S c fl) (e : ∀ k, S' k = S k) (hc : c ≤ c') : Res w h a S' c' False := by
  obtain ⟨es, ep, t, X, m, h1, h2, _⟩ := R
  exact ⟨es, ep, t, X, fun k => by rw [e k]; exact m k, Nat.le_trans h1 hc, h2, fun z => z.elim⟩
theorem or_at {S So : Int → Bool} {Q : Value → Shared → Prop} (X : SX w s.heap a es ep t) (Xo : SX w s.heap o eo epo to) (hne : a ≠ o) (m : Mem S es) (mo : Mem So eo) (lo : LowS S) (loo : LowS So) (hsz : es.size + eo.size < 64)
    (h : ∀ h' d, NewS w s.heap h' (fun k => S k || So k) (es.size + eo.size) False → Q (.ref s.heap.objs.size) { s with heap := h', drawn := d }) : wpAny (model P w) A (binaryOp .BitOr (.ref a) (.ref o)) Q E s := by
  refine wpAny_binaryOp_same X.typeIs Xo.typeIs PySem.F.fills_set_or PySem.F.slot_set_or (wpAny_call_entry PySem.F.slot_set_or X.typeIs entry_or ?_ (PySem.F.args_set_or_2 _ _))
  unfold Builtin.«frozenset.__or__»
  refine wpAny_bind (m := Builtin.Frozenset.slot1 "__or__" _) (wpAny_of_eq (a := (.ref a, .ref o)) (by rfl) ?_)
  dsimp only
  refine wpAny_bind ?_
  refine wpAny_bind (X.anySet ?_)
  show wpAny _ _ (Builtin.Frozenset.isAnySet (.ref o)) _ _ _
  refine Xo.anySet ?_
  refine wp_if_neg (by simp) ?_
  unfold Builtin.Frozenset.addrOf
  refine wpAny_bind (wpAny_pure ?_)
  refine wpAny_bind ?_
  show wpAny _ _ (do
    let result ← Builtin.Frozenset.copyOf a
    if (Value.ref o) != .ref a then
      let x ← Builtin.Frozenset.addrOf result
      holding [result] (Builtin.Frozenset.updateFrom "frozenset.__or__" x (.ref o))
    return result) _ _ _
  refine wpAny_bind (copy_at X m lo (by omega) fun h1 d1 N1 => ?_)
  have hra : (Value.ref o != Value.ref a) = true := by simpa using (Ne.symm hne)
  refine wp_if_pos hra ?_
  obtain ⟨k1, es1, ep1, t1, X1, m1, hc1, hM1, _⟩ := N1
  have Xo1 : SX w h1 o eo epo to := Xo.keep fun ob q => k1 _ _ q
  unfold Builtin.Frozenset.addrOf
  refine wpAny_bind (wpAny_pure ?_)
  refine wpAny_bind (wpAny_holding ?_)
  unfold Builtin.Frozenset.updateFrom
  refine wpAny_bind (SX.anySet (s := { s with heap := h1, drawn := d1 }) Xo1 ?_)
  refine wp_if_pos rfl ?_
  unfold Builtin.Frozenset.addrOf Builtin.Frozenset.merge
  refine wpAny_bind (wpAny_pure ?_)
  refine wpAny_bind (SX.epoch (s := { s with heap := h1, drawn := d1 }) Xo1 ?_)
  refine merge_at (s := { s with heap := h1, drawn := d1 }) X1 Xo1 Xo.ne_new m1 mo lo loo (by omega) hM1 (fun s1 Q' Xs q => ?_) fun h2 d2 sb2 R2 => ?_
  · unfold Builtin.Frozenset.unchanged
    refine wpAny_bind (Xs.epoch ?_)
    refine wp_if_neg (by simp) ?_
    exact wpAny_pure q
  · refine wpAny_pure ?_
    refine wpAny_pure ⟨_, rfl, (fun z => nomatch z), h h2 d2 ⟨fun b u q => ?_, R2.mono (fun _ => rfl) (by omega)⟩⟩
    rw [sb2.2 b (Nat.ne_of_lt (Heap.lt_size q))]
    exact k1 _ _ q
end
end SetT


set_option Elab.async false
set_option linter.all false
set_option maxRecDepth 100000
set_option maxHeartbeats 4000000
namespace SetT
open PySem PySem.Spec PyProof.Rows L2
section
variable {P : Program} {w : World} {A : Around} {E : Value → Shared → Prop} {s : Shared} {a o : Addr} {es eo : Array (Int × Value)} {ep epo : Nat} {t to : SetTable}
/-- of the walked set (at a) those that p asks for go into the set at r -/
theorem pick_loop {r : Addr} {S Sr p : Int → Bool} {cr : Nat} {body : Int × Value → PUnit → Sem (ForInStep PUnit)} {Q : PUnit → Shared → Prop} (es2 : Array (Int × Value)) (pm : es2.toList.Perm es.toList) (X : SX w s.heap a es ep t) (hne : r ≠ a) (m : Mem S es) (R : SetR w s.heap r Sr cr) (he : ∀ k, Sr k = false) (hsz : cr + es.size < 128) (G : Heap → Prop) (hG : ∀ h', Heap.SameBut r s.heap h' → G h')
    (hbody : ∀ (k : Int) (tk : Tok) (s1 : Shared) (Q' : ForInStep PUnit → Shared → Prop) (S1 : Int → Bool) (c1 : Nat), G s1.heap → SX w s1.heap a es ep t → SetR w s1.heap r S1 c1 → c1 < 128 →
      (∀ h' c', Heap.SameBut r s1.heap h' → c' ≤ c1 + 1 → SetR w h' r (fun j => S1 j || (decide (j = k) && p k)) c' → Q' (.yield ⟨⟩) { s1 with heap := h' }) → wpAny (model P w) A (body (hashInt k, .int k tk) ⟨⟩) Q' E s1)
    (h : ∀ h' c, Heap.SameBut r s.heap h' → SetR w h' r (fun k => S k && p k) c → c ≤ cr + es.size → Q ⟨⟩ { s with heap := h' }) : wpAny (model P w) A (forIn es2 ⟨⟩ body) Q E s := by
  have hl2 : es2.toList.length = es.size := by rw [pm.length_eq, Array.length_toList]
  refine wpAny_forIn_array' _ (fun rest _ s1 => ∃ h3 S3 c3, s1 = { s with heap := h3 } ∧ Heap.SameBut r s.heap h3 ∧ SetR w h3 r S3 c3 ∧ c3 + rest.length ≤ cr + es.size ∧ (∀ e ∈ rest, GoodE e) ∧ (∀ k, (S3 k = true ∨ (k ∈ rest.map keyOf ∧ p k = true)) ↔ (S k = true ∧ p k = true)))
    _ ?_ ?_ _ _ ⟨s.heap, Sr, cr, rfl, Heap.SameBut.refl r s.heap, R, by omega, fun e he => X.good e (pm.mem_iff.mp he), fun k => by rw [(m.perm pm k), he k]; simp⟩
  · rintro ⟨hh, x⟩ rest u s1 ⟨h3, S3, c3, rfl, sb3, R3, hc3, hg3, hk3⟩
    obtain ⟨k, tk, e1, e2⟩ := hg3 _ (List.mem_cons_self ..)
    dsimp only at e1 e2
    subst e1 e2
    rw [List.length_cons] at hc3
    have hkey : keyOf (hashInt k, Value.int k tk) = k := rfl
    refine hbody k tk { s with heap := h3 } _ S3 c3 (hG h3 sb3) (X.keep fun ob q => by rw [sb3.2 a (Ne.symm hne)]; exact q) R3 (by omega) fun h4 c4 sb4 hc4 R4 => ?_
    refine ⟨h4, _, c4, rfl, sb3.trans sb4, R4, by omega, fun e he => hg3 e (List.mem_cons_of_mem _ he), fun j => ?_⟩
    rw [← hk3 j, List.map_cons, hkey]
    simp only [Bool.or_eq_true, Bool.and_eq_true, decide_eq_true_eq, List.mem_cons]
    constructor
    · rintro ((z | ⟨rfl, z⟩) | ⟨z, z2⟩)
      · exact .inl z
      · exact .inr ⟨.inl rfl, z⟩
      · exact .inr ⟨.inr z, z2⟩
    · rintro (z | ⟨rfl | z, z2⟩)
      · exact .inl (.inl z)
      · exact .inl (.inr ⟨rfl, z2⟩)
      · exact .inr ⟨z, z2⟩
  · rintro u s1 ⟨h3, S3, c3, rfl, sb3, R3, hc3, _, hk3⟩
    have eS : ∀ k, (fun k => S k && p k) k = S3 k := fun k => by
      have := hk3 k
      rw [List.map_nil] at this
      simp only [List.not_mem_nil, false_and, or_false] at this
      cases q1 : S3 k <;> cases q2 : S k <;> cases q3 : p k <;> simp_all
    exact h h3 c3 sb3 (R3.congr eS) (by simp at hc3; omega)
theorem find_at {S : Int → Bool} {n : Nat} {k : Int} {tk : Tok} {Q : Option Nat → Shared → Prop} (R : SetR w s.heap a S n) (h : ∀ r : Option Nat, r.isSome = S k → Q r s) : wpAny (model P w) A (setFind a (.int k tk) (hashInt k)) Q E s :=
  wpAny_setFind_of (knd := intKind P w) (intKind_is P w k tk) rfl R.setOf h
/-- a & b -/
theorem and_at {S So : Int → Bool} {Q : Value → Shared → Prop} (X : SX w s.heap a es ep t) (Xo : SX w s.heap o eo epo to) (hne : a ≠ o) (m : Mem S es) (mo : Mem So eo) (hsz : es.size + eo.size < 64)
    (h : ∀ h' d c, (∀ b u, s.heap.get? b = some u → h'.get? b = some u) → SetR w h' s.heap.objs.size (fun k => S k && So k) c → c < 64 → Q (.ref s.heap.objs.size) { s with heap := h', drawn := d }) : wpAny (model P w) A (binaryOp .BitAnd (.ref a) (.ref o)) Q E s := by
  refine wpAny_binaryOp_same X.typeIs Xo.typeIs PySem.F.fills_set_and PySem.F.slot_set_and (wpAny_call_entry PySem.F.slot_set_and X.typeIs entry_and ?_ (PySem.F.args_set_and_2 _ _))
  unfold Builtin.«frozenset.__and__»
  refine wpAny_bind (m := Builtin.Frozenset.slot1 "__and__" _) (wpAny_of_eq (a := (.ref a, .ref o)) (by rfl) ?_)
  dsimp only
  refine wpAny_bind ?_
  refine wpAny_bind (X.anySet ?_)
  show wpAny _ _ (Builtin.Frozenset.isAnySet (.ref o)) _ _ _
  refine Xo.anySet ?_
  refine wp_if_neg (by simp) ?_
  unfold Builtin.Frozenset.addrOf
  refine wpAny_bind (wpAny_pure ?_)
  refine wpAny_bind ?_
  show wpAny _ _ (Builtin.Frozenset.intersection _ a (.ref o)) _ _ _
  unfold Builtin.Frozenset.intersection
  have hra : (Value.ref o == Value.ref a) = false := by simpa using (Ne.symm hne)
  refine wp_if_neg (by rw [hra]; exact Bool.false_ne_true) ?_
  refine wpAny_bind (X.base ?_)
  refine wpAny_bind (newSet_at ?_)
  unfold Builtin.Frozenset.addrOf
  refine wpAny_bind (wpAny_pure ?_)
  have F := fresh_sx (h := s.heap) w
  have X1 := X.push (freshObj w)
  have Xo1 := Xo.push (freshObj w)
  have n1 := X.ne_new
  have n2 := Xo.ne_new
  refine wpAny_bind (wpAny_holding ?_)
  refine wpAny_bind (SX.anySet (s := { s with heap := s.heap.push (freshObj w) }) Xo1 ?_)
  refine wp_if_pos rfl ?_
  refine wpAny_bind (wpAny_pure ?_)
  unfold Builtin.Frozenset.sizeOf
  refine wpAny_bind (wpAny_bind (SX.entries (s := { s with heap := s.heap.push (freshObj w) }) Xo1 (wpAny_pure ?_)))
  refine wpAny_bind (wpAny_bind (SX.entries (s := { s with heap := s.heap.push (freshObj w) }) X1 (wpAny_pure ?_)))
  -- the walked one
  have go : ∀ (a1 o1 : Addr) (e1 eo1 : Array (Int × Value)) (p1 po1 : Nat) (t1 to1 : SetTable) (S1 So1 : Int → Bool), SX w (s.heap.push (freshObj w)) a1 e1 p1 t1 → SX w (s.heap.push (freshObj w)) o1 eo1 po1 to1 → s.heap.objs.size ≠ a1 → s.heap.objs.size ≠ o1 → Mem S1 e1 → Mem So1 eo1 → e1.size < 64 → (∀ k, (S1 k && So1 k) = (S k && So k)) →
      wpAny (model P w) A.in1 (do
        let was ← setEpoch a1
        for (h, x) in ← setWalkUnseen a1 [o1, s.heap.objs.size] (some s.heap.objs.size) do
          holding [x] do
            if (← setFind o1 x h).isSome then
              let _ ← setAddHashed s.heap.objs.size x h
          Builtin.Frozenset.unchanged (toString "frozenset." ++ toString "__and__") a1 was) (fun _ s' => wpAny (model P w) A.in1 (pure (Value.ref s.heap.objs.size)) (fun a s' => wpAny (model P w) A.in1 (ret a) (fun fin s' => ∃ v, fin = Fin.done (Flow.ret v) ∧ v ≠ Value.notImplemented ∧ Q v s') E s') E s') E { s with heap := s.heap.push (freshObj w) } := by
    intro a1 o1 e1 eo1 p1 po1 t1 to1 S1 So1 Y Yo na no mY mYo hz eq
    refine wpAny_bind (SX.epoch (s := { s with heap := s.heap.push (freshObj w) }) Y ?_)
    refine wpAny_bind (SX.walkU (s := { s with heap := s.heap.push (freshObj w) }) Y F (fun b hb => ?_) fun es2 h2 d2 ep2 t2 pm2 sb2 F2 => ?_)
    · rcases List.mem_cons.mp hb with z | z
      · rw [z]; exact ⟨_, _, _, Yo⟩
      · rw [List.mem_singleton.mp z]; exact ⟨_, _, _, F⟩
    have Y2 : SX w h2 a1 e1 p1 t1 := Y.keep fun ob q => by rw [sb2.2 a1 (Ne.symm na)]; exact q
    have Yo2 : SX w h2 o1 eo1 po1 to1 := Yo.keep fun ob q => by rw [sb2.2 o1 (Ne.symm no)]; exact q
    have R2 : SetR w h2 s.heap.objs.size (fun _ => false) 0 := F2.setR (fun k => by simp)
    refine wpAny_bind ?_
    refine pick_loop (s := { s with heap := h2, drawn := d2 }) (p := So1) es2 pm2 Y2 na mY R2 (fun _ => rfl) (by omega) (fun h' => SX w h' o1 eo1 po1 to1) (fun h' sb => Yo2.keep fun ob q => by rw [sb.2 o1 (Ne.symm no)]; exact q) (fun k tk s1 Q' S3 c3 G3 X3 R3 hc hq => ?_) fun h3 c3 sb3 R3 hc3 => ?_
    · dsimp only
      have Yr := G3.setR mYo
      refine wpAny_bind (wpAny_holding ?_)
      refine wpAny_bind (find_at Yr fun r hr => ?_)
      have sc : scanBound = 4096 := rfl
      rw [hr]
      cases c : So1 k with
      | true =>
        refine wp_if_pos rfl ?_
        refine wpAny_bind (setR_add_hashed R3 (by omega) fun h4 sb4 R4 => ?_)
        refine wpAny_pure ?_
        unfold Builtin.Frozenset.unchanged
        have X4 : SX w h4 a1 e1 p1 t1 := X3.keep fun ob q => by rw [sb4.2 a1 (Ne.symm na)]; exact q
        refine wpAny_bind (wpAny_bind (SX.epoch (s := { s1 with heap := h4 }) X4 ?_))
        refine wp_if_neg (by simp) ?_
        refine wpAny_pure (wpAny_pure ?_)
        refine hq h4 _ sb4 ?_ (R4.congr fun j => ?_)
        · split <;> omega
        · rw [c, Bool.and_true]
      | false =>
        refine wp_if_neg (by simp) ?_
        refine wpAny_pure ?_
        unfold Builtin.Frozenset.unchanged
        refine wpAny_bind (wpAny_bind (X3.epoch ?_))
        refine wp_if_neg (by simp) ?_
        refine wpAny_pure (wpAny_pure ?_)
        refine hq s1.heap c3 (Heap.SameBut.refl _ _) (by omega) (R3.congr fun j => ?_)
        rw [c, Bool.and_false, Bool.or_false]
    · refine wpAny_pure (wpAny_pure ?_)
      refine wpAny_pure ⟨_, rfl, (fun z => nomatch z), h h3 d2 c3 (keep_new (sb2.trans sb3)) (R3.congr fun k => ?_) (by omega)⟩
      exact (eq k).symm
  by_cases c : eo.size > es.size
  · rw [if_pos c]
    exact go a o es eo ep epo t to S So X1 Xo1 n1 n2 m mo (by omega) fun _ => rfl
  · rw [if_neg c]
    exact go o a eo es epo ep to t So S Xo1 X1 n2 n1 mo m (by omega) fun k => Bool.and_comm _ _
end
end SetT


set_option Elab.async false
set_option linter.all false
set_option maxRecDepth 100000
set_option maxHeartbeats 4000000
namespace SetT
open PySem PySem.Spec PyProof.Rows L2
section
variable {P : Program} {w : World} {A : Around} {E : Value → Shared → Prop} {s : Shared} {a o : Addr} {es eo : Array (Int × Value)} {ep epo : Nat} {t to : SetTable}
/-- walked, where nobody sees the order, nothing filled -/
theorem SX.walkU0 {others : List Addr} {Q : Array (Int × Value) → Shared → Prop} (X : SX w s.heap a es ep t) (ho : ∀ b ∈ others, ∃ es ep t, SX w s.heap b es ep t)
    (h : ∀ es' d, es'.toList.Perm es.toList → Q es' { s with drawn := d }) : wpAny (model P w) A (setWalkUnseen a others none) Q E s := by
  have viaWalk : wpAny (model P w) A (setWalk a) Q E s := X.walk fun es' d p => h es' d p
  unfold setWalkUnseen
  refine wpAny_bind (X.state ?_)
  dsimp only
  refine wpAny_bind (wpAny_byText ?_)
  by_cases c : (w.params.followText "set-order" || (t.led && t.plain) || decide (es.size ≤ 1)) = true
  · refine wp_if_pos c ?_
    first | exact viaWalk | exact wpAny_bind (wpAny_mono viaWalk (fun u s' q => wpAny_pure q) fun _ _ q => q)
  · refine wp_if_neg c ?_
    refine wpAny_bind (quiet_ok (a :: others) (fun b hb => ?_) ?_)
    · rcases List.mem_cons.mp hb with e | e
      · rw [e]
        exact ⟨_, _, _, X⟩
      · exact ho b e
    · refine wp_if_neg (by simp) ?_
      refine wpAny_bind (wpAny_rule ?_)
      exact wpAny_pure (h es s.drawn (List.Perm.refl _))
theorem find_ix {k : Int} {tk : Tok} {Q : Option Nat → Shared → Prop} (X : SX w s.heap a es ep t)
    (h0 : k ∉ es.toList.map keyOf → Q none s) (h1 : ∀ (i : Nat) (hi : i < es.toList.length), keyOf es.toList[i] = k → Q (some i) s) : wpAny (model P w) A (setFind a (.int k tk) (hashInt k)) Q E s := by
  obtain ⟨ob, ho, hex, hd⟩ := X.ob
  have hkey : (intKind P w).is k (.int k tk) = true := intKind_is P w k tk
  have hsc : (Value.int k tk).scannable = true := rfl
  have hel : ElemsOf (intKind P w) es.toList := good_elems X.good
  unfold setFind setFindIn
  refine wpAny_bind (wpAny_setState_of ho hd X.fits ?_)
  dsimp only
  rw [byScan_of hsc X.small hel]
  simp only [↓reduceIte]
  refine wpAny_bind (wpAny_rule ?_)
  refine wpAny_bind (wpAny_setScan_of (knd := intKind P w) hkey ho hd X.fits hel ?_)
  cases hr : List.findIdx? (fun e => (intKind P w).is k e.2) es.toList with
  | none =>
    dsimp only
    refine wpAny_pure (h0 fun z => ?_)
    obtain ⟨e, he, q⟩ := (good_mem (P := P) (w := w) X.good k).1 z
    have c := List.findIdx?_eq_none_iff.mp hr e he
    rw [q] at c
    cases c
  | some j =>
    dsimp only
    obtain ⟨hj, pj, _⟩ := List.findIdx?_eq_some_iff_getElem.mp hr
    refine wpAny_pure ?_
    have := h1 j hj ((good_is (P := P) (w := w) (X.good _ (List.getElem_mem hj)) k).mp pj)
    first | exact this | (rw [Nat.zero_add]; exact this)
theorem erase_list {α : Type} (xs : Array α) (i : Nat) : (SetTable.eraseAt xs i).toList = xs.toList.eraseIdx i := by
  unfold SetTable.eraseAt
  rw [Array.toList_append, Array.toList_extract, Array.toList_extract, List.eraseIdx_eq_take_drop_succ]
  simp only [List.extract_eq_take_drop, Nat.sub_zero, List.drop_zero]
  rw [List.take_of_length_le (l := List.drop (i + 1) xs.toList) (by rw [List.length_drop, Array.length_toList]; exact Nat.le_refl _)]
theorem erase_map {α β : Type} (f : α → β) : ∀ (l : List α) (i : Nat), (l.eraseIdx i).map f = (l.map f).eraseIdx i
  | [], i => by simp
  | a :: r, 0 => by simp
  | a :: r, i + 1 => by simp [erase_map f r i]
theorem nodup_inj {l : List Int} (nd : l.Nodup) {i j : Nat} (hi : i < l.length) (hj : j < l.length) (e : l[i] = l[j]) : i = j := by
  rcases Nat.lt_trichotomy i j with c | c | c
  · exact absurd e (List.pairwise_iff_getElem.mp nd i j hi hj c)
  · exact c
  · exact absurd e.symm (List.pairwise_iff_getElem.mp nd j i hj hi c)
/-- one taken out -/
theorem discard_at {S : Int → Bool} {k : Int} {tk : Tok} {Q : Bool → Shared → Prop} (X : SX w s.heap a es ep t) (m : Mem S es)
    (h : ∀ b h' es' ep' t', Heap.SameBut a s.heap h' → SX w h' a es' ep' t' → Mem (fun j => S j && !decide (j = k)) es' → es'.size ≤ es.size → t'.mask = t.mask → t'.dummies.size ≤ t.dummies.size + 1 → Q b { s with heap := h' }) :
    wpAny (model P w) A (setDiscardHashed a (.int k tk) (hashInt k)) Q E s := by
  unfold setDiscardHashed
  refine wpAny_bind (find_ix X (fun hk => ?_) fun i hi hk => ?_)
  · refine wpAny_pure (h false s.heap es ep t (Heap.SameBut.refl a s.heap) X (fun j => ?_) (Nat.le_refl _) rfl (by omega))
    show (S j && !decide (j = k)) = true ↔ _
    rw [Bool.and_eq_true, Bool.not_eq_true', decide_eq_false_iff_not, m j]
    refine ⟨fun z => z.1, fun z => ⟨z, fun e => hk (e ▸ z)⟩⟩
  · dsimp only
    refine wpAny_bind (X.state ?_)
    dsimp only
    have hle := erase_list es i
    have hi2 : i < es.size := by rw [← Array.length_toList]; exact hi
    have hsz : (SetTable.eraseAt es i).size = es.size - 1 := by
      rw [← Array.length_toList, hle, List.length_eraseIdx_of_lt hi, Array.length_toList]
    have hp : t.place.size = es.size := by
      have := X.fits
      unfold SetTable.fits at this
      rw [Bool.and_eq_true] at this
      exact beq_iff_eq.mp this.1
    have hfl : t.fill ≤ t.mask := by
      have := X.fits
      unfold SetTable.fits at this
      rw [Bool.and_eq_true] at this
      exact of_decide_eq_true this.2
    have hpi : t.place[i]? = some (t.place[i]'(by rw [hp]; exact hi2)) := Array.getElem?_eq_getElem _
    have hdr : t.drop i = { t with place := SetTable.eraseAt t.place i, dummies := SetTable.insertAt t.dummies (SetTable.below t.dummies (t.place[i]'(by rw [hp]; exact hi2))) (t.place[i]'(by rw [hp]; exact hi2)) } := by
      unfold SetTable.drop
      rw [hpi]
    have hpe : (SetTable.eraseAt t.place i).size = es.size - 1 := by
      rw [← Array.length_toList, erase_list, List.length_eraseIdx_of_lt (by rw [Array.length_toList, hp]; exact hi2), Array.length_toList, hp]
    have hin : ∀ (p : Nat) (x : Nat), (SetTable.insertAt t.dummies p x).size ≤ t.dummies.size + 1 := fun p x => by
      unfold SetTable.insertAt
      simp only [Array.size_append, Array.size_push, Array.size_extract]
      omega
    have key1 : (es.toList.eraseIdx i).map keyOf = (es.toList.map keyOf).eraseIdx i := erase_map keyOf _ _
    have hik : i < (es.toList.map keyOf).length := by rw [List.length_map]; exact hi
    have hkk : (es.toList.map keyOf)[i] = k := by rw [List.getElem_map]; exact hk
    refine wpAny_bind (X.store (fun e he => ?_) ?_ ?_ ?_ ?_ ?_ fun h' sb X' => ?_)
    · rw [hle] at he
      exact X.good e (List.mem_of_mem_eraseIdx he)
    · rw [hle, key1]
      exact X.nd.sublist (List.eraseIdx_sublist _ _)
    · rw [hsz]
      have := X.small
      omega
    · rw [hdr]
      unfold SetTable.fits SetTable.fill
      dsimp only
      rw [Bool.and_eq_true]
      refine ⟨?_, ?_⟩
      · rw [beq_iff_eq, hpe, hsz]
      · rw [decide_eq_true_eq, hpe]
        have := hin (SetTable.below t.dummies (t.place[i]'(by rw [hp]; exact hi2))) (t.place[i]'(by rw [hp]; exact hi2))
        unfold SetTable.fill at hfl
        omega
    · rw [hdr]
      dsimp only
      rw [erase_list]
      exact List.Pairwise.sublist (List.eraseIdx_sublist _ _) X.ris
    · rw [hdr]
      exact X.led
    · refine wpAny_bind (wpAny_point ?_)
      refine wpAny_pure (h true h' _ _ _ sb X' (fun j => ?_) (by rw [hsz]; omega) (by rw [hdr]) (by rw [hdr]; exact hin _ _))
      show (S j && !decide (j = k)) = true ↔ _
      rw [Bool.and_eq_true, Bool.not_eq_true', decide_eq_false_iff_not, m j, hle, key1]
      constructor
      · rintro ⟨z, hne⟩
        obtain ⟨q, hq, hqe⟩ := List.mem_iff_getElem.mp z
        have hqi : q ≠ i := fun e => hne (by subst e; rw [← hqe, hkk])
        exact List.mem_eraseIdx_iff_getElem.mpr ⟨q, hq, hqi, hqe⟩
      · intro z
        obtain ⟨q, hq, hqi, hqe⟩ := List.mem_eraseIdx_iff_getElem.mp z
        refine ⟨List.mem_of_mem_eraseIdx z, fun e => hqi ?_⟩
        have e2 : (es.toList.map keyOf)[q] = (es.toList.map keyOf)[i] := by rw [hqe, hkk, e]
        exact nodup_inj X.nd hq hik e2
end
end SetT


set_option Elab.async false
set_option linter.all false
set_option maxRecDepth 100000
set_option maxHeartbeats 4000000
namespace SetT
open PySem PySem.Spec PyProof.Rows L2
section
variable {P : Program} {w : World} {A : Around} {E : Value → Shared → Prop} {s : Shared} {a o : Addr} {es eo : Array (Int × Value)} {ep epo : Nat} {t to : SetTable}
theorem SX.psize {h : Heap} (X : SX w h a es ep t) : t.place.size = es.size ∧ t.fill ≤ t.mask := by
  have := X.fits
  unfold SetTable.fits at this
  rw [Bool.and_eq_true] at this
  exact ⟨beq_iff_eq.mp this.1, of_decide_eq_true this.2⟩
/-- all of o taken out of r -/
theorem minus_at {r : Addr} {S So : Int → Bool} {id : String} {Q : Unit → Shared → Prop} (X : SX w s.heap r es ep t) (Xo : SX w s.heap o eo epo to) (hne : r ≠ o) (m : Mem S es) (mo : Mem So eo) (hb : eo.size / 8 ≤ es.size) (hq : eo.size < es.size / 4 + 1) (hd : t.dummies = #[])
    (h : ∀ h' d c, Heap.SameBut r s.heap h' → SetR w h' r (fun k => S k && !So k) c → c ≤ es.size → Q () { s with heap := h', drawn := d }) : wpAny (model P w) A (Builtin.Frozenset.differenceUpdate id r (.ref o)) Q E s := by
  have hn : t.place.size ≤ t.mask := by
    have := X.psize.2
    unfold SetTable.fill at this
    omega
  have hp := X.psize.1
  unfold Builtin.Frozenset.differenceUpdate
  have hra : (Value.ref o == Value.ref r) = false := by simpa using (Ne.symm hne)
  refine wp_if_neg (by rw [hra]; exact Bool.false_ne_true) ?_
  refine wpAny_bind (Xo.anySet ?_)
  refine wp_if_pos rfl ?_
  unfold Builtin.Frozenset.addrOf
  refine wpAny_bind (wpAny_pure ?_)
  unfold Builtin.Frozenset.sizeOf
  refine wpAny_bind (wpAny_bind (Xo.entries (wpAny_pure ?_)))
  refine wpAny_bind (wpAny_bind (X.entries (wpAny_pure ?_)))
  refine wp_if_neg (by omega) ?_
  refine wpAny_bind (Xo.epoch ?_)
  refine wpAny_bind (wpAny_holding ?_)
  refine wpAny_bind (Xo.walkU0 (fun b hb => by rw [List.mem_singleton.mp hb]; exact ⟨_, _, _, X⟩) fun es2 d2 pm2 => ?_)
  have hl2 : es2.toList.length = eo.size := by rw [pm2.length_eq, Array.length_toList]
  have hh : ∀ (X1 : SX w s.heap o eo epo to), True := fun _ => trivial
  refine wpAny_bind ?_
  refine wpAny_forIn_array' _ (fun rest _ s1 => ∃ h3 es3 ep3 t3 S3, s1 = { s with heap := h3, drawn := d2 } ∧ Heap.SameBut r s.heap h3 ∧ SX w h3 r es3 ep3 t3 ∧ Mem S3 es3 ∧ es3.size ≤ es.size ∧ t3.mask = t.mask ∧ t3.dummies.size + rest.length ≤ eo.size ∧ (∀ e ∈ rest, GoodE e) ∧ (∀ k, (S3 k = true ∧ k ∉ rest.map keyOf) ↔ (S k = true ∧ So k = false)))
    _ ?_ ?_ _ _ ⟨s.heap, es, ep, t, S, rfl, Heap.SameBut.refl r s.heap, X, m, Nat.le_refl _, rfl, by rw [hd, hl2]; simp, fun e he => Xo.good e (pm2.mem_iff.mp he), fun k => by
      have e := mo.perm pm2 k
      cases q : So k with
      | true => rw [q] at e; simp [e.mp rfl]
      | false =>
        rw [q] at e
        have : k ∉ es2.toList.map keyOf := fun z => by have := e.mpr z; cases this
        simp [this]⟩
  · rintro ⟨hh, x⟩ rest u s1 ⟨h3, es3, ep3, t3, S3, rfl, sb3, X3, m3, hc3, hm3, hd3, hg3, hk3⟩
    obtain ⟨k, tk, e1, e2⟩ := hg3 _ (List.mem_cons_self ..)
    dsimp only at e1 e2
    subst e1 e2
    rw [List.length_cons] at hd3
    have hkey : keyOf (hashInt k, Value.int k tk) = k := rfl
    have Xo3 : SX w h3 o eo epo to := Xo.keep fun ob q => by rw [sb3.2 o (Ne.symm hne)]; exact q
    dsimp only
    refine wpAny_bind (wpAny_holding ?_)
    refine discard_at (s := { s with heap := h3, drawn := d2 }) X3 m3 fun b h4 es4 ep4 t4 sb4 X4 m4 hc4 hm4 hd4 => ?_
    unfold Builtin.Frozenset.unchanged
    have Xo4 : SX w h4 o eo epo to := Xo3.keep fun ob q => by rw [sb4.2 o (Ne.symm hne)]; exact q
    refine wpAny_bind (wpAny_bind (SX.epoch (s := { s with heap := h4, drawn := d2 }) Xo4 ?_))
    refine wp_if_neg (by simp) ?_
    refine wpAny_pure (wpAny_pure ?_)
    refine ⟨h4, es4, ep4, t4, _, rfl, sb3.trans sb4, X4, m4, by omega, by omega, by omega, fun e he => hg3 e (List.mem_cons_of_mem _ he), fun j => ?_⟩
    rw [← hk3 j, List.map_cons, hkey]
    simp only [Bool.and_eq_true, Bool.not_eq_true', decide_eq_false_iff_not, List.mem_cons, not_or]
    constructor
    · rintro ⟨⟨z, z2⟩, z3⟩
      exact ⟨z, z2, z3⟩
    · rintro ⟨z, z2, z3⟩
      exact ⟨⟨z, z2⟩, z3⟩
  · rintro u s1 ⟨h3, es3, ep3, t3, S3, rfl, sb3, X3, m3, hc3, hm3, hd3, _, hk3⟩
    refine wpAny_pure ?_
    unfold setTidy
    have e3 : ∀ k, (fun k => S k && !So k) k = S3 k := fun k => by
      have := hk3 k
      rw [List.map_nil] at this
      simp only [List.not_mem_nil, not_false_eq_true, and_true] at this
      cases q1 : S3 k <;> cases q2 : S k <;> cases q3 : So k <;> simp_all
    refine wpAny_bind (SX.state (s := { s with heap := h3, drawn := d2 }) X3 ?_)
    dsimp only
    have hnd : t3.tooManyDummies = false := by
      unfold SetTable.tooManyDummies
      rw [decide_eq_false_iff_not, hm3]
      simp at hd3
      omega
    rw [hnd]
    refine wp_if_neg (by simp) ?_
    exact wpAny_pure (h h3 d2 es3.size sb3 ((X3.setR m3).congr e3) hc3)
/-- a - b -/
theorem sub_at {S So : Int → Bool} {Q : Value → Shared → Prop} (X : SX w s.heap a es ep t) (Xo : SX w s.heap o eo epo to) (hne : a ≠ o) (m : Mem S es) (mo : Mem So eo) (lo : LowS S) (hsz : es.size < 64) (hsz2 : eo.size < 64)
    (h : ∀ h' d c, (∀ b u, s.heap.get? b = some u → h'.get? b = some u) → SetR w h' s.heap.objs.size (fun k => S k && !So k) c → c < 64 → Q (.ref s.heap.objs.size) { s with heap := h', drawn := d }) : wpAny (model P w) A (binaryOp .Sub (.ref a) (.ref o)) Q E s := by
  refine wpAny_binaryOp_same X.typeIs Xo.typeIs PySem.F.fills_set_sub PySem.F.slot_set_sub (wpAny_call_entry PySem.F.slot_set_sub X.typeIs entry_sub ?_ (PySem.F.args_set_sub_2 _ _))
  unfold Builtin.«frozenset.__sub__»
  refine wpAny_bind (m := Builtin.Frozenset.slot1 "__sub__" _) (wpAny_of_eq (a := (.ref a, .ref o)) (by rfl) ?_)
  dsimp only
  refine wpAny_bind ?_
  refine wpAny_bind (X.anySet ?_)
  show wpAny _ _ (Builtin.Frozenset.isAnySet (.ref o)) _ _ _
  refine Xo.anySet ?_
  refine wp_if_neg (by simp) ?_
  unfold Builtin.Frozenset.addrOf
  refine wpAny_bind (wpAny_pure ?_)
  refine wpAny_bind ?_
  show wpAny _ _ (Builtin.Frozenset.difference _ a (.ref o)) _ _ _
  unfold Builtin.Frozenset.difference
  dsimp only
  refine wpAny_bind (Xo.anySet ?_)
  refine wp_if_neg (by simp) ?_
  unfold Builtin.Frozenset.addrOf
  refine wpAny_bind (wpAny_pure ?_)
  refine wp_if_neg (by simp) ?_
  unfold Builtin.Frozenset.sizeOf
  refine wpAny_bind ?_
  refine wpAny_bind (Xo.entries (wpAny_pure ?_))
  refine wpAny_bind (wpAny_bind (X.entries (wpAny_pure ?_)))
  by_cases c : es.size / 4 > eo.size
  · refine wp_if_pos c ?_
    refine wpAny_bind (wpAny_rule ?_)
    refine wpAny_bind (copy_at X m lo hsz fun h1 d1 N1 => ?_)
    obtain ⟨k1, es1, ep1, t1, X1, m1, hc1, hM1, hF1⟩ := N1
    have Xo1 : SX w h1 o eo epo to := Xo.keep fun ob q => k1 _ _ q
    have hpe : es1.size = es.size := by
      have p1 : (es1.toList.map keyOf).Perm (es.toList.map keyOf) := by
        rw [List.perm_ext_iff_of_nodup X1.nd X.nd]
        intro k
        rw [← m1 k, ← m k]
      have := p1.length_eq
      rw [List.length_map, List.length_map, Array.length_toList, Array.length_toList] at this
      exact this
    refine wpAny_bind (wpAny_pure ?_)
    refine wpAny_bind (wpAny_holding ?_)
    refine minus_at (s := { s with heap := h1, drawn := d1 }) X1 Xo1 Xo.ne_new m1 mo (by omega) (by omega) (hF1 trivial) fun h2 d2 c2 sb2 R2 hc2 => ?_
    refine wpAny_pure ?_
    refine wpAny_pure ⟨_, rfl, (fun z => nomatch z), h h2 d2 c2 (fun b u q => ?_) R2 (by omega)⟩
    rw [sb2.2 b (Nat.ne_of_lt (Heap.lt_size q))]
    exact k1 _ _ q
  · refine wp_if_neg c ?_
    refine wpAny_bind (X.base ?_)
    refine wpAny_bind (newSet_at ?_)
    refine wpAny_bind (wpAny_pure ?_)
    have F := fresh_sx (h := s.heap) w
    have X1 := X.push (freshObj w)
    have Xo1 := Xo.push (freshObj w)
    have n1 := X.ne_new
    have n2 := Xo.ne_new
    refine wpAny_bind (SX.epoch (s := { s with heap := s.heap.push (freshObj w) }) X1 ?_)
    refine wpAny_bind (wpAny_holding ?_)
    refine wpAny_bind ?_
    refine wp_if_pos rfl ?_
    refine SX.walkU (s := { s with heap := s.heap.push (freshObj w) }) X1 F (fun b hb => ?_) fun es2 h2 d2 ep2 t2 pm2 sb2 F2 => ?_
    · rcases List.mem_cons.mp hb with z | z
      · rw [z]; exact ⟨_, _, _, Xo1⟩
      · rw [List.mem_singleton.mp z]; exact ⟨_, _, _, F⟩
    have Y2 : SX w h2 a es ep t := X1.keep fun ob q => by rw [sb2.2 a (Ne.symm n1)]; exact q
    have Yo2 : SX w h2 o eo epo to := Xo1.keep fun ob q => by rw [sb2.2 o (Ne.symm n2)]; exact q
    have R2 : SetR w h2 s.heap.objs.size (fun _ => false) 0 := F2.setR (fun k => by simp)
    refine wpAny_bind ?_
    refine pick_loop (s := { s with heap := h2, drawn := d2 }) (p := fun k => !So k) es2 pm2 Y2 n1 m R2 (fun _ => rfl) (by omega) (fun h' => SX w h' o eo epo to) (fun h' sb => Yo2.keep fun ob q => by rw [sb.2 o (Ne.symm n2)]; exact q) (fun k tk s1 Q' S3 c3 G3 X3 R3 hc hq => ?_) fun h3 c3 sb3 R3 hc3 => ?_
    · dsimp only
      have Yr := G3.setR mo
      refine wpAny_bind (wpAny_holding ?_)
      refine wp_if_pos rfl ?_
      refine wpAny_bind (find_at Yr fun r hr => ?_)
      have sc : scanBound = 4096 := rfl
      refine wpAny_bind (wpAny_pure ?_)
      rw [hr]
      cases c : So k with
      | false =>
        refine wp_if_pos rfl ?_
        refine wpAny_bind (setR_add_hashed R3 (by omega) fun h4 sb4 R4 => ?_)
        refine wpAny_pure ?_
        unfold Builtin.Frozenset.unchanged
        have X4 : SX w h4 a es ep t := X3.keep fun ob q => by rw [sb4.2 a (Ne.symm n1)]; exact q
        refine wpAny_bind (wpAny_bind (SX.epoch (s := { s1 with heap := h4 }) X4 ?_))
        refine wp_if_neg (by simp) ?_
        refine wpAny_pure (wpAny_pure ?_)
        refine hq h4 _ sb4 ?_ (R4.congr fun j => ?_)
        · split <;> omega
        · show (S3 j || (decide (j = k) && !So k)) = _
          rw [c]
          simp
      | true =>
        refine wp_if_neg (by simp) ?_
        refine wpAny_pure ?_
        unfold Builtin.Frozenset.unchanged
        refine wpAny_bind (wpAny_bind (X3.epoch ?_))
        refine wp_if_neg (by simp) ?_
        refine wpAny_pure (wpAny_pure ?_)
        refine hq s1.heap c3 (Heap.SameBut.refl _ _) (by omega) (R3.congr fun j => ?_)
        show (S3 j || (decide (j = k) && !So k)) = _
        rw [c]
        simp
    · refine wpAny_pure (wpAny_pure ?_)
      exact wpAny_pure ⟨_, rfl, (fun z => nomatch z), h h3 d2 c3 (keep_new (sb2.trans sb3)) R3 (by omega)⟩
end
end SetT


set_option Elab.async false
set_option linter.all false
set_option maxRecDepth 100000
set_option maxHeartbeats 4000000
/-! set(t), a | b, a & b, a - b over the layer. -/
namespace L2
open PySem PySem.Spec PyProof.Rows
section
variable {X : Cx}
/-- set(t), t a tuple of whole numbers -/
def rSetT (K : PySem.W.Frag) (w : World) : List V → Hp → VK → Prop := fun xs H Q => ∃ (p : Addr) (ns : List Int), xs = [.ref p] ∧ SqT K H p (ns.map V.int) ∧ ns.length < 64 ∧ ∀ q c, H q = none → c ≤ ns.length → Q (.ref q) (upd H q (SetO w q (fun j => decide (j ∈ ns)) c))
theorem cr_setT (hc : X.calm = true) : CallR X (.type "set") (rSetT X.K X.w) := by
  intro pins s σ H xs us Q I r h
  obtain ⟨p, ns, rfl, hs, hl, q⟩ := h
  rw [Vals.ref1 r]
  obtain ⟨its, rv, pt, hz⟩ := I.tuple hs
  have hi : IntsAre its.toArray.toList ns := ints_of_vals rv
  have hd := I.ok.hd hc
  refine call_set_tupI ns hd (show s.heap.IsTuple p its.toArray from pt) hi (by unfold scanBound; omega) fun h' tk c R1 hcn k => ?_
  exact ⟨.ref _, _, I.laid (t' := tk) k (Nat.le_refl _) (setO_new R1), rfl, q _ c (I.hok.fresh (Nat.le_refl _)) hcn⟩
/-- a op b of two sets of small numbers -/
def rSet2 (w : World) (f : Bool → Bool → Bool) : R2 := fun x y H Q => ∃ (a b : Addr) (S So : Int → Bool) (n m : Nat), x = .ref a ∧ y = .ref b ∧ a ≠ b ∧ H a = some (SetO w a S n) ∧ H b = some (SetO w b So m) ∧ SetT.LowS S ∧ SetT.LowS So ∧ n + m < 64 ∧
  ∀ q c, H q = none → c < 64 → Q (.ref q) (upd H q (SetO w q (fun k => f (S k) (So k)) c))
theorem laid_drawn {pins : List (Addr × Obj)} {σ : St} {H : Hp} {s : Shared} (I : Inv X pins σ H s) {h' : Heap} {d : Drawn} {S : Int → Bool} {c : Nat} (k : ∀ b u, s.heap.get? b = some u → h'.get? b = some u) (R : SetR X.w h' s.heap.objs.size S c) :
    Inv X pins σ (upd H s.heap.objs.size (SetO X.w s.heap.objs.size S c)) { s with heap := h', drawn := d } := by
  have hn : H s.heap.objs.size = none := I.hok.fresh (Nat.le_refl _)
  exact I.call (ch := []) (Un.laid k (Nat.le_refl _) hn) (I.hok.laid k (Nat.le_refl _) (setO_new R)) I.bare (fun _ z => nomatch z)
theorem op_setOr : OpR X (binaryOp .BitOr) (rSet2 X.w fun a b => a || b) := by
  intro pins s σ H x y v u Q I rx ry hq
  obtain ⟨a, b, S, So, n, m, rfl, rfl, hne, ha, hb, lo, loo, hz, q⟩ := hq
  cases rx
  cases ry
  obtain ⟨es, ep, t, Y, mY, hn⟩ := SetT.sx_of (setO_get I ha)
  obtain ⟨eo, epo, to, Yo, mYo, hm⟩ := SetT.sx_of (setO_get I hb)
  refine SetT.or_at Y Yo hne mY mYo lo loo (by omega) fun h' d N => ?_
  obtain ⟨k, R⟩ := N
  obtain ⟨c, hc, R2⟩ := R.setR
  exact ⟨.ref _, _, laid_drawn I k R2, rfl, q _ c (I.hok.fresh (Nat.le_refl _)) (by omega)⟩
theorem op_setAnd : OpR X (binaryOp .BitAnd) (rSet2 X.w fun a b => a && b) := by
  intro pins s σ H x y v u Q I rx ry hq
  obtain ⟨a, b, S, So, n, m, rfl, rfl, hne, ha, hb, lo, loo, hz, q⟩ := hq
  cases rx
  cases ry
  obtain ⟨es, ep, t, Y, mY, hn⟩ := SetT.sx_of (setO_get I ha)
  obtain ⟨eo, epo, to, Yo, mYo, hm⟩ := SetT.sx_of (setO_get I hb)
  refine SetT.and_at Y Yo hne mY mYo (by omega) fun h' d c k R2 hc => ?_
  exact ⟨.ref _, _, laid_drawn I k R2, rfl, q _ c (I.hok.fresh (Nat.le_refl _)) hc⟩
theorem op_setSub : OpR X (binaryOp .Sub) (rSet2 X.w fun a b => a && !b) := by
  intro pins s σ H x y v u Q I rx ry hq
  obtain ⟨a, b, S, So, n, m, rfl, rfl, hne, ha, hb, lo, loo, hz, q⟩ := hq
  cases rx
  cases ry
  obtain ⟨es, ep, t, Y, mY, hn⟩ := SetT.sx_of (setO_get I ha)
  obtain ⟨eo, epo, to, Yo, mYo, hm⟩ := SetT.sx_of (setO_get I hb)
  refine SetT.sub_at Y Yo hne mY mYo lo (by omega) (by omega) fun h' d c k R2 hc => ?_
  exact ⟨.ref _, _, laid_drawn I k R2, rfl, q _ c (I.hok.fresh (Nat.le_refl _)) hc⟩
end
end L2


set_option Elab.async false
set_option linter.all false
set_option maxRecDepth 100000
set_option maxHeartbeats 4000000
/-! list(zip(t, u)) of two tuples of one length. -/
namespace ZiL
open PySem PySem.Calls PyProof.Rows PySem.Spec RZ
abbrev IsZf (h : Heap) (z TI TO : Addr) (f0 : Value) (f : Bool) : Prop :=
  h.get? z = some { cls := .type "zip", dict := none, data := .fields #[f0, .bool f, .bool false, .ref TI, .ref TO], slots := #[] }
section
variable {prog : Program} {w : World} {A : Around} {E : Value → Shared → Prop} {s : Shared}
theorem zipA_free {z TI TO T : Addr} {f : Bool} {oT : Obj} {Q : Bool → Shared → Prop} (hz : IsZf s.heap z TI TO (rawInt T) f) (hT : s.heap.get? T = some oT)
    (hQ : ∀ h', IsZf h' z TI TO (rawInt T) true → Heap.SameBut z s.heap h' → Q false { s with heap := h' }) : wpAny (model prog w) A (Builtin.SmallTypes.ownedTupleIsFree (.ref z)) Q E s := by
  unfold Builtin.SmallTypes.ownedTupleIsFree
  refine wpAny_bind (wpAny_field hz rfl (x := rawInt T) rfl ?_)
  show wpAny _ _ (loadIfAlive ((T : Int).toNat) >>= _) _ _ _
  rw [Int.toNat_natCast]
  refine wpAny_bind (PySem.W.kdx_alive hT ?_)
  simp only [Option.isNone_some, Bool.false_eq_true, if_false]
  refine wpAny_bind (wpAny_field hz rfl (x := .bool f) rfl ?_)
  cases f with
  | true =>
    rw [if_neg (show ¬ ((Value.bool true != Value.bool true) = true) from Bool.false_ne_true)]
    exact wpAny_pure (hQ s.heap hz (Heap.SameBut.refl _ _))
  | false =>
    rw [if_pos (show (Value.bool false != Value.bool true) = true from rfl)]
    refine wpAny_bind (wpAny_setField_rec hz (by simp) fun h₃ he₃ hs₃ => ?_)
    exact wpAny_pure (hQ h₃ he₃ hs₃)
theorem zipA_item {z TI TO i1 i2 l1 l2 T : Addr} {f : Bool} {oT : Obj} {k1 k2 : Nat} {xs ys : Array Value} {x y : Value} {Q : Value → Shared → Prop} (D : ZipApart z TI TO i1 i2 l1 l2)
    (hz : IsZf s.heap z TI TO (rawInt T) f) (hT : s.heap.get? T = some oT) (hTI : IsPair s.heap TI (.ref i1) (.ref i2))
    (h1 : s.heap.IsTupleIter i1 l1 k1) (h2 : s.heap.IsTupleIter i2 l2 k2) (hl1 : s.heap.IsTuple l1 xs) (hl2 : s.heap.IsTuple l2 ys) (hx : xs[k1]? = some x) (hy : ys[k2]? = some y)
    (hQ : ∀ h', IsZf h' z TI TO (rawInt T) true → h'.IsTupleIter i1 l1 (k1 + 1) → h'.IsTupleIter i2 l2 (k2 + 1) → IsPair h' s.heap.objs.size x y → h'.objs.size = s.heap.objs.size + 1 →
      (∀ c o, c ≠ z → c ≠ i1 → c ≠ i2 → s.heap.get? c = some o → h'.get? c = some o) → Q (.ref s.heap.objs.size) { s with heap := h' }) :
    wpAny (model prog w) A (Builtin.«zip.__next__» ⟨[.ref z], []⟩) (fun fin s' => ∃ v, fin = .done (.ret v) ∧ Q v s') E s := by
  show wpAny _ _ (field (.ref z) 2 >>= _) _ _ _
  refine wpAny_bind (wpAny_field hz rfl (x := .bool false) rfl ?_)
  show wpAny _ _ (field (.ref z) 3 >>= _) _ _ _
  refine wpAny_bind (wpAny_field hz rfl (x := .ref TI) rfl ?_)
  refine wpAny_bind (wpAny_seqItems hTI rfl ?_)
  show wpAny _ _ (Builtin.SmallTypes.ownedTupleIsFree (.ref z) >>= _) _ _ _
  refine wpAny_bind (zipA_free hz hT fun h₁ hz₁ hs₁ => ?_)
  simp only [Bool.false_eq_true, if_false]
  refine wpAny_bind ?_
  rw [← Array.forIn_toList]
  simp only [List.forIn_cons, List.forIn_nil]
  refine wpAny_bind (wpAny_bind (wpAny_holding ?_))
  show wpAny _ _ (Builtin.SmallTypes.nextOf (.ref i1) >>= _) _ _ _
  refine wpAny_bind (nextOf_tuple_item (h1.extBut hs₁.extBut D.i1z) (hl1.extBut hs₁.extBut D.l1z) hx fun h₂ h1₂ hs₂ => wpAny_pure ?_)
  refine wpAny_pure ?_
  refine wpAny_bind (wpAny_bind (wpAny_holding ?_))
  show wpAny _ _ (Builtin.SmallTypes.nextOf (.ref i2) >>= _) _ _ _
  refine wpAny_bind (nextOf_tuple_item ((h2.extBut hs₁.extBut D.i2z).extBut hs₂.extBut D.i12.symm)
    ((hl2.extBut hs₁.extBut D.l2z).extBut hs₂.extBut D.l2i1) hy fun h₄ h2₄ hs₄ => wpAny_pure ?_)
  refine wpAny_pure (wpAny_pure ?_)
  show wpAny _ _ (newTuple [x, y] >>= _) _ _ _
  refine wpAny_bind (wpAny_newTuple ?_)
  have hsz : h₄.objs.size = s.heap.objs.size := by rw [hs₄.1, hs₂.1, hs₁.1]
  have hz₄ : IsZf h₄ z TI TO (rawInt T) true := hs₄.extBut _ _ D.i2z.symm (hs₂.extBut _ _ D.i1z.symm hz₁)
  refine wpAny_pure ⟨_, rfl, ?_⟩
  show Q (.ref h₄.objs.size) _
  have q := hQ (h₄.push { cls := .type "tuple", data := .seq #[x, y] }) (Heap.get?_push_of_some _ hz₄) ((h1₂.extBut hs₄.extBut D.i12).at fun o e => Heap.get?_push_of_some _ e) (h2₄.at fun o e => Heap.get?_push_of_some _ e) (by rw [← hsz]; exact Heap.get?_push_size _ rfl) (by rw [Heap.size_push, hsz]) fun c o c1 c3 c4 e =>
    Heap.get?_push_of_some _ (hs₄.extBut _ _ c4 (hs₂.extBut _ _ c3 (hs₁.extBut _ _ c1 e)))
  rw [hsz]
  exact q
theorem zipA_end {z TI TO i1 i2 l1 l2 T : Addr} {f : Bool} {oT : Obj} {k1 : Nat} {xs : Array Value} {Q : Fin → Shared → Prop} (hh : A.handled = none) (D : ZipApart z TI TO i1 i2 l1 l2)
    (hz : IsZf s.heap z TI TO (rawInt T) f) (hT : s.heap.get? T = some oT) (hTI : IsPair s.heap TI (.ref i1) (.ref i2))
    (h1 : s.heap.IsTupleIter i1 l1 k1) (hl1 : s.heap.IsTuple l1 xs) (hx : xs[k1]? = none)
    (hE : ∀ h' e, (∀ c o, c ≠ z → c ≠ i1 → s.heap.get? c = some o → h'.get? c = some o) → (∃ o, h'.get? e = some o ∧ o.cls = .type "StopIteration") → E (.ref e) { s with heap := h' }) :
    wpAny (model prog w) A (Builtin.«zip.__next__» ⟨[.ref z], []⟩) Q E s := by
  show wpAny _ _ (field (.ref z) 2 >>= _) _ _ _
  refine wpAny_bind (wpAny_field hz rfl (x := .bool false) rfl ?_)
  show wpAny _ _ (field (.ref z) 3 >>= _) _ _ _
  refine wpAny_bind (wpAny_field hz rfl (x := .ref TI) rfl ?_)
  refine wpAny_bind (wpAny_seqItems hTI rfl ?_)
  show wpAny _ _ (Builtin.SmallTypes.ownedTupleIsFree (.ref z) >>= _) _ _ _
  refine wpAny_bind (zipA_free hz hT fun h₁ hz₁ hs₁ => ?_)
  simp only [Bool.false_eq_true, if_false]
  refine wpAny_bind ?_
  rw [← Array.forIn_toList]
  simp only [List.forIn_cons, List.forIn_nil]
  refine wpAny_bind (wpAny_bind (wpAny_holding ?_))
  show wpAny _ _ (Builtin.SmallTypes.nextOf (.ref i1) >>= _) _ _ _
  refine wpAny_bind (nextOf_tuple_end hh (h1.extBut hs₁.extBut D.i1z) (hl1.extBut hs₁.extBut D.l1z) hx fun h₂ e hs₂ he => ?_)
  exact hE h₂ e (fun c o c1 c3 x => hs₂ _ _ c3 (hs₁.extBut _ _ c1 x)) he
/-- where the walk of the zip stands: i pairs are out -/
def ZS (S : Addr) (h : Heap) (z TI TO i1 i2 l1 l2 : Addr) (i : Nat) : Prop := IsPair h TI (.ref i1) (.ref i2) ∧ h.IsTupleIter i1 l1 i ∧ h.IsTupleIter i2 l2 i ∧
  ((i = 0 ∧ IsZip h z TI TO .none ∧ ∃ a b, IsPair h TO a b) ∨ ∃ (T : Addr) (f : Bool) (oT : Obj), IsZf h z TI TO (rawInt T) f ∧ h.get? T = some oT ∧ T ≠ z ∧ T ≠ TO ∧ T ≠ i1 ∧ T ≠ i2 ∧ T ≠ S)
theorem zs_item {S z TI TO i1 i2 l1 l2 : Addr} {i : Nat} {xs ys : Array Value} {x y : Value} {Q : Option Value → Shared → Prop} (D : ZipApart z TI TO i1 i2 l1 l2) (st : ZS S s.heap z TI TO i1 i2 l1 l2 i)
    (hS : S < s.heap.objs.size) (hl1 : s.heap.IsTuple l1 xs) (hl2 : s.heap.IsTuple l2 ys) (hx : xs[i]? = some x) (hy : ys[i]? = some y)
    (hQ : ∀ h', ZS S h' z TI TO i1 i2 l1 l2 (i + 1) → IsPair h' s.heap.objs.size x y → h'.objs.size = s.heap.objs.size + 1 →
      (∀ c o, c ≠ z → c ≠ TO → c ≠ i1 → c ≠ i2 → s.heap.get? c = some o → h'.get? c = some o) → Q (some (.ref s.heap.objs.size)) { s with heap := h' }) :
    wpAny (model prog w) A (pyNext (.ref z)) Q E s := by
  obtain ⟨hTI, h1, h2, hz⟩ := st
  have n1 : ∀ {c : Addr} {o : Obj}, s.heap.get? c = some o → s.heap.objs.size ≠ c := fun e => Nat.ne_of_gt (Heap.lt_size e)
  obtain ⟨o1, e1, _⟩ := id h1
  obtain ⟨o2, e2, _⟩ := id h2
  rcases hz with ⟨rfl, hz, a, b, hTO⟩ | ⟨T, f, oT, hz, hT, t1, t2, t3, t4, t5⟩
  · refine pyNext_zipT_item D hz hTI hTO h1 h2 hl1 hl2 hx hy fun h' z' TO' h1' h2' hT hsz hk => ?_
    exact hQ h' ⟨hk _ _ D.TIz D.TITO D.TIi1 D.TIi2 hTI, h1', h2', .inr ⟨_, false, _, z', hT, n1 hz, n1 hTO, n1 e1, n1 e2, Nat.ne_of_gt hS⟩⟩ hT hsz hk
  · have hTt : s.TypeIs (.ref z) "zip" := ⟨_, hz, rfl⟩
    unfold pyNext
    refine wpAny_bind (wpAny_attempt (wpAny_callSpecial?_slot (name := Str.ofString "__next__") hTt F.slot_zip_next
      (wpAny_call_entry F.slot_zip_next hTt F.entry_zip_next
        (zipA_item D hz hT hTI h1 h2 hl1 hl2 hx hy fun h' a1 a3 a4 a5 a6 a7 => wpAny_pure ?_) (F.args_zip_next_1 _))))
    exact hQ h' ⟨a7 _ _ D.TIz D.TIi1 D.TIi2 hTI, a3, a4, .inr ⟨T, true, oT, a1, a7 _ _ t1 t3 t4 hT, t1, t2, t3, t4, t5⟩⟩ a5 a6 fun c o c1 _ c3 c4 e => a7 c o c1 c3 c4 e
theorem zs_end {S z TI TO i1 i2 l1 l2 : Addr} {i : Nat} {xs ys : Array Value} {Q : Option Value → Shared → Prop} (hh : A.handled = none) (D : ZipApart z TI TO i1 i2 l1 l2) (st : ZS S s.heap z TI TO i1 i2 l1 l2 i)
    (hl1 : s.heap.IsTuple l1 xs) (hl2 : s.heap.IsTuple l2 ys) (hx : xs[i]? = none)
    (hQ : ∀ h', (∀ c o, c ≠ z → c ≠ TO → c ≠ i1 → c ≠ i2 → s.heap.get? c = some o → h'.get? c = some o) → Q none { s with heap := h' }) :
    wpAny (model prog w) A (pyNext (.ref z)) Q E s := by
  obtain ⟨hTI, h1, h2, hz⟩ := st
  rcases hz with ⟨rfl, hz, a, b, hTO⟩ | ⟨T, f, oT, hz, hT, t1, t2, t3, t4, t5⟩
  · exact pyNext_zipT_end hh D hz hTI hTO h1 h2 hl1 hl2 (.inl hx) hQ
  · have hTt : s.TypeIs (.ref z) "zip" := ⟨_, hz, rfl⟩
    unfold pyNext
    refine wpAny_bind (wpAny_attempt (wpAny_callSpecial?_slot (name := Str.ofString "__next__") hTt F.slot_zip_next
      (wpAny_call_entry F.slot_zip_next hTt F.entry_zip_next (zipA_end hh D hz hT hTI h1 hl1 hx fun h' e hk he => ?_) (F.args_zip_next_1 _))))
    obtain ⟨o, ho, hc⟩ := he
    refine wpAny_bind (wpAny_isInstance (T := "StopIteration") (b := true) ⟨o, ho, hc⟩ isSubtype_stop ?_)
    exact wpAny_pure (hQ _ fun c o c1 _ c3 _ e => hk c o c1 c3 e)
end
end ZiL


set_option Elab.async false
set_option linter.all false
set_option maxRecDepth 100000
set_option maxHeartbeats 4000000
namespace ZiL
open PySem PySem.Calls PyProof.Rows PySem.Spec RZ
theorem lookup_zip_len : typeLookup (.type "zip") "__len__" = pure none := by rw [typeLookup_type, builtinLookup_eq_fast]; kernel_rfl
theorem lookup_zip_hint : typeLookup (.type "zip") "__length_hint__" = pure none := by rw [typeLookup_type, builtinLookup_eq_fast]; kernel_rfl
end ZiL


set_option Elab.async false
set_option linter.all false
set_option maxRecDepth 100000
set_option maxHeartbeats 4000000
namespace ZiL
open PySem PySem.Calls PyProof.Rows PySem.Spec RZ
/-- pairs made, at rising places behind lo -/
structure PG (xs ys : Array Value) (lo : Addr) (h : Heap) (as : List Addr) : Prop where
  rise : as.Pairwise (· < ·)
  above : ∀ a ∈ as, lo < a
  pairs : ∀ (j : Nat) (a : Addr), as[j]? = some a → ∃ x y, xs[j]? = some x ∧ ys[j]? = some y ∧ IsPair h a x y
theorem PG.there {xs ys : Array Value} {lo : Addr} {h : Heap} {as : List Addr} (g : PG xs ys lo h as) {a : Addr} (ha : a ∈ as) : a < h.objs.size := by
  obtain ⟨j, hj⟩ := List.mem_iff_getElem?.mp ha
  obtain ⟨_, _, _, _, e⟩ := g.pairs j a hj
  exact Heap.lt_size e
theorem ZS.keep {h h' : Heap} {z TI TO i1 i2 l1 l2 : Addr} {i : Nat} {S : Addr} (st : ZS S h z TI TO i1 i2 l1 l2 i) (up : ∀ b o, b ≠ S → h.get? b = some o → h'.get? b = some o) (hS : S ≠ z ∧ S ≠ TI ∧ S ≠ TO ∧ S ≠ i1 ∧ S ≠ i2) : ZS S h' z TI TO i1 i2 l1 l2 i := by
  obtain ⟨hTI, h1, h2, hz⟩ := st
  obtain ⟨s1, s2, s3, s4, s5⟩ := hS
  refine ⟨up _ _ (Ne.symm s2) hTI, h1.at fun o e => up _ o (Ne.symm s4) e, h2.at fun o e => up _ o (Ne.symm s5) e, ?_⟩
  rcases hz with ⟨e, hz, a, b, hTO⟩ | ⟨T, f, oT, hz, hT', t1, t2, t3, t4, t5⟩
  · exact .inl ⟨e, up _ _ (Ne.symm s1) hz, a, b, up _ _ (Ne.symm s3) hTO⟩
  · exact .inr ⟨T, f, oT, up _ _ (Ne.symm s1) hz, up _ _ t5 hT', t1, t2, t3, t4, t5⟩
section
variable {prog : Program} {w : World} {A : Around} {E : Value → Shared → Prop} {s : Shared} {R : Result → Shared → Prop} {xs ys : Array Value}
theorem zip_loop {S z TI TO i1 i2 l1 l2 : Addr} (hh : A.handled = none) (D : ZipApart z TI TO i1 i2 l1 l2) (hS : S ≠ z ∧ S ≠ TI ∧ S ≠ TO ∧ S ≠ i1 ∧ S ≠ i2) (hS1 : l1 ≠ S) (hS2 : l2 ≠ S) {lo0 : Addr} (hlt : z < lo0 ∧ TO < lo0 ∧ i1 < lo0 ∧ i2 < lo0)
    (hn : xs.size ≤ sizeLine) (hxy : xs.size = ys.size) (res : Value) {h₁ : Heap}
    (hR : ∀ h' tk acc c as, (∀ b o, b ≠ S → b ≠ z → b ≠ TO → b ≠ i1 → b ≠ i2 → h₁.get? b = some o → h'.get? b = some o) → h'.get? S = some { cls := .type "list", dict := none, data := .seq acc c, slots := #[] } → as.length = xs.size → PG xs ys S h' as →
      acc.toList = as.map Value.ref → R (.ok (.ret res)) { s with heap := h', toks := tk }) :
    ∀ (k i : Nat) (h : Heap) (tk c : Nat) (acc : Array Value) (as : List Addr), xs.size - i = k → i ≤ xs.size → ZS S h z TI TO i1 i2 l1 l2 i → h.IsTuple l1 xs → h.IsTuple l2 ys → (∀ b o, b ≠ S → b ≠ z → b ≠ TO → b ≠ i1 → b ≠ i2 → h₁.get? b = some o → h.get? b = some o) →
      h.get? S = some { cls := .type "list", dict := none, data := .seq acc c, slots := #[] } → acc.toList = as.map Value.ref → as.length = i → PG xs ys S h as → (∀ a ∈ as, lo0 ≤ a) → lo0 ≤ h.objs.size →
      codeAny (model prog w) A (.builtin "list.extend.loop" ⟨[.ref S, .ref z, res], []⟩) R { s with heap := h, toks := tk } := by
  obtain ⟨s1, s2, s3, s4, s5⟩ := hS
  intro k
  induction k with
  | zero =>
    intro i h tk c acc as hk hi hst hl1 hl2 hkeep hSl hacc hal hG hlo hsz
    have hin : i = xs.size := by omega
    refine codeAny_builtin PySem.F.entry_extend_loop ?_
    rw [Around.under_plainId PySem.F.plain_extend_loop _]
    show wpAny _ A.in1 (pyNext (.ref z) >>= _) _ _ _
    refine wpAny_bind (zs_end (s := { s with heap := h, toks := tk }) (A := A.in1) hh D hst hl1 hl2 (Array.getElem?_eq_none (by omega)) fun h' he => ?_)
    have hge : ∀ a ∈ as, a ≠ z ∧ a ≠ TO ∧ a ≠ i1 ∧ a ≠ i2 := fun a ha => by
      have := hlo a ha
      obtain ⟨q1, q2, q3, q4⟩ := hlt
      exact ⟨fun e => absurd (Nat.lt_of_lt_of_le q1 (e ▸ this)) (Nat.lt_irrefl _), fun e => absurd (Nat.lt_of_lt_of_le q2 (e ▸ this)) (Nat.lt_irrefl _), fun e => absurd (Nat.lt_of_lt_of_le q3 (e ▸ this)) (Nat.lt_irrefl _), fun e => absurd (Nat.lt_of_lt_of_le q4 (e ▸ this)) (Nat.lt_irrefl _)⟩
    refine wpAny_pure (hR h' tk acc c as (fun b o b0 b1 b2 b3 b4 e => he b o b1 b2 b3 b4 (hkeep b o b0 b1 b2 b3 b4 e)) (he S _ s1 s3 s4 s5 hSl) (by omega) ⟨hG.rise, hG.above, fun j a hj => ?_⟩ hacc)
    obtain ⟨x, y, e1, e2, e3⟩ := hG.pairs j a hj
    obtain ⟨q1, q2, q3, q4⟩ := hge a (List.mem_of_getElem? hj)
    exact ⟨x, y, e1, e2, he a _ q1 q2 q3 q4 e3⟩
  | succ k ih =>
    intro i h tk c acc as hk hi hst hl1 hl2 hkeep hSl hacc hal hG hlo hsz0
    have hlt2 : i < xs.size := by omega
    have hx : xs[i]? = some xs[i] := Array.getElem?_eq_getElem hlt2
    have hy : ys[i]? = some (ys[i]'(by omega)) := Array.getElem?_eq_getElem (by omega)
    generalize xs[i] = x at hx
    generalize (ys[i]'(by omega)) = y at hy
    have hsz : acc.size = i := by rw [← Array.length_toList, hacc, List.length_map, hal]
    refine codeAny_builtin PySem.F.entry_extend_loop ?_
    rw [Around.under_plainId PySem.F.plain_extend_loop _]
    show wpAny _ A.in1 (pyNext (.ref z) >>= _) _ _ _
    refine wpAny_bind (zs_item (s := { s with heap := h, toks := tk }) D hst (Heap.lt_size hSl) hl1 hl2 hx hy fun h' hst' ht hz hkp => ?_)
    dsimp only at ht hz hkp ⊢
    have hSl' := hkp S _ s1 s3 s4 s5 hSl
    have up : ∀ b o, b ≠ S → h'.get? b = some o → (h'.update S (Obj.mapSeq (·.push (Value.ref h.objs.size)))).get? b = some o := fun b o hb e => (Heap.get?_update_other _ _ (Ne.symm hb)).trans e
    have hSlt : S < h.objs.size := Heap.lt_size hSl
    show wpAny _ A.in1 (updateSeq S (·.push (Value.ref h.objs.size)) >>= _) _ _ _
    refine wpAny_bind ?_
    have hge : ∀ a, lo0 ≤ a → a ≠ z ∧ a ≠ TO ∧ a ≠ i1 ∧ a ≠ i2 := fun a this => by
      obtain ⟨q1, q2, q3, q4⟩ := hlt
      exact ⟨fun e => absurd (Nat.lt_of_lt_of_le q1 (e ▸ this)) (Nat.lt_irrefl _), fun e => absurd (Nat.lt_of_lt_of_le q2 (e ▸ this)) (Nat.lt_irrefl _), fun e => absurd (Nat.lt_of_lt_of_le q3 (e ▸ this)) (Nat.lt_irrefl _), fun e => absurd (Nat.lt_of_lt_of_le q4 (e ▸ this)) (Nat.lt_irrefl _)⟩
    have tup : ∀ {l : Addr} {vs : Array Value}, l ≠ S → l ≠ z → l ≠ TO → l ≠ i1 → l ≠ i2 → h.IsTuple l vs → (h'.update S (Obj.mapSeq (·.push (Value.ref h.objs.size)))).IsTuple l vs := fun n0 n1 n2 n3 n4 ⟨o, ho, q⟩ => ⟨o, up _ _ n0 (hkp _ _ n1 n2 n3 n4 ho), q⟩
    refine wpAny_updateSeq hSl' rfl (wpAny_pure ⟨plainId_quiet PySem.F.plain_extend_loop _, ih (i + 1) _ tk _ (acc.push (Value.ref h.objs.size)) (as ++ [h.objs.size]) (by omega) hlt2 (hst'.keep up ⟨s1, s2, s3, s4, s5⟩) (tup hS1 D.l1z D.l1TO D.l1i1 D.l1i2 hl1) (tup hS2 D.l2z D.l2TO D.l2i1 D.l2i2 hl2)
      (fun b o b0 b1 b2 b3 b4 e => up b o b0 (hkp b o b1 b2 b3 b4 (hkeep b o b0 b1 b2 b3 b4 e))) (Heap.get?_update_self _ hSl' rfl) (by rw [Array.toList_push, hacc, List.map_append]; rfl) (by rw [List.length_append, hal]; rfl) ⟨?_, ?_, ?_⟩ (fun a ha => ?_) ?_⟩) (by rw [hsz]; omega) (by show (acc.push (Value.ref h.objs.size)).size ≤ sizeLine + 1; rw [Array.size_push]; omega)
    · refine List.pairwise_append.mpr ⟨hG.rise, List.pairwise_singleton _ _, fun a ha b hb => ?_⟩
      rw [List.mem_singleton.mp hb]
      exact hG.there ha
    · intro a ha
      rcases List.mem_append.mp ha with ha | ha
      · exact hG.above a ha
      · rw [List.mem_singleton.mp ha]; exact hSlt
    · intro j b hj
      rcases Nat.lt_trichotomy j as.length with h1 | h1 | h1
      · rw [List.getElem?_append_left h1] at hj
        obtain ⟨x', y', e1, e2, e3⟩ := hG.pairs j b hj
        have hb := hG.above b (List.mem_of_getElem? hj)
        obtain ⟨q1, q2, q3, q4⟩ := hge b (hlo b (List.mem_of_getElem? hj))
        exact ⟨x', y', e1, e2, up b _ (Nat.ne_of_gt hb) (hkp b _ q1 q2 q3 q4 e3)⟩
      · subst h1
        have hb : h.objs.size = b := by simpa using hj
        subst hb
        exact ⟨x, y, by rw [hal]; exact hx, by rw [hal]; exact hy, up _ _ (Nat.ne_of_gt hSlt) ht⟩
      · have hnone : (as ++ [h.objs.size])[j]? = none := List.getElem?_eq_none (by rw [List.length_append, List.length_singleton]; omega)
        rw [hnone] at hj; cases hj
    · rcases List.mem_append.mp ha with ha | ha
      · exact hlo a ha
      · rw [List.mem_singleton.mp ha]; exact hsz0
    · have e : (h'.update S (Obj.mapSeq (·.push (Value.ref h.objs.size)))).get? h.objs.size = _ := up _ _ (Nat.ne_of_gt hSlt) ht
      exact Nat.le_trans hsz0 (Nat.le_of_lt (Heap.lt_size e))

theorem zip_hint {z : Addr} {Q : Bool → Shared → Prop} (hT : s.TypeIs (.ref z) "zip") (h : Q true s) : wpAny (model prog w) A (Builtin.List.listLengthHint (.ref z)) Q E s := by
  unfold Builtin.List.listLengthHint
  refine wpAny_bind (wpAny_specialOf hT lookup_zip_len ?_)
  dsimp only
  refine wpAny_ite_split (fun hab => absurd hab (by decide)) (fun _ => ?_)
  refine wpAny_ite_split (fun hab => absurd hab (by decide)) (fun _ => ?_)
  refine wpAny_bind (wpAny_specialOf hT lookup_zip_hint ?_)
  exact wpAny_pure h
theorem zip_extend {S z TI TO i1 i2 l1 l2 : Addr} (hh : A.handled = none) (D : ZipApart z TI TO i1 i2 l1 l2) (hS : S ≠ z ∧ S ≠ TI ∧ S ≠ TO ∧ S ≠ i1 ∧ S ≠ i2) (hS1 : l1 ≠ S) (hS2 : l2 ≠ S)
    (hlt : z < s.heap.objs.size ∧ TO < s.heap.objs.size ∧ i1 < s.heap.objs.size ∧ i2 < s.heap.objs.size) (st : ZS S s.heap z TI TO i1 i2 l1 l2 0) (hz : IsZip s.heap z TI TO .none) (hl1 : s.heap.IsTuple l1 xs) (hl2 : s.heap.IsTuple l2 ys)
    (hn : xs.size ≤ sizeLine) (hxy : xs.size = ys.size) (res : Value) (c₀ : Nat) (hSl : s.heap.get? S = some { cls := .type "list", data := .seq #[] c₀ })
    (hR : ∀ h' tk acc c as, (∀ b o, b ≠ S → b ≠ z → b ≠ TO → b ≠ i1 → b ≠ i2 → s.heap.get? b = some o → h'.get? b = some o) → h'.get? S = some { cls := .type "list", dict := none, data := .seq acc c, slots := #[] } → as.length = xs.size → PG xs ys S h' as →
      acc.toList = as.map Value.ref → R (.ok (.ret res)) { s with heap := h', toks := tk }) :
    wpAny (model prog w) A.in1 (Builtin.List.listExtendWith (.ref S) (.ref z) res)
      (fun fin s' => match fin with | .done f => R (.ok f) s' | .again c' => c'.quiet = true ∧ codeAny (model prog w) A c' R s') (fun e s' => R (.error e) s') s := by
  have key : ∀ (h : Heap) (c₁ tk : Nat), (∀ b o, b ≠ S → s.heap.get? b = some o → h.get? b = some o) → s.heap.objs.size ≤ h.objs.size →
      h.get? S = some { cls := .type "list", data := .seq #[] c₁ } → codeAny (model prog w) A (.builtin "list.extend.loop" ⟨[.ref S, .ref z, res], []⟩) R { s with heap := h, toks := tk } := by
    intro h c₁ tk hk hsz hS₁
    refine zip_loop (s := s) (h₁ := s.heap) (lo0 := s.heap.objs.size) hh D hS hS1 hS2 hlt hn hxy res (fun h' tk' acc c as hk' hS' hl hG hacc => hR h' tk' acc c as hk' hS' hl hG hacc)
      xs.size 0 h tk c₁ #[] [] (Nat.sub_zero _) (Nat.zero_le _) (st.keep hk hS) ?_ ?_ (fun b o hb _ _ _ _ e => hk b o hb e) hS₁ rfl rfl
      ⟨List.Pairwise.nil, (fun _ ha => nomatch ha), (fun j a hj => by simp at hj)⟩ (fun a ha => nomatch ha) hsz
    · obtain ⟨o, ho, q⟩ := hl1
      exact ⟨o, hk _ _ hS1 ho, q⟩
    · obtain ⟨o, ho, q⟩ := hl2
      exact ⟨o, hk _ _ hS2 ho, q⟩
  unfold Builtin.List.listExtendWith
  have hT : s.TypeIs (.ref z) "zip" := ⟨_, hz, rfl⟩
  refine wpAny_bind (wpAny_typeOf (T := "zip") hT ?_)
  have h1 : Builtin.List.listSameRef (.ref S) (.ref z) = false := by simp [Builtin.List.listSameRef, hS.1]
  have h2 : (Value.type "zip" == Value.type "list") = false := by decide
  have h3 : (Value.type "zip" == Value.type "tuple") = false := by decide
  simp only [h1, h2, h3, Bool.or_false, Bool.false_eq_true, if_false]
  refine wpAny_bind (wpAny_pyIter_zip hz ?_)
  refine wpAny_bind (wpAny_holding (zip_hint hT ?_))
  refine wpAny_ite_split (fun _ => ?_) (fun _ => wpAny_pure ⟨plainId_quiet PySem.F.plain_extend_loop _, key _ c₀ _ (fun b o _ e => e) (Nat.le_refl _) hSl⟩)
  refine wpAny_bind (wpAny_rule ?_)
  refine wpAny_bind ?_
  show wpAny _ _ (updateSeq S (·.push .none) >>= fun _ => updateSeq S (·.pop)) _ _ _
  refine wpAny_bind (wpAny_updateSeq hSl rfl ?_)
  have hS₂ := Heap.get?_update_self (Obj.mapSeq (·.push Value.none)) hSl rfl
  refine wpAny_updateSeq (hz := by seq_fits) hS₂ rfl ?_
  have hS₃ := Heap.get?_update_self (Obj.mapSeq (·.pop)) hS₂ rfl
  refine wpAny_pure ⟨plainId_quiet PySem.F.plain_extend_loop _, key _ _ _ (fun b o hb e => ?_) ?_ hS₃⟩
  · exact (Heap.get?_update_other _ _ (Ne.symm hb)).trans ((Heap.get?_update_other _ _ (Ne.symm hb)).trans e)
  · exact Nat.le_of_eq (by rw [(Heap.SameBut.update _ _ _).1, (Heap.SameBut.update _ _ _).1])
/-- list(zip(t, u)) : the list's making -/
theorem call_list_zip {Q : Value → Shared → Prop} (hh : A.handled = none) {z TI TO i1 i2 l1 l2 : Addr} (D : ZipApart z TI TO i1 i2 l1 l2) (hz : IsZip s.heap z TI TO .none) (hTI : IsPair s.heap TI (.ref i1) (.ref i2)) (hTO : ∃ a b, IsPair s.heap TO a b)
    (h1 : s.heap.IsTupleIter i1 l1 0) (h2 : s.heap.IsTupleIter i2 l2 0) (hl1 : s.heap.IsTuple l1 xs) (hl2 : s.heap.IsTuple l2 ys) (hn : xs.size ≤ sizeLine) (hxy : xs.size = ys.size)
    (hQ : ∀ h' tk acc c as, (∀ b o, b ≠ z → b ≠ TO → b ≠ i1 → b ≠ i2 → s.heap.get? b = some o → h'.get? b = some o) → h'.get? s.heap.objs.size = some { cls := .type "list", dict := none, data := .seq acc c, slots := #[] } → as.length = xs.size → PG xs ys s.heap.objs.size h' as →
      acc.toList = as.map Value.ref → Q (.ref s.heap.objs.size) { s with heap := h', toks := tk }) :
    wpAny (model prog w) A (call (.type "list") [.ref z]) Q E s := by
  refine callType_codes (Q₁ := fun obj s₁ => obj = .ref s.heap.objs.size ∧ s₁ = { s with heap := s.heap.push { cls := .type "list", data := .seq #[] } }) PySem.F.called_list (PySem.F.typeCall_list_1 _) PySem.F.entry_list_init
    (code_list_new _ ⟨rfl, rfl⟩) fun obj s₁ h₁ => ?_
  obtain ⟨rfl, rfl⟩ := h₁
  have hS : (s.heap.push { cls := .type "list", data := .seq #[] }).get? s.heap.objs.size = some { cls := .type "list", data := .seq #[] } := Heap.get?_push_size _ rfl
  have lt : ∀ {b : Addr} {o : Obj}, s.heap.get? b = some o → b < s.heap.objs.size := fun e => Heap.lt_size e
  obtain ⟨a0, b0, hTO⟩ := hTO
  obtain ⟨o1, e1, q1⟩ := id h1
  obtain ⟨o2, e2, q2⟩ := id h2
  obtain ⟨ol1, el1, ql1⟩ := id hl1
  obtain ⟨ol2, el2, ql2⟩ := id hl2
  refine ⟨⟨_, hS, rfl⟩, PySem.F.args_list_init_2 _ _, ?_⟩
  show wpAny _ _ (do let old ← Builtin.List.listItems (.ref s.heap.objs.size); Builtin.List.listUpdate (.ref s.heap.objs.size) (fun _ => #[]); letGo old.toList.reverse; Builtin.List.listExtendWith (.ref s.heap.objs.size) (.ref z) .none) _ _ _
  refine wpAny_bind ?_
  unfold Builtin.List.listItems
  refine wpAny_bind (wpAny_seqItems hS rfl (wpAny_pure ?_))
  show wpAny _ _ (updateSeq s.heap.objs.size (fun _ => #[]) >>= fun _ => letGo (#[] : Array Value).toList.reverse >>= fun _ => Builtin.List.listExtendWith (.ref s.heap.objs.size) (.ref z) .none) _ _ _
  refine wpAny_bind (wpAny_updateSeq hS rfl ?_)
  have hS₂ := Heap.get?_update_self (Obj.mapSeq (fun _ => (#[] : Array Value))) hS rfl
  have oth : ∀ b o, s.heap.get? b = some o → ((s.heap.push { cls := .type "list", data := .seq #[] }).update s.heap.objs.size (Obj.mapSeq (fun _ => (#[] : Array Value)))).get? b = some o :=
    fun b o e => (Heap.get?_update_other _ _ (Nat.ne_of_gt (lt e))).trans (Heap.get?_push_of_some _ e)
  have hsz : s.heap.objs.size < ((s.heap.push { cls := .type "list", data := .seq #[] }).update s.heap.objs.size (Obj.mapSeq (fun _ => (#[] : Array Value)))).objs.size := Heap.lt_size hS₂
  refine wpAny_bind (wpAny_letGo ?_)
  refine zip_extend (A := A.in1) (R := wants (fun r s₂ => r = Value.none ∧ Q (Value.ref s.heap.objs.size) s₂) E) (s := { s with heap := (s.heap.push { cls := .type "list", data := .seq #[] }).update s.heap.objs.size (Obj.mapSeq (fun _ => (#[] : Array Value))) }) (TI := TI) (TO := TO) (i1 := i1) (i2 := i2) (l1 := l1) (l2 := l2) (xs := xs) (ys := ys) hh D ⟨Nat.ne_of_gt (lt hz), Nat.ne_of_gt (lt hTI), Nat.ne_of_gt (lt hTO), Nat.ne_of_gt (lt e1), Nat.ne_of_gt (lt e2)⟩ (Nat.ne_of_lt (lt el1)) (Nat.ne_of_lt (lt el2))
    ⟨Nat.lt_trans (lt hz) hsz, Nat.lt_trans (lt hTO) hsz, Nat.lt_trans (lt e1) hsz, Nat.lt_trans (lt e2) hsz⟩ ⟨oth _ _ hTI, ⟨o1, oth _ _ e1, q1⟩, ⟨o2, oth _ _ e2, q2⟩, .inl ⟨rfl, oth _ _ hz, a0, b0, oth _ _ hTO⟩⟩ (oth _ _ hz) ⟨ol1, oth _ _ el1, ql1⟩ ⟨ol2, oth _ _ el2, ql2⟩ hn hxy .none _ hS₂ (fun h' tk acc c as hk hS' hl hG hacc => ?_)
  exact ⟨rfl, hQ h' tk acc c as (fun b o b1 b2 b3 b4 e => hk b o (Nat.ne_of_lt (lt e)) b1 b2 b3 b4 (oth b o e)) hS' hl hG hacc⟩
end
end ZiL


set_option Elab.async false
set_option linter.all false
set_option maxRecDepth 100000
set_option maxHeartbeats 4000000
/-! list(zip(t, u)) over the layer. -/
namespace L2
open PySem PySem.Spec PyProof.Rows
/-- tuples at as, tracked -/
def putP : Hp → List Addr → List (V × V) → Hp
  | H, a :: as, p :: ps => putP (upd H a (.tup [p.1, p.2])) as ps
  | H, _, _ => H
theorem putP_off {b : Addr} : ∀ (as : List Addr) (ps : List (V × V)) (H : Hp), b ∉ as → putP H as ps b = H b
  | [], _, _, _ => rfl
  | _ :: _, [], _, _ => rfl
  | a :: as, p :: ps, H, h => by
    show putP (upd H a (.tup [p.1, p.2])) as ps b = H b
    rw [putP_off as ps _ (fun z => h (List.mem_cons_of_mem _ z)), upd_ne (fun z => h (by rw [z]; exact List.mem_cons_self))]
theorem putP_at : ∀ (as : List Addr) (ps : List (V × V)) (H : Hp), as.length = ps.length → as.Nodup → ∀ (i : Nat) (a : Addr) (p : V × V), as[i]? = some a → ps[i]? = some p → putP H as ps a = some (.tup [p.1, p.2])
  | [], _, _, _, _, i, a, p, h, _ => by simp at h
  | _ :: _, [], _, h, _, _, _, _, _, _ => by simp at h
  | a :: as, p :: ps, H, hl, hn, 0, b, q, h1, h2 => by
    cases h1
    cases h2
    have hn' := List.nodup_cons.mp hn
    show putP (upd H a (.tup [p.1, p.2])) as ps a = some (.tup [p.1, p.2])
    rw [putP_off as ps _ hn'.1, upd_same]
  | a :: as, p :: ps, H, hl, hn, i + 1, b, q, h1, h2 => putP_at as ps _ (Nat.succ.inj hl) (List.nodup_cons.mp hn).2 i b q h1 h2
theorem vals_refs2 : ∀ as : List Addr, Vals (as.map V.ref) (as.map Value.ref)
  | [] => .nil
  | _ :: as => .cons rfl (vals_refs2 as)
/-- list(zip(e, e2)), both tuples of one length -/
def tLstZip (K : PySem.W.Frag) (ta : TA) : TE := fun σ H Q => ta σ H fun vs H1 => ∃ (a b : Addr) (xs ys : List V), vs = [.ref a, .ref b] ∧ SqT K H1 a xs ∧ SqT K H1 b ys ∧ xs.length = ys.length ∧
  ∀ (H' : Hp) (p : Addr) (ts : List Addr), (∀ b o, H1 b = some o → H' b = some o) → H1 p = none → ts.length = xs.length → H' p = some (.lst (ts.map V.ref)) →
    (∀ (i : Nat) (t : Addr) (x y : V), ts[i]? = some t → xs[i]? = some x → ys[i]? = some y → H' t = some (.tup [x, y])) → Q (.ref p) H'
section
variable {X : Cx} {e e2 : Expr} {ta : TA} {p p2 pos pos2 : Pos}
theorem zip_laid {pins : List (Addr × Obj)} {σ : L2.St} {H : Hp} {s : Shared} {h' : Heap} {tk S : Nat} {xs ys : List V} {us us2 : List Value} {acc : Array Value} {c : Nat} {as : List Addr} (I : Inv X pins σ H s) (hz : xs.length ≤ sizeLine) (hxy : xs.length = ys.length) (rx : Vals xs us) (ry : Vals ys us2)
    (hk : ∀ b o, s.heap.get? b = some o → h'.get? b = some o) (hSs : s.heap.objs.size ≤ S) (hS : h'.get? S = some { cls := .type "list", dict := none, data := .seq acc c, slots := #[] }) (hl : as.length = xs.length) (hG : ZiL.PG us.toArray us2.toArray S h' as) (hacc : acc.toList = as.map Value.ref) :
    ∃ H' : Hp, (∀ b o, H b = some o → H' b = some o) ∧ H S = none ∧ H' S = some (.lst (as.map V.ref)) ∧ (∀ (i : Nat) (t : Addr) (x y : V), as[i]? = some t → xs[i]? = some x → ys[i]? = some y → H' t = some (.tup [x, y])) ∧ Inv X pins σ H' { s with heap := h', toks := tk } := by
  have hSn : S ∉ as := fun z => Nat.lt_irrefl _ (hG.above _ z)
  have nd : as.Nodup := List.Pairwise.imp (fun {a b} (h : a < b) => Nat.ne_of_lt h) hG.rise
  have new : ∀ t ∈ as, H t = none := fun t ht => I.hok.fresh (Nat.le_of_lt (Nat.lt_of_le_of_lt hSs (hG.above t ht)))
  have newS : H S = none := I.hok.fresh hSs
  have lz : as.length = (xs.zip ys).length := by rw [List.length_zip]; omega
  have atP := putP_at as (xs.zip ys) (upd H S (.lst (as.map V.ref))) lz nd
  have off : ∀ b, b ∉ as → b ≠ S → putP (upd H S (.lst (as.map V.ref))) as (xs.zip ys) b = H b := fun b h1 h2 => by rw [putP_off as _ _ h1, upd_ne h2]
  have low : ∀ b o, s.heap.get? b = some o → b ∉ as ∧ b ≠ S := fun b o e => ⟨fun z => absurd (Heap.lt_size e) (Nat.not_lt.mpr (Nat.le_of_lt (Nat.lt_of_le_of_lt hSs (hG.above b z)))), Nat.ne_of_lt (Nat.lt_of_lt_of_le (Heap.lt_size e) hSs)⟩
  have kp : ∀ b u, H b = some u → (putP (upd H S (.lst (as.map V.ref))) as (xs.zip ys)) b = some u := fun b u e => by
    rw [off b (fun z => by rw [new b z] at e; cases e) (fun z => by rw [z, newS] at e; cases e)]
    exact e
  have eS : putP (upd H S (.lst (as.map V.ref))) as (xs.zip ys) S = some (.lst (as.map V.ref)) := by rw [putP_off as _ _ hSn, upd_same]
  have pz : ∀ (i : Nat) (x y : V), xs[i]? = some x → ys[i]? = some y → (xs.zip ys)[i]? = some (x, y) := fun i x y h1 h2 => by rw [List.getElem?_zip_eq_some]; exact ⟨h1, h2⟩
  refine ⟨putP (upd H S (.lst (as.map V.ref))) as (xs.zip ys), kp, newS, eS, fun i t x y h1 h2 h3 => atP i t (x, y) h1 (pz i x y h2 h3), ?_⟩
  refine I.call' (ch := []) rfl ⟨fun b o q _ _ _ => hk b o q, fun b o q _ _ _ => ⟨o.slots, hk b o q⟩, fun b o q n _ => ?_, fun b o q _ => ⟨o, hk b o q⟩, fun b xs q => kp b _ q, fun b o u q => kp b _ q, fun b ps q => ⟨#[], by rw [kp b _ q]; simp⟩⟩ (fun b u q => ?_) I.bare fun b z => by simp at z
  · obtain ⟨z1, z2⟩ := low b o q
    rw [off b z1 z2]
    exact n
  · by_cases hb : b ∈ as
    · obtain ⟨j, e1⟩ := List.mem_iff_getElem?.mp hb
      obtain ⟨x', y', f1, f2, f3⟩ := hG.pairs j b e1
      have hj : j < xs.length := by rw [← hl]; exact (List.getElem?_eq_some_iff.mp e1).1
      have hx : xs[j]? = some xs[j] := List.getElem?_eq_getElem hj
      have hy : ys[j]? = some (ys[j]'(by omega)) := List.getElem?_eq_getElem (by omega)
      have e3 := atP j b _ e1 (pz j _ _ hx hy)
      rw [e3] at q
      cases q
      obtain ⟨u1, g1, r1⟩ := rx.get hx
      obtain ⟨u2, g2, r2⟩ := ry.get hy
      have ex : u1 = x' := by
        have : us.toArray[j]? = some u1 := by simpa using g1
        rw [f1] at this
        exact (Option.some.inj this).symm
      have ey : u2 = y' := by
        have : us2.toArray[j]? = some u2 := by simpa using g2
        rw [f2] at this
        exact (Option.some.inj this).symm
      subst ex ey
      exact ⟨by show 2 ≤ sizeLine; decide, [u1, u2], .cons r1 (.cons r2 .nil), ⟨_, f3, rfl, _, rfl⟩⟩
    · by_cases hb2 : b = S
      · rw [hb2] at q ⊢
        rw [eS] at q
        cases q
        refine ⟨by rw [List.length_map]; omega, acc.toList, c, by rw [hacc]; exact vals_refs2 as, ?_⟩
        rw [Array.toArray_toList]
        exact hS
      · rw [off b hb hb2] at q
        exact (I.hok b u q).stay (fun d v _ y => hk d v y) (fun d y => kp d _ y) fun d xs y => kp d _ y
theorem pe_lstZip (hc : X.calm = true) (hgl : Gl X "list") (hml : X.mg "list" = none) (hvl : bootBuiltins "list" = some (.type "list")) (hg : Gl X "zip") (hm : X.mg "zip" = none) (ha : PA X [e, e2] ta)
    (hs : starEach [e, e2] X.env = (false, eval e X.env) :: starEach [e2] X.env := by rfl) (hpl : (backTo pos (starEach [e2] X.env)).any (·.1) = false := by rfl)
    (hs2 : starEach [.Call (.Name "zip" p) [e, e2] [] pos] X.env = (false, eval (.Call (.Name "zip" p) [e, e2] [] pos) X.env) :: starEach [] X.env := by rfl) :
    PE X (.Call (.Name "list" p2) [.Call (.Name "zip" p) [e, e2] [] pos] [] pos2) (tLstZip X.K ta) := by
  refine ⟨fun pins s σ H Q I h => ?_⟩
  refine wpAny_Call_Name_kw (ld_blt I hgl hml hvl ?_)
  refine PyProof.Rows.callWith_type1 ?_ hs2 rfl
  rw [hs2]
  show wpAny _ _ (spliced ((false, eval (.Call (.Name "zip" p) [e, e2] [] pos) X.env) :: backTo pos2 (starEach [] X.env))) _ _ s
  refine PySem.Calls.spliced_cons ?_
  refine wpAny_Call_Name_kw (ld_blt I hg hm PyProof.Rows.boot_zip (PyProof.Rows.callWith_type1 (thn (ha.run pos pins s σ H _ I h) fun us s1 ⟨vs, H1, I1, r1, q1⟩ => ?_) hs hpl))
  obtain ⟨a, b, xs, ys, ex, hqx, hqy, hxy, q⟩ := q1
  subst ex
  cases r1 with
  | cons r rr =>
    cases rr with
    | cons r' rr =>
      cases rr
      cases r
      cases r'
      obtain ⟨its, rv, p1, hz1⟩ := I1.tuple hqx
      obtain ⟨its2, rv2, p2, hz2⟩ := I1.tuple hqy
      obtain ⟨o1, ho1, _⟩ := id p1
      obtain ⟨o2, ho2, _⟩ := id p2
      have l1 := rv.length
      have l2 := rv2.length
      refine RZ.call_zipT (show s1.heap.IsTuple a its.toArray from p1) (show s1.heap.IsTuple b its2.toArray from p2) fun h' hz hTI hTO h1 h2 hsz hk => ?_
      refine PySem.Calls.spliced_nil ?_
      have I2 : Inv X pins σ H1 { s1 with heap := h' } := I1.kept (t' := s1.toks) hk
      have D := PySem.W.ktu_apart s1.heap.objs.size a b (Heap.lt_size ho1) (Heap.lt_size ho2)
      refine ZiL.call_list_zip (s := { s1 with heap := h' }) (xs := its.toArray) (ys := its2.toArray) (I1.ok.hd hc) D hz hTI ⟨_, _, hTO⟩ h1 h2 ⟨o1, hk _ _ ho1, by assumption⟩ ⟨o2, hk _ _ ho2, by assumption⟩ (by rw [List.size_toArray]; omega) (by rw [List.size_toArray, List.size_toArray]; omega) fun h'' tk acc c as hk2 hS hl hG hacc => ?_
      have hsz2 : h'.objs.size = s1.heap.objs.size + 5 := hsz
      have hkk : ∀ b' o, s1.heap.get? b' = some o → h''.get? b' = some o := fun b' o e => by
        have hb : b' < s1.heap.objs.size := Heap.lt_size e
        exact hk2 b' o (Nat.ne_of_lt (Nat.lt_of_lt_of_le hb (Nat.le_add_right _ _))) (Nat.ne_of_lt (Nat.lt_of_lt_of_le hb (Nat.le_add_right _ _))) (Nat.ne_of_lt hb) (Nat.ne_of_lt (Nat.lt_of_lt_of_le hb (Nat.le_add_right _ _))) (hk b' o e)
      obtain ⟨H', k1, k2, k3, k4, J⟩ := zip_laid (tk := tk) (S := h'.objs.size) I1 (by omega) hxy rv rv2 hkk (by omega) hS (by rw [hl, List.size_toArray]; omega) hG hacc
      exact ⟨.ref _, H', J, rfl, q H' _ as k1 k2 (by rw [hl, List.size_toArray]; omega) k3 k4⟩
end
end L2


set_option Elab.async false
set_option linter.all false
set_option maxRecDepth 100000
set_option maxHeartbeats 4000000
namespace K03
open PySem PySem.Spec PyProof.Rows L2
open Evl (Ex)
/-- one reading or the other -/
def tOr (t u : TS) : TS := fun D σ H => t D σ H ∨ u D σ H
theorem ps_or {X : Cx} {st : Stmt} {t u : TS} (a : PS X st t) (b : PS X st u) : PS X st (tOr t u) := ⟨fun pins s σ H D I h => h.elim (a.run pins s σ H D I) (b.run pins s σ H D I)⟩
section
variable {w : World} {K : PySem.W.Frag} {mg : Str → Option Value} {base : Heap}
/-- a whole number, None, a list or a tuple -/
inductive Kd (H : Hp) : V → Prop where
  | int (n : Int) : Kd H (.int n)
  | non : Kd H .non
  | lst {a : Addr} {xs : List V} (h : H a = some (.lst xs)) : Kd H (.ref a)
  | tup {a : Addr} {xs : List V} (h : H a = some (.tup xs)) : Kd H (.ref a)
def isI : V → Bool
  | .int _ => true
  | _ => false
def isR : V → Bool
  | .ref _ => true
  | _ => false
theorem Kd.ty {K : PySem.W.Frag} {H : Hp} {v : V} (k : Kd H v) : ∃ t : String, TyX K H v (.type t) ∧ kitB t "int" = some (isI v) ∧ (isI v = true → kitB t "bool" = some false) ∧ ∃ r : Bool × Bool, kitB t "tuple" = some r.1 ∧ kitB t "list" = some r.2 ∧ (r.1 || r.2) = isR v := by
  cases k with
  | int n => exact ⟨"int", .base (.int n), by show _ = some true; decide +kernel, fun _ => by decide +kernel, (false, false), by decide +kernel, by decide +kernel, rfl⟩
  | non => exact ⟨"NoneType", .base .non, by show _ = some false; decide +kernel, (fun z => nomatch z), (false, false), by decide +kernel, by decide +kernel, rfl⟩
  | lst h => exact ⟨"list", .base (.lst h), by show _ = some false; decide +kernel, (fun z => nomatch z), (false, true), by decide +kernel, by decide +kernel, rfl⟩
  | tup h => exact ⟨"tuple", .base (.tup h), by show _ = some false; decide +kernel, (fun z => nomatch z), (true, false), by decide +kernel, by decide +kernel, rfl⟩
theorem Kd.ex {H H' : Hp} {v : V} (k : Kd H v) (e : Ex H H') : Kd H' v := by
  cases k with
  | int n => exact .int n
  | non => exact .non
  | lst h => exact .lst (e _ _ h)
  | tup h => exact .tup (e _ _ h)
def spWholeG : Sp := fun vs H Q _ => ∃ v : V, vs = [v] ∧ Kd H v ∧ Q (.bl (isI v)) H
theorem has_is_wholeG (T : Ctx K mg) : Has w K mg base CX0 "is_whole" 1 ["value"] spWholeG := by
  refine has_of (st := s_is_whole) (f := He.ga K "is_whole") T.d_is_whole T.g_is_whole (fun _ _ _ _ _ _ us hl => match us, hl with | [_], _ => rfl) fun fd F => ?_
  refine ok0 F sc_is_whole (fun vs H Q E h => ?_) (fun cdv A outer s H vs Q E hr h => ?_)
  · obtain ⟨v, rfl, _⟩ := h
    rfl
  · obtain ⟨v, rfl, hk, k⟩ := h
    obtain ⟨t, ht, h1, h2, _⟩ := hk.ty (K := K)
    refine ⟨_, pss_one (ps_ret (pe_and (pe_callB call_isi (by rfl) T.b_isinstance (by decide +kernel) (pa_cons (pv 0) (pa_cons (pe_bltn (by rfl) T.b_int (by decide +kernel) (v := .ty "int") rfl) pa_nil)))
      (pe_one (pe_not (pe_callB call_isi (by rfl) T.b_isinstance (by decide +kernel) (pa_cons (pv 0) (pa_cons (pe_bltn (by rfl) T.b_bool (by decide +kernel) (v := .ty "bool") rfl) pa_nil))))))), ?_⟩
    refine ⟨_, rfl, _, _, _, _, isI v, rfl, .ty "int", ht, kit_ty h1, isI v, rfl, ?_⟩
    cases c : isI v with
    | true =>
      rw [c] at k
      exact iteT ⟨_, rfl, _, _, _, _, false, rfl, .ty "bool", ht, kit_ty (h2 c), false, rfl, k⟩
    | false =>
      rw [c] at k
      exact iteF k
def inB (v : V) (lo hi : Int) : Bool := match v with
  | .int n => decide (lo ≤ n ∧ n ≤ hi)
  | _ => false
def spWithinG : Sp := fun vs H Q _ => ∃ (v : V) (lo hi : Int), vs = [v, .int lo, .int hi] ∧ Kd H v ∧ Q (.bl (inB v lo hi)) H
theorem has_is_withinG (T : Ctx K mg) : Has w K mg base CX0 "is_within" 2 ["value", "low", "high"] spWithinG := by
  obtain ⟨f1, fd1, m1, kp1, F1, b1⟩ := has_is_wholeG (w := w) (base := base) T
  refine has_of (st := s_is_within) (f := He.ga K "is_within") T.d_is_within T.g_is_within (fun _ _ _ _ _ _ us hl => match us, hl with | [_, _, _], _ => rfl) fun fd F => ?_
  refine ok0 F sc_is_within (fun vs H Q E h => ?_) (fun cdv A outer s H vs Q E hr h => ?_)
  · obtain ⟨n, lo, hi, rfl, _⟩ := h
    rfl
  · obtain ⟨v, lo, hi, rfl, hk, k⟩ := h
    refine ⟨_, pss_one (ps_ret (pe_and (pe_call F1 hr (by rfl) m1 kp1 b1 .nil pass0 (pa_cons (pv 0) pa_nil)) (pe_one (pe_chain op_le op_le (pv 1) (pv 0) (pv 2))))), ?_⟩
    refine ⟨_, rfl, v, rfl, hk, isI v, rfl, ?_⟩
    cases v with
    | int n =>
      refine iteT ?_
      have k' : Q (.bl (decide (lo ≤ n ∧ n ≤ hi))) H := k
      refine ⟨_, rfl, _, rfl, _, _, rfl, rfl, _, rfl, ?_⟩
      by_cases c : lo ≤ n
      · rw [decide_eq_true c]
        refine iteT ⟨_, rfl, _, _, rfl, rfl, ?_⟩
        have e : decide (lo ≤ n ∧ n ≤ hi) = decide (n ≤ hi) := by simp [c]
        rw [e] at k'
        exact k'
      · rw [decide_eq_false c]
        refine iteF ?_
        have e : decide (lo ≤ n ∧ n ≤ hi) = false := by simp [c]
        rw [e] at k'
        exact k'
    | _ => exact iteF k
def spRowG : Sp := fun vs H Q _ => ∃ v, vs = [v] ∧ Kd H v ∧ ∀ H', Ex H H' → Q (.bl (isR v)) H'
theorem has_is_rowG (T : Ctx K mg) : Has w K mg base CX0 "is_row" 1 ["value"] spRowG := by
  refine has_of (st := s_is_row) (f := He.ga K "is_row") T.d_is_row T.g_is_row (fun _ _ _ _ _ _ us hl => match us, hl with | [_], _ => rfl) fun fd F => ?_
  refine ok0 F sc_is_row (fun vs H Q E h => ?_) (fun cdv A outer s H vs Q E hr h => ?_)
  · obtain ⟨a, rfl, _⟩ := h
    rfl
  · obtain ⟨v, rfl, hk, k⟩ := h
    refine ⟨_, pss_one (ps_ret (pe_callB call_isiT (by rfl) T.b_isinstance (by decide +kernel) (pa_cons (pv 0) (pa_cons (pe_tup (pa_cons (pe_bltn (by rfl) T.b_tuple (by decide +kernel) (v := .ty "tuple") rfl) (pa_cons (pe_bltn (by rfl) T.b_list (by decide +kernel) (v := .ty "list") rfl) pa_nil))) pa_nil)))), ?_⟩
    refine ⟨_, rfl, (by show 2 ≤ sizeLine; decide), fun p hp => ?_⟩
    have e1 := Ex.new (o := .tup [V.ty "tuple", .ty "list"]) hp
    obtain ⟨t, ht, _, _, r, h1, h2, h3⟩ := (hk.ex e1).ty (K := K)
    refine ⟨_, p, _, _, _, isR v, rfl, upd_same, .cons (.ty "tuple") (.cons (.ty "list") .nil), ht, ?_, k _ e1⟩
    have hv : (r.1 || r.2) = isR v := h3
    rw [← hv]
    refine kitAny_cons (kit_ty h1) (fun z => ?_) (fun z => by rw [z]; rfl)
    refine kitAny_cons (kit_ty h2) (fun z2 => ?_) (fun z2 => by rw [z2]; simp)
    rw [z, z2]
    rfl
end
end K03


set_option Elab.async false
set_option linter.all false
set_option maxRecDepth 100000
set_option maxHeartbeats 4000000
namespace K03
open PySem PySem.Spec PyProof.Rows L2
open Evl (Ex)
section
variable {w : World} {K : PySem.W.Frag} {mg : Str → Option Value} {base : Heap}
theorem Ctx.bs (T : Ctx K mg) : PySem.BadSetX.BadSetTxt K mg (He.ga K "BadSet") (He.ma K (He.ga K "BadSet") "__init__") := by
  obtain ⟨fd, F⟩ := T.d_BadSet___init__
  obtain ⟨oc, od, dV, kV, doc, pm, an, cdv, ct, osl, rfl, lk, hcd, hD, hK⟩ := F.ex
  rcases hD with ⟨_, rfl⟩ | ⟨e, _⟩
  · exact ⟨T.g_BadSet, T.xc_BadSet, T.xsa_BadSet, T.xga_BadSet, T.xgg_BadSet, T.xnn_BadSet, T.xii_BadSet, T.xt_BadSet, T.xk_BadSet, T.xs_BadSet, T.xy_BadSet, T.xd_BadSet, T.te_BadSet, ⟨oc, od, kV, doc, pm, an, cdv, ct, osl, _, _, _, _, _, _, lk, hcd⟩⟩
  · exact absurd rfl e
/-- BadSet with its place leaves the def -/
def Bad (K : PySem.W.Frag) (H : Hp) (E : XK) (n : Int) : Prop := ∀ H' d, Ex H H' → H d = none → H' d = some (.xd [(("place" : Str), .int n)]) → E (.ref (He.ga K "BadSet")) (some d) H'
theorem Bad.go {H H1 : Hp} {E : XK} {n : Int} {d : Addr} (h : Bad K H E n) (e : Ex H H1) (hd : H1 d = none) : E (.ref (He.ga K "BadSet")) (some d) (upd H1 d (.xd [(("place" : Str), .int n)])) := h _ _ (e.trans (Ex.new hd)) (Evl.fresh_back e hd) upd_same
theorem Bad.ex {H H1 : Hp} {E : XK} {n : Int} (h : Bad K H E n) (e : Ex H H1) : Bad K H1 E n := fun H' d e' hd hx => h H' d (e.trans e') (Evl.fresh_back e hd) hx
theorem okX {x : Str} {st : Stmt} {f : Addr} {fd : FuncData} {N ps : List Str} {k : Nat} {sp : Sp} {dvs : List V} {kws : List (Str × V)} {qual : Str} (F : FunD K x qual (defArgs st) (defBody st) (defScope st) dvs kws f fd) (S : FnScope N ps (defScope st)) (len : ∀ vs H Q E, sp vs H Q E → vs.length = ps.length)
    (hbody : ∀ (cdv : Value) (A : Around) (outer : List Env) (s : Shared) (H : Hp) (vs : List V) (Q : VK) (E : XK), Room k (A.deeper (envOfC qual (defScope st) s.heap.objs.size f cdv)) → sp vs H Q E →
      ∃ t, PSs (cxOf (L2.CX PP w) PP w K mg base N qual (defScope st) f cdv A outer s H E) (defBody st) t ∧ t { nx := fun _ H' => Q .non H', rt := Q } (start N vs) H) : FnOk PP w K mg base (L2.CX PP w) (k + 1) f fd ps sp := F.ok S len hbody
theorem pass_none {X : Cx} (hX : X.prog = PP) (hw : X.w = w) : Passes (L2.CX PP w) X E0 := by
  rw [← hX, ← hw]
  exact passes_call (W := fun _ _ _ _ => False) takes0 (fun _ _ _ _ h => h)
/-- a row of whole numbers, list or tuple -/
def RowI (H : Hp) (v : V) (ns : List Int) : Prop := ∃ a, v = .ref a ∧ (H a = some (.lst (ns.map V.int)) ∨ H a = some (.tup (ns.map V.int)))
theorem RowI.ex {H H' : Hp} {v : V} {ns : List Int} (h : RowI H v ns) (e : Ex H H') : RowI H' v ns := by
  obtain ⟨a, rfl, q⟩ := h
  exact ⟨a, rfl, q.imp (e _ _) (e _ _)⟩
/-- parts of m, each once -/
structure Parts (m : Int) (ns : List Int) : Prop where
  nd : ns.Nodup
  inn : ∀ n ∈ ns, 0 ≤ n ∧ n < m
  few : ns.length < 60
/-- ms is ns in order -/
structure Ord (ns ms : List Int) : Prop where
  asc : ms.Pairwise (· < ·)
  mem : ∀ k, k ∈ ms ↔ k ∈ ns
def spSet (K : PySem.W.Frag) : Sp := fun vs H Q E => ∃ (m : Int) (v : V), vs = [.int m, v] ∧ 0 ≤ m ∧
  ((∃ ns, RowI H v ns ∧ Parts m ns ∧ ∀ ms H' p, Ord ns ms → Ex H H' → H p = none → H' p = some (.tup (ms.map V.int)) → Q (.ref p) H') ∨
   (∃ a ns y ys, v = .ref a ∧ H a = some (.lst (ns.map V.int ++ y :: ys)) ∧ Parts m ns ∧ (∀ z ∈ ys, Kd H z) ∧ Kd H y ∧ (inB y 0 (m - 1) = false ∨ ∃ n ∈ ns, y = .int n) ∧ Bad K H E ns.length) ∨
   (v = .non ∧ Bad K H E (-1)))
theorem nodup_new {ns : List Int} {i : Nat} {z : Int} (hp : ns.Nodup) (h : ns[i]? = some z) : z ∉ ns.take i := by
  intro q
  obtain ⟨j, hj, e⟩ := List.mem_iff_getElem.mp q
  obtain ⟨hil, hie⟩ := List.getElem?_eq_some_iff.mp h
  rw [List.length_take] at hj
  have hji : j < i := by omega
  rw [List.getElem_take] at e
  exact (List.pairwise_iff_getElem.mp hp j i (by omega) hil hji) (e.trans hie.symm)
theorem has_set (T : Ctx K mg) : Has w K mg base (L2.CX PP w) "set_of" 3 ["many", "parts"] (spSet K) := by
  obtain ⟨f1, fd1, m1, kp1, F1, b1⟩ := has_is_count (w := w) (base := base) T
  obtain ⟨f2, fd2, m2, kp2, F2, b2⟩ := has_is_rowG (w := w) (base := base) T
  obtain ⟨f3, fd3, m3, kp3, F3, b3⟩ := has_is_withinG (w := w) (base := base) T
  refine has_of (st := s_set_of) (f := He.ga K "set_of") T.d_set_of T.g_set_of (fun _ _ _ _ _ _ us hl => match us, hl with | [_, _], _ => rfl) fun fd F => ?_
  refine okX F sc_set_of (fun vs H Q E h => ?_) (fun cdv A outer s H vs Q E hr h => ?_)
  · obtain ⟨m, a, rfl, _⟩ := h
    rfl
  · obtain ⟨m, v, rfl, hm, hcase⟩ := h
    have nd := sc_set_of.nd
    have hr1 := hr.mono (show 1 ≤ 2 by decide)
    refine ⟨_, pss_cons (ps_if (pt_not (pt_val (pe_call F1 hr (by rfl) m1 kp1 b1 .nil pass0 (pa_cons (pv 0) pa_nil)))) (pss_one ps_never) pss_nil)
      (pss_cons (ps_if (pt_not (pt_val (pe_call F2 hr1 (by rfl) m2 kp2 b2 .nil pass0 (pa_cons (pv 1) pa_nil)))) (pss_one (ps_raiseBadSet (W := fun cls d _ H => E cls d H) rfl T.bs hr (takes_of rfl rfl rfl rfl) (pa_cons (pe_un un_neg pe_int) pa_nil))) pss_nil)
      (pss_cons (ps_set (i := 2) nd rfl (.inl rfl) (pe_callTy0 cr_set0 (by rfl) T.b_set (by decide +kernel)))
      (pss_cons (ps_or (ps_for (passes_of rfl) rfl (pi_enum (by rfl) T.b_enumerate (pa_cons (pv 1) pa_nil)) (pg_tup (by rfl) (pgs_cons (pg_name (i := 3) nd rfl (.inl rfl)) (pgs_cons (pg_name (i := 4) nd rfl (.inl rfl)) pgs_nil)))
        (pss_cons (ps_if (PW.pt (pw_or (pt_not (pt_val (pe_call F3 hr (by rfl) m3 kp3 b3 .nil pass0 (pa_cons (pv 4) (pa_cons pe_int (pa_cons (pe_op op_sub (pv 0) pe_int) pa_nil)))))) (pw_or1 (pt_cmpR or_sin (pv 4) (pv 2) (by rfl))))) (pss_one (ps_raiseBadSet (W := fun cls d _ H => E cls d H) rfl T.bs hr (takes_of rfl rfl rfl rfl) (pa_cons (pv 3) pa_nil))) pss_nil)
        (pss_one (ps_expr (pe_sadd (pv 2) (pa_cons (pv 4) pa_nil))))))
        (ps_for (passes_of rfl) rfl (pi_enumT (by rfl) T.b_enumerate (pa_cons (pv 1) pa_nil)) (pg_tup (by rfl) (pgs_cons (pg_name (i := 3) nd rfl (.inl rfl)) (pgs_cons (pg_name (i := 4) nd rfl (.inl rfl)) pgs_nil)))
        (pss_cons (ps_if (PW.pt (pw_or (pt_not (pt_val (pe_call F3 hr (by rfl) m3 kp3 b3 .nil pass0 (pa_cons (pv 4) (pa_cons pe_int (pa_cons (pe_op op_sub (pv 0) pe_int) pa_nil)))))) (pw_or1 (pt_cmpR or_sin (pv 4) (pv 2) (by rfl))))) (pss_one (ps_raiseBadSet (W := fun cls d _ H => E cls d H) rfl T.bs hr (takes_of rfl rfl rfl rfl) (pa_cons (pv 3) pa_nil))) pss_nil)
        (pss_one (ps_expr (pe_sadd (pv 2) (pa_cons (pv 4) pa_nil)))))))
      (pss_one (ps_ret (pe_callTy call_tuple_of (by rfl) T.b_tuple (by decide +kernel) (pa_cons (pe_callB (cr_sortedSet rfl) (by rfl) T.b_sorted (by decide +kernel) (pa_cons (pv 2) pa_nil)) pa_nil))))))), ?_⟩
    refine ⟨_, rfl, m, rfl, decide (0 ≤ m), rfl, ?_⟩
    rw [decide_eq_true hm]
    refine iteF ?_
    rcases hcase with ⟨ns, hR, hP, k⟩ | ⟨a, ns, y0, ys, rfl, ha, hP, hys, hy0, hbad, hB⟩ | ⟨rfl, hB⟩
    · obtain ⟨a, rfl, ha⟩ := hR
      have hKd : Kd H (.ref a) := ha.elim Kd.lst Kd.tup
      refine ⟨_, rfl, _, rfl, hKd, fun H1 e1 => ⟨true, rfl, iteF ?_⟩⟩
      refine ⟨rfl, fun q hq => ?_⟩
      have e2 : Ex H (upd H1 q (SetO w q (fun _ => false) 0)) := e1.trans (Ex.new hq)
      have hq0 : H q = none := Evl.fresh_back e1 hq
      rcases ha with ha | ha
      · refine .inl ⟨_, rfl, a, _, rfl, Ex.lst e2 ha, for_it walk_enum (fun i σ H' => ∃ (p f : Option V) (S : Int → Bool), σ = [some (.int m), some (.ref a), some (.ref q), p, f] ∧ Ex H H' ∧ H' q = some (SetO w q S i) ∧ ∀ j, S j = true ↔ j ∈ ns.take i)
          ⟨none, none, _, rfl, e2, upd_same, fun j => by simp⟩ (fun i σ H' _ ⟨_, _, _, _, e, _⟩ => Ex.lst e ha) ?_ ?_⟩
        · rintro i v σ H2 H3 hi ⟨p, f, S, rfl, e3, hS, hSm⟩ ⟨t, x, y, rfl, ht, rfl, hx1, hy⟩
          cases hx1
          obtain ⟨z, hz, rfl⟩ := map_int_get hy
          have hzb := hP.inn z (List.mem_of_getElem? hz)
          have hqt : q ≠ t := ne_of_none hS ht
          have hSf : S z = false := by
            cases c : S z with
            | false => rfl
            | true => exact absurd ((hSm z).mp c) (nodup_new hP.nd hz)
          have hil : i < ns.length := (List.getElem?_eq_some_iff.mp hz).1
          have few := hP.few
          refine ⟨t, _, rfl, SqT.of upd_same, rfl, _, _, rfl, _, _, rfl, rfl, ?_⟩
          refine ⟨_, rfl, _, rfl, _, _, rfl, rfl, .int z, 0, m - 1, rfl, .int z, inB (.int z) 0 (m - 1), rfl, ?_⟩
          show (if (!decide (0 ≤ z ∧ z ≤ m - 1)) = true then _ else _)
          rw [decide_eq_true (show 0 ≤ z ∧ z ≤ m - 1 by omega)]
          refine iteF ?_
          refine ⟨_, rfl, _, rfl, z, q, S, i, rfl, rfl, by rw [upd_ne hqt]; exact hS, S z, rfl, ?_⟩
          rw [hSf]
          refine iteF ?_
          refine ⟨_, rfl, ⟨q, S, i, rfl, by rw [upd_ne hqt]; exact hS⟩, _, rfl, q, z, S, i, rfl, rfl, by rw [upd_ne hqt]; exact hS, ?_, ?_⟩
          · show i + 1 < 4096
            omega
          · rw [hSf, if_neg Bool.false_ne_true]
            refine ⟨_, _, _, rfl, Evl.Ex.mut (e3.trans (Ex.new ht)) hq0, upd_same, fun j => ?_⟩
            rw [take_succ_mem hz, Bool.or_eq_true, decide_eq_true_iff, hSm]
        · rintro σ H2 ⟨p, f, S, rfl, e3, hS, hSm⟩
          rw [List.length_map] at hS hSm
          rw [List.take_length] at hSm
          have few := hP.few
          refine ⟨_, rfl, q, S, _, rfl, hS, by omega, fun ns' p' hp' hmem hlen hnew => ?_⟩
          refine ⟨p', _, rfl, .inl ⟨SqL.of upd_same, fun l hl2 => ?_⟩⟩
          exact k ns' _ _ ⟨hp', fun j => (hmem j).trans (hSm j)⟩ ((e3.trans (Ex.new hnew)).trans (Ex.new hl2)) (Evl.fresh_back (e3.trans (Ex.new hnew)) hl2) upd_same
      · refine .inr ⟨_, rfl, a, _, rfl, Ex.tup e2 ha, for_it walk_enumT (fun i σ H' => ∃ (p f : Option V) (S : Int → Bool), σ = [some (.int m), some (.ref a), some (.ref q), p, f] ∧ Ex H H' ∧ H' q = some (SetO w q S i) ∧ ∀ j, S j = true ↔ j ∈ ns.take i)
          ⟨none, none, _, rfl, e2, upd_same, fun j => by simp⟩ (fun i σ H' _ ⟨_, _, _, _, e, _⟩ => Ex.tup e ha) ?_ ?_⟩
        · rintro i v σ H2 H3 hi ⟨p, f, S, rfl, e3, hS, hSm⟩ ⟨t, x, y, rfl, ht, rfl, hx1, hy⟩
          cases hx1
          obtain ⟨z, hz, rfl⟩ := map_int_get hy
          have hzb := hP.inn z (List.mem_of_getElem? hz)
          have hqt : q ≠ t := ne_of_none hS ht
          have hSf : S z = false := by
            cases c : S z with
            | false => rfl
            | true => exact absurd ((hSm z).mp c) (nodup_new hP.nd hz)
          have hil : i < ns.length := (List.getElem?_eq_some_iff.mp hz).1
          have few := hP.few
          refine ⟨t, _, rfl, SqT.of upd_same, rfl, _, _, rfl, _, _, rfl, rfl, ?_⟩
          refine ⟨_, rfl, _, rfl, _, _, rfl, rfl, .int z, 0, m - 1, rfl, .int z, inB (.int z) 0 (m - 1), rfl, ?_⟩
          show (if (!decide (0 ≤ z ∧ z ≤ m - 1)) = true then _ else _)
          rw [decide_eq_true (show 0 ≤ z ∧ z ≤ m - 1 by omega)]
          refine iteF ?_
          refine ⟨_, rfl, _, rfl, z, q, S, i, rfl, rfl, by rw [upd_ne hqt]; exact hS, S z, rfl, ?_⟩
          rw [hSf]
          refine iteF ?_
          refine ⟨_, rfl, ⟨q, S, i, rfl, by rw [upd_ne hqt]; exact hS⟩, _, rfl, q, z, S, i, rfl, rfl, by rw [upd_ne hqt]; exact hS, ?_, ?_⟩
          · show i + 1 < 4096
            omega
          · rw [hSf, if_neg Bool.false_ne_true]
            refine ⟨_, _, _, rfl, Evl.Ex.mut (e3.trans (Ex.new ht)) hq0, upd_same, fun j => ?_⟩
            rw [take_succ_mem hz, Bool.or_eq_true, decide_eq_true_iff, hSm]
        · rintro σ H2 ⟨p, f, S, rfl, e3, hS, hSm⟩
          rw [List.length_map] at hS hSm
          rw [List.take_length] at hSm
          have few := hP.few
          refine ⟨_, rfl, q, S, _, rfl, hS, by omega, fun ns' p' hp' hmem hlen hnew => ?_⟩
          refine ⟨p', _, rfl, .inl ⟨SqL.of upd_same, fun l hl2 => ?_⟩⟩
          exact k ns' _ _ ⟨hp', fun j => (hmem j).trans (hSm j)⟩ ((e3.trans (Ex.new hnew)).trans (Ex.new hl2)) (Evl.fresh_back (e3.trans (Ex.new hnew)) hl2) upd_same
    · refine ⟨_, rfl, _, rfl, .lst ha, fun H1 e1 => ⟨true, rfl, iteF ?_⟩⟩
      refine ⟨rfl, fun q hq => ?_⟩
      have e2 : Ex H (upd H1 q (SetO w q (fun _ => false) 0)) := e1.trans (Ex.new hq)
      have hq0 : H q = none := Evl.fresh_back e1 hq
      have few := hP.few
      refine .inl ⟨_, rfl, a, _, rfl, Ex.lst e2 ha, for_it walk_enum (fun i σ H' => i ≤ ns.length ∧ ∃ (p f : Option V) (S : Int → Bool), σ = [some (.int m), some (.ref a), some (.ref q), p, f] ∧ Ex H H' ∧ H' q = some (SetO w q S i) ∧ ∀ j, S j = true ↔ j ∈ ns.take i)
          ⟨Nat.zero_le _, none, none, _, rfl, e2, upd_same, fun j => by simp⟩ (fun i σ H' _ ⟨_, _, _, _, _, e, _⟩ => Ex.lst e ha) ?_ ?_⟩
      · rintro i v σ H2 H3 hi ⟨hin, p, f, S, rfl, e3, hS, hSm⟩ ⟨t, x, y, rfl, ht, rfl, hx1, hy⟩
        cases hx1
        have hqt : q ≠ t := ne_of_none hS ht
        by_cases ci : i < ns.length
        · have hy' : (ns.map V.int)[i]? = some y := by
            have hy2 : (ns.map V.int ++ y0 :: ys)[i]? = some y := hy
            rw [List.getElem?_append_left (by rw [List.length_map]; exact ci)] at hy2
            exact hy2
          obtain ⟨z, hz, rfl⟩ := map_int_get hy'
          have hzb := hP.inn z (List.mem_of_getElem? hz)
          have hSf : S z = false := by
            cases c : S z with
            | false => rfl
            | true => exact absurd ((hSm z).mp c) (nodup_new hP.nd hz)
          refine ⟨t, _, rfl, SqT.of upd_same, rfl, _, _, rfl, _, _, rfl, rfl, ?_⟩
          refine ⟨_, rfl, _, rfl, _, _, rfl, rfl, .int z, 0, m - 1, rfl, .int z, inB (.int z) 0 (m - 1), rfl, ?_⟩
          show (if (!decide (0 ≤ z ∧ z ≤ m - 1)) = true then _ else _)
          rw [decide_eq_true (show 0 ≤ z ∧ z ≤ m - 1 by omega)]
          refine iteF ?_
          refine ⟨_, rfl, _, rfl, z, q, S, i, rfl, rfl, by rw [upd_ne hqt]; exact hS, S z, rfl, ?_⟩
          rw [hSf]
          refine iteF ?_
          refine ⟨_, rfl, ⟨q, S, i, rfl, by rw [upd_ne hqt]; exact hS⟩, _, rfl, q, z, S, i, rfl, rfl, by rw [upd_ne hqt]; exact hS, ?_, ?_⟩
          · show i + 1 < 4096
            omega
          · rw [hSf, if_neg Bool.false_ne_true]
            refine ⟨ci, _, _, _, rfl, Evl.Ex.mut (e3.trans (Ex.new ht)) hq0, upd_same, fun j => ?_⟩
            rw [take_succ_mem hz, Bool.or_eq_true, decide_eq_true_iff, hSm]
        · have hie : i = ns.length := by omega
          subst hie
          have hyy : y = y0 := by
            have hy2 : (ns.map V.int ++ y0 :: ys)[ns.length]? = some y := hy
            rw [List.getElem?_append_right (by rw [List.length_map]; exact Nat.le_refl _), List.length_map, Nat.sub_self] at hy2
            exact (Option.some.inj hy2).symm
          subst hyy
          rw [List.take_length] at hSm
          have e4 := e3.trans (Ex.new (o := .tup [.int (ns.length : Nat), y]) ht)
          refine ⟨t, _, rfl, SqT.of upd_same, rfl, _, _, rfl, _, _, rfl, rfl, ?_⟩
          refine ⟨_, rfl, _, rfl, _, _, rfl, rfl, y, 0, m - 1, rfl, hy0.ex e4, inB y 0 (m - 1), rfl, ?_⟩
          cases cb : inB y 0 (m - 1) with
          | false => exact iteT ⟨_, rfl, _, rfl, fun d hd => hB.go e4 hd⟩
          | true =>
            refine iteF ?_
            rcases hbad with z | ⟨n, hn, rfl⟩
            · rw [cb] at z; cases z
            · refine ⟨_, rfl, _, rfl, n, q, S, _, rfl, rfl, by rw [upd_ne hqt]; exact hS, S n, rfl, ?_⟩
              rw [(hSm n).mpr hn]
              exact iteT ⟨_, rfl, _, rfl, fun d hd => hB.go e4 hd⟩
      · rintro σ H2 ⟨hin, _⟩
        rw [List.length_append, List.length_map, List.length_cons] at hin
        omega
    · refine ⟨_, rfl, _, rfl, .non, fun H1 e1 => ⟨false, rfl, iteT ?_⟩⟩
      exact ⟨_, rfl, _, rfl, fun d hd => hB.go e1 hd⟩
end
end K03


set_option Elab.async false
set_option linter.all false
set_option maxRecDepth 100000
set_option maxHeartbeats 4000000
namespace K03
open PySem PySem.Spec PyProof.Rows L2
open Evl (Ex)
section
variable {w : World} {K : PySem.W.Frag} {mg : Str → Option Value} {base : Heap}
/-! ### both, common, minus -/
structure Low (ns : List Int) : Prop where
  inn : ∀ n ∈ ns, 0 ≤ n ∧ n < 64
def Filt (f : Bool → Bool → Bool) (ns ms rs : List Int) : Prop := rs.Pairwise (· < ·) ∧ ∀ k, k ∈ rs ↔ f (decide (k ∈ ns)) (decide (k ∈ ms)) = true
def spSet2 (f : Bool → Bool → Bool) : Sp := fun vs H Q _ => ∃ (a b : Addr) (ns ms : List Int), vs = [.ref a, .ref b] ∧ H a = some (.tup (ns.map V.int)) ∧ H b = some (.tup (ms.map V.int)) ∧ Low ns ∧ Low ms ∧ ns.length + ms.length < 64 ∧
  ∀ rs H' p, Filt f ns ms rs → Ex H H' → H p = none → H' p = some (.tup (rs.map V.int)) → Q (.ref p) H'
theorem lowS {ns : List Int} (l : Low ns) : SetT.LowS (fun j => decide (j ∈ ns)) := fun k h => l.inn k (of_decide_eq_true h)
theorem body2 {op : Operator} {f : Bool → Bool → Bool} {X : Cx} (hX : X.K = K) (hw : X.w = w) (hu : OpR X (binaryOp op) (rSet2 X.w f)) : OpR X (binaryOp op) (rSet2 w f) := by
  subst hw
  exact hu
theorem sc_both : FnScope ["one", "other"] ["one", "other"] (defScope s_both) := ⟨rfl, rfl, rfl, by decide +kernel, rfl, by decide +kernel, by decide +kernel⟩
theorem has_both (T : Ctx K mg) : Has w K mg base CX0 "both" 1 ["one", "other"] (spSet2 fun a b => a || b) := by
  refine has_of (st := s_both) (f := He.ga K "both") T.d_both T.g_both (fun _ _ _ _ _ _ us hl => match us, hl with | [_, _], _ => rfl) fun fd F => ?_
  refine ok0 F sc_both (fun vs H Q E h => ?_) (fun cdv A outer s H vs Q E hr h => ?_)
  · obtain ⟨a, b, ns, ms, rfl, _⟩ := h
    rfl
  · obtain ⟨a, b, ns, ms, rfl, ha, hb, ln, lm, hl, k⟩ := h
    refine ⟨_, pss_one (ps_ret (pe_callTy call_tuple_of (by rfl) T.b_tuple (by decide +kernel) (pa_cons (pe_callB (cr_sortedSet rfl) (by rfl) T.b_sorted (by decide +kernel) (pa_cons
      (pe_op op_setOr (pe_callTy (cr_setT rfl) (by rfl) T.b_set (by decide +kernel) (pa_cons (pv 0) pa_nil)) (pe_callTy (cr_setT rfl) (by rfl) T.b_set (by decide +kernel) (pa_cons (pv 1) pa_nil))) pa_nil)) pa_nil))), ?_⟩
    refine ⟨_, rfl, a, ns, rfl, SqT.of ha, by omega, fun q c hq hc => ?_⟩
    have e1 := Ex.new (o := SetO w q (fun j => decide (j ∈ ns)) c) hq
    refine ⟨_, rfl, b, ms, rfl, SqT.of (e1 _ _ hb), by omega, fun q2 c2 hq2 hc2 => ?_⟩
    have e2 := e1.trans (Ex.new (o := SetO w q2 (fun j => decide (j ∈ ms)) c2) hq2)
    have hqq : q ≠ q2 := ne_of_none (upd_same (H := H) (a := q)) hq2
    refine ⟨q, q2, _, _, c, c2, rfl, rfl, hqq, by rw [upd_ne hqq]; exact upd_same, upd_same, lowS ln, lowS lm, by omega, fun q3 c3 hq3 hc3 => ?_⟩
    have e3 := e2.trans (Ex.new (o := SetO w q3 (fun k => decide (k ∈ ns) || decide (k ∈ ms)) c3) hq3)
    refine ⟨q3, _, c3, rfl, upd_same, hc3, fun rs p' hp' hmem hlen hnew => ?_⟩
    have e4 := e3.trans (Ex.new (o := .lst (rs.map V.int)) hnew)
    refine ⟨p', _, rfl, .inl ⟨SqL.of upd_same, fun l hl2 => ?_⟩⟩
    exact k rs _ l ⟨hp', hmem⟩ (e4.trans (Ex.new hl2)) (Evl.fresh_back e4 hl2) upd_same
theorem sc_common : FnScope ["one", "other"] ["one", "other"] (defScope s_common) := ⟨rfl, rfl, rfl, by decide +kernel, rfl, by decide +kernel, by decide +kernel⟩
theorem has_common (T : Ctx K mg) : Has w K mg base CX0 "common" 1 ["one", "other"] (spSet2 fun a b => a && b) := by
  refine has_of (st := s_common) (f := He.ga K "common") T.d_common T.g_common (fun _ _ _ _ _ _ us hl => match us, hl with | [_, _], _ => rfl) fun fd F => ?_
  refine ok0 F sc_common (fun vs H Q E h => ?_) (fun cdv A outer s H vs Q E hr h => ?_)
  · obtain ⟨a, b, ns, ms, rfl, _⟩ := h
    rfl
  · obtain ⟨a, b, ns, ms, rfl, ha, hb, ln, lm, hl, k⟩ := h
    refine ⟨_, pss_one (ps_ret (pe_callTy call_tuple_of (by rfl) T.b_tuple (by decide +kernel) (pa_cons (pe_callB (cr_sortedSet rfl) (by rfl) T.b_sorted (by decide +kernel) (pa_cons
      (pe_op op_setAnd (pe_callTy (cr_setT rfl) (by rfl) T.b_set (by decide +kernel) (pa_cons (pv 0) pa_nil)) (pe_callTy (cr_setT rfl) (by rfl) T.b_set (by decide +kernel) (pa_cons (pv 1) pa_nil))) pa_nil)) pa_nil))), ?_⟩
    refine ⟨_, rfl, a, ns, rfl, SqT.of ha, by omega, fun q c hq hc => ?_⟩
    have e1 := Ex.new (o := SetO w q (fun j => decide (j ∈ ns)) c) hq
    refine ⟨_, rfl, b, ms, rfl, SqT.of (e1 _ _ hb), by omega, fun q2 c2 hq2 hc2 => ?_⟩
    have e2 := e1.trans (Ex.new (o := SetO w q2 (fun j => decide (j ∈ ms)) c2) hq2)
    have hqq : q ≠ q2 := ne_of_none (upd_same (H := H) (a := q)) hq2
    refine ⟨q, q2, _, _, c, c2, rfl, rfl, hqq, by rw [upd_ne hqq]; exact upd_same, upd_same, lowS ln, lowS lm, by omega, fun q3 c3 hq3 hc3 => ?_⟩
    have e3 := e2.trans (Ex.new (o := SetO w q3 (fun k => decide (k ∈ ns) && decide (k ∈ ms)) c3) hq3)
    refine ⟨q3, _, c3, rfl, upd_same, hc3, fun rs p' hp' hmem hlen hnew => ?_⟩
    have e4 := e3.trans (Ex.new (o := .lst (rs.map V.int)) hnew)
    refine ⟨p', _, rfl, .inl ⟨SqL.of upd_same, fun l hl2 => ?_⟩⟩
    exact k rs _ l ⟨hp', hmem⟩ (e4.trans (Ex.new hl2)) (Evl.fresh_back e4 hl2) upd_same
theorem sc_minus : FnScope ["one", "other"] ["one", "other"] (defScope s_minus) := ⟨rfl, rfl, rfl, by decide +kernel, rfl, by decide +kernel, by decide +kernel⟩
theorem has_minus (T : Ctx K mg) : Has w K mg base CX0 "minus" 1 ["one", "other"] (spSet2 fun a b => a && !b) := by
  refine has_of (st := s_minus) (f := He.ga K "minus") T.d_minus T.g_minus (fun _ _ _ _ _ _ us hl => match us, hl with | [_, _], _ => rfl) fun fd F => ?_
  refine ok0 F sc_minus (fun vs H Q E h => ?_) (fun cdv A outer s H vs Q E hr h => ?_)
  · obtain ⟨a, b, ns, ms, rfl, _⟩ := h
    rfl
  · obtain ⟨a, b, ns, ms, rfl, ha, hb, ln, lm, hl, k⟩ := h
    refine ⟨_, pss_one (ps_ret (pe_callTy call_tuple_of (by rfl) T.b_tuple (by decide +kernel) (pa_cons (pe_callB (cr_sortedSet rfl) (by rfl) T.b_sorted (by decide +kernel) (pa_cons
      (pe_op op_setSub (pe_callTy (cr_setT rfl) (by rfl) T.b_set (by decide +kernel) (pa_cons (pv 0) pa_nil)) (pe_callTy (cr_setT rfl) (by rfl) T.b_set (by decide +kernel) (pa_cons (pv 1) pa_nil))) pa_nil)) pa_nil))), ?_⟩
    refine ⟨_, rfl, a, ns, rfl, SqT.of ha, by omega, fun q c hq hc => ?_⟩
    have e1 := Ex.new (o := SetO w q (fun j => decide (j ∈ ns)) c) hq
    refine ⟨_, rfl, b, ms, rfl, SqT.of (e1 _ _ hb), by omega, fun q2 c2 hq2 hc2 => ?_⟩
    have e2 := e1.trans (Ex.new (o := SetO w q2 (fun j => decide (j ∈ ms)) c2) hq2)
    have hqq : q ≠ q2 := ne_of_none (upd_same (H := H) (a := q)) hq2
    refine ⟨q, q2, _, _, c, c2, rfl, rfl, hqq, by rw [upd_ne hqq]; exact upd_same, upd_same, lowS ln, lowS lm, by omega, fun q3 c3 hq3 hc3 => ?_⟩
    have e3 := e2.trans (Ex.new (o := SetO w q3 (fun k => decide (k ∈ ns) && !decide (k ∈ ms)) c3) hq3)
    refine ⟨q3, _, c3, rfl, upd_same, hc3, fun rs p' hp' hmem hlen hnew => ?_⟩
    have e4 := e3.trans (Ex.new (o := .lst (rs.map V.int)) hnew)
    refine ⟨p', _, rfl, .inl ⟨SqL.of upd_same, fun l hl2 => ?_⟩⟩
    exact k rs _ l ⟨hp', hmem⟩ (e4.trans (Ex.new hl2)) (Evl.fresh_back e4 hl2) upd_same
end
end K03


set_option Elab.async false
set_option linter.all false
set_option maxRecDepth 100000
set_option maxHeartbeats 4000000
namespace K03
open PySem PySem.Spec PyProof.Rows L2
open Evl (Ex)
section
variable {w : World} {K : PySem.W.Frag} {mg : Str → Option Value} {base : Heap}
theorem IsM.pr {C : Addr} {kind : Str} (h : IsM K C kind) (T : Ctx K mg) : ∃ p, PropOf K C "many" p (HkQ.gAd K ("Market", some "many")) := by
  rcases h with ⟨rfl, _⟩ | ⟨rfl, _⟩
  · exact ⟨_, T.pr_many_Join⟩
  · exact ⟨_, T.pr_many_Lap⟩
def spMany (K : PySem.W.Frag) : Sp := fun vs H Q _ => ∃ (x : Addr) (kd : Str) (s : Int) (us : List V) (rs : List (Int × Int)) (ns : List Int), vs = [.ref x] ∧ Mkt K H x kd s us rs ns ∧ Q (.int (us.length : Nat)) H
theorem sc_many : FnScope ["self"] ["self"] (defScope s_Market_many) := ⟨rfl, rfl, rfl, by decide +kernel, rfl, by decide +kernel, by decide +kernel⟩
theorem ok_many (T : Ctx K mg) : ∃ fd, FnOk PP w K mg base CX0 1 (HkQ.gAd K ("Market", some "many")) fd ["self"] (spMany K) ∧ Binds K fd ["self"] [] := by
  obtain ⟨fd, F⟩ := T.d_Market_many
  refine ⟨fd, ?_, FunD.bindsN F fun _ _ _ _ _ _ us hl => match us, hl with | [_], _ => rfl⟩
  refine ok0 F sc_many (fun vs H Q E h => ?_) (fun cdv A outer s H vs Q E hr h => ?_)
  · obtain ⟨x, kd, s, us, rs, ns, rfl, _⟩ := h
    rfl
  · obtain ⟨x, kd, s, us, rs, ns, rfl, M, k⟩ := h
    obtain ⟨C, dx, pr, pg, hM, h1, h2, h3⟩ := M.ob
    refine ⟨_, pss_one (ps_ret (pe_callB call_len_seq (by rfl) T.b_len PySem.boot_len (pa_cons (pe_fld (pv 0) rfl) pa_nil))), ?_⟩
    exact ⟨_, rfl, x, C, dx, _, _, rfl, h1, hM.cl T, hM.nR T, mf_runs _ _ _, pr, us, rfl, .inr (SqT.of h2), k⟩
/-- e.many, e a market of either kind -/
def tMany (K : PySem.W.Frag) (ta : TE) : TE := fun σ H Q => ta σ H fun x H1 => ∃ (a : Addr) (kd : Str) (s : Int) (us : List V) (rs : List (Int × Int)) (ns : List Int), x = .ref a ∧ Mkt K H1 a kd s us rs ns ∧ Q (.int (us.length : Nat)) H1
theorem pe_many (T : Ctx K mg) {X : Cx} (hP : X.prog = PP) (hw : X.w = w) (hK : X.K = K) (hmg : X.mg = mg) {e : Expr} {pos : Pos} {ta : TE} (he : PE X e ta) {n : Nat} (hr : Room n X.A) (hn : 2 ≤ n) (hab : attributeBase e "many" X.env (eval e X.env) = eval e X.env) : PE X (.Attribute e "many" pos) (tMany K ta) := by
  subst hw hK hmg
  obtain ⟨fd, F, b⟩ := ok_many (w := X.w) (base := X.base) T
  obtain ⟨p1, hp1⟩ := (IsM.pr (kind := "join") (.inl ⟨rfl, rfl⟩) T : _)
  obtain ⟨p2, hp2⟩ := (IsM.pr (kind := "lap") (.inr ⟨rfl, rfl⟩) T : _)
  have F' : FnOk X.prog X.w X.K X.mg X.base CX0 1 (HkQ.gAd X.K ("Market", some "many")) fd ["self"] (spMany X.K) := by rw [hP]; exact F
  have r1 := pe_prop (pos := pos) he T.cl_Join hp1 F' (hr.mono hn) b .nil (E := E0) pass0 hab
  have r2 := pe_prop (pos := pos) he T.cl_Lap hp2 F' (hr.mono hn) b .nil (E := E0) pass0 hab
  refine ⟨fun pins s σ H Q I h => ?_⟩
  refine attr_of hab (thn (he.run pins s σ H _ I h) fun u s1 ⟨x, H1, I1, rx, a, kd, sz, us, rs, ns, ex, M, q⟩ => ?_)
  subst ex
  obtain rfl : u = Value.ref a := rx
  obtain ⟨C, dx, pr, pg, hM, h1, h2, h3⟩ := M.ob
  rcases hM with ⟨rfl, hk⟩ | ⟨rfl, hk⟩
  · exact getprop_ok I1 h1 T.cl_Join hp1 F' (hr.mono hn) b .nil (E := E0) pass0 ⟨a, kd, sz, us, rs, ns, rfl, M, q⟩
  · exact getprop_ok I1 h1 T.cl_Lap hp2 F' (hr.mono hn) b .nil (E := E0) pass0 ⟨a, kd, sz, us, rs, ns, rfl, M, q⟩
/-! ### first_wrong, in general -/
def fw (bs : List Bool) : V := match bs.findIdx? (fun b => !b) with
  | none => .non
  | some i => .int (i : Nat)
def spFirstG : Sp := fun vs H Q _ => ∃ (a : Addr) (bs : List Bool), vs = [.ref a] ∧ H a = some (.lst (bs.map V.bl)) ∧ ∀ H', Ex H H' → Q (fw bs) H'
theorem has_first_wrongG (T : Ctx K mg) : Has w K mg base CX0 "first_wrong" 1 ["flags"] spFirstG := by
  refine has_of (st := s_first_wrong) (f := He.ga K "first_wrong") T.d_first_wrong T.g_first_wrong (fun _ _ _ _ _ _ us hl => match us, hl with | [_], _ => rfl) fun fd F => ?_
  refine ok0 F sc_first_wrong (fun vs H Q E h => ?_) (fun cdv A outer s H vs Q E hr h => ?_)
  · obtain ⟨a, xs, rfl, _⟩ := h
    rfl
  · obtain ⟨a, bs, rfl, ha, k⟩ := h
    have nd := sc_first_wrong.nd
    refine ⟨_, pss_cons (ps_for PassesOwn.never rfl (pi_enum (by rfl) T.b_enumerate (pa_cons (pv 0) pa_nil)) (pg_tup (by rfl) (pgs_cons (pg_name (i := 1) nd rfl (.inl rfl)) (pgs_cons (pg_name (i := 2) nd rfl (.inl rfl)) pgs_nil)))
        (pss_one (ps_if (pt_not (pt_val (pv 2))) (pss_one (ps_ret (pv 1))) pss_nil)))
      (pss_one (ps_ret pe_non)), ?_⟩
    refine ⟨_, rfl, a, bs.map V.bl, rfl, SqL.of ha, for_it walk_enum (fun i σ H' => ∃ p f : Option V, σ = [some (.ref a), p, f] ∧ Ex H H' ∧ ∀ j, j < i → bs[j]? = some true) ⟨none, none, rfl, Ex.refl H, fun j z => absurd z (Nat.not_lt_zero j)⟩ (fun i σ H' _ ⟨_, _, _, e, _⟩ => Ex.lst e ha) ?_ ?_⟩
    · rintro i v σ H1 H2 hi ⟨p, f, rfl, e, hb⟩ ⟨t, x, y, rfl, ht, rfl, hx1, hy⟩
      cases hx1
      have hi' : i < bs.length := by rw [List.length_map] at hi; exact hi
      have hbi : bs[i]? = some bs[i] := List.getElem?_eq_getElem hi'
      have hy2 : (bs.map V.bl)[i]? = some y := hy
      rw [List.getElem?_map, hbi] at hy2
      obtain rfl : V.bl bs[i] = y := Option.some.inj hy2
      generalize hbb : bs[i] = b at *
      refine ⟨t, _, rfl, SqT.of upd_same, rfl, _, _, rfl, _, _, rfl, rfl, ?_⟩
      refine ⟨_, rfl, b, rfl, ?_⟩
      cases b with
      | true =>
        refine iteF ⟨_, _, rfl, e.trans (Ex.new ht), fun j hj => ?_⟩
        by_cases c : j = i
        · rw [c]; exact hbi
        · exact hb j (by omega)
      | false =>
        refine iteT ⟨_, rfl, ?_⟩
        have hf : bs.findIdx? (fun b => !b) = some i := by
          rw [List.findIdx?_eq_some_iff_getElem]
          refine ⟨hi', by rw [hbb]; rfl, fun j hj => ?_⟩
          have := hb j hj
          rw [List.getElem?_eq_getElem (by omega)] at this
          rw [Option.some.inj this]
          simp
        have k' := k _ (e.trans (Ex.new (o := .tup [.int (i : Nat), .bl false]) ht))
        unfold fw at k'
        rw [hf] at k'
        exact k'
    · rintro σ H1 ⟨p, f, rfl, e, hb⟩
      rw [List.length_map] at hb
      have hf : bs.findIdx? (fun b => !b) = none := by
        rw [List.findIdx?_eq_none_iff]
        intro b hbm
        obtain ⟨j, hj⟩ := List.mem_iff_getElem?.mp hbm
        have := hb j (List.getElem?_eq_some_iff.mp hj).1
        rw [this] at hj
        rw [← Option.some.inj hj]
        rfl
      have k' := k H1 e
      unfold fw at k'
      rw [hf] at k'
      exact k'
theorem fw_all {bs : List Bool} (h : ∀ b ∈ bs, b = true) : fw bs = .non := by
  have hf : bs.findIdx? (fun b => !b) = none := by
    rw [List.findIdx?_eq_none_iff]
    intro b hb
    rw [h b hb]
    rfl
  unfold fw
  rw [hf]
theorem fw_iff (bs : List Bool) : decide (fw bs = .non) = bs.all id := by
  unfold fw
  cases h : bs.findIdx? (fun b => !b) with
  | none =>
    rw [List.findIdx?_eq_none_iff] at h
    have : bs.all id = true := List.all_eq_true.mpr fun b hb => by
      have := h b hb
      simpa using this
    rw [this]
    simp
  | some i =>
    obtain ⟨hi, hb, _⟩ := List.findIdx?_eq_some_iff_getElem.mp h
    have : bs.all id = false := by
      rw [← Bool.not_eq_true]
      intro z
      have := List.all_eq_true.mp z _ (List.getElem_mem hi)
      simp at hb
      rw [hb] at this
      cases this
    rw [this]
    simp
/-! ### is_lap -/
def spIsLap (K : PySem.W.Frag) : Sp := fun vs H Q _ => ∃ (x : Addr) (kd : Str) (s : Int) (us : List V) (rs : List (Int × Int)) (ns : List Int), vs = [.ref x] ∧ Mkt K H x kd s us rs ns ∧ Q (.bl (decide (kd = "lap"))) H
theorem sc_is_lap : FnScope ["market"] ["market"] (defScope s_is_lap) := ⟨rfl, rfl, rfl, by decide +kernel, rfl, by decide +kernel, by decide +kernel⟩
theorem k_KIND1 : ¬ (("KIND" : Str) = "size") := by decide +kernel
theorem k_KIND2 : ¬ (("KIND" : Str) = "runs") := by decide +kernel
theorem k_KIND3 : ¬ (("KIND" : Str) = "gone") := by decide +kernel
theorem has_is_lap (T : Ctx K mg) : Has w K mg base CX0 "is_lap" 1 ["market"] (spIsLap K) := by
  refine has_of (st := s_is_lap) (f := He.ga K "is_lap") T.d_is_lap T.g_is_lap (fun _ _ _ _ _ _ us hl => match us, hl with | [_], _ => rfl) fun fd F => ?_
  refine ok0 F sc_is_lap (fun vs H Q E h => ?_) (fun cdv A outer s H vs Q E hr h => ?_)
  · obtain ⟨x, kd, s, us, rs, ns, rfl, _⟩ := h
    rfl
  · obtain ⟨x, kd, s, us, rs, ns, rfl, M, k⟩ := h
    obtain ⟨C, dx, pr, pg, hM, h1, h2, h3⟩ := M.ob
    obtain ⟨u, hC⟩ := hM.con T
    refine ⟨_, pss_one (ps_ret (pe_cmpR op_eq (pe_con (pv 0) rfl) pe_str (nomark _))), ?_⟩
    refine ⟨_, rfl, x, C, dx, _, _, _, rfl, h1, hM.cl T, hC, mf_no _ _ _ k_KIND1 k_KIND2 k_KIND3, ?_⟩
    refine ⟨rfl, ?_⟩
    have e : decide (V.str kd = V.str "lap") = decide (kd = "lap") := decide_eq_decide.mpr ⟨fun z => by injection z, fun z => by rw [z]⟩
    show Q (V.bl (decide (V.str kd = V.str "lap"))) H
    rw [e]
    exact k
end
end K03


set_option Elab.async false
set_option linter.all false
set_option maxRecDepth 100000
set_option maxHeartbeats 4000000
namespace K03
open PySem PySem.Spec PyProof.Rows L2
open Evl (Ex)
/-- one walk or the other -/
theorem pi_or {X : Cx} {tg it : Expr} {a b : TI} (ha : PI X tg it a) (hb : PI X tg it b) : PI X tg it (fun σ H R => a σ H R ∨ b σ H R) := ⟨fun pins s σ H R I h => h.elim (ha.run pins s σ H R I) (hb.run pins s σ H R I)⟩
section
variable {w : World} {K : PySem.W.Frag} {mg : Str → Option Value} {base : Heap}
theorem gTupK {X : Cx} (hK : X.K = K) {tg : Expr} {t : TGs} {n : Nat} (h : PG X tg (gTup X.K n t)) : PG X tg (gTup K n t) := by
  subst hK
  exact h
/-! ### demand_of -/
def Dem (H : Hp) (s : Nat) (v : V) (D : List Int) : Prop := (∃ n, v = .int n ∧ D = List.replicate s n) ∨ (RowI H v D ∧ D.length = s)
def spDemand (K : PySem.W.Frag) : Sp := fun vs H Q _ => ∃ (x : Addr) (kd : Str) (s : Nat) (us : List V) (rs : List (Int × Int)) (ns : List Int) (v : V) (D : List Int), vs = [.ref x, v] ∧ Mkt K H x kd (s : Int) us rs ns ∧ s ≤ 50 ∧ Dem H s v D ∧
  ∀ H' p, Ex H H' → H' p = some (.tup (D.map V.int)) → Q (.ref p) H'
theorem sc_demand_of : FnScope ["market", "demand", "place", "item"] ["market", "demand"] (defScope s_demand_of) := ⟨rfl, rfl, rfl, by decide +kernel, rfl, by decide +kernel, by decide +kernel⟩
theorem rep_flat (n : Int) : ∀ s : Nat, (List.replicate s [V.int n]).flatten = (List.replicate s n).map V.int
  | 0 => rfl
  | s + 1 => by
    rw [List.replicate_succ, List.replicate_succ, List.map_cons, List.flatten_cons, rep_flat n s]
    rfl
theorem has_demand_of (T : Ctx K mg) : Has w K mg base CX0 "demand_of" 2 ["market", "demand"] (spDemand K) := by
  obtain ⟨f1, fd1, m1, kp1, F1, b1⟩ := has_is_wholeG (w := w) (base := base) T
  obtain ⟨f2, fd2, m2, kp2, F2, b2⟩ := has_is_rowG (w := w) (base := base) T
  obtain ⟨f3, fd3, m3, kp3, F3, b3⟩ := has_first_wrongG (w := w) (base := base) T
  refine has_of (st := s_demand_of) (f := He.ga K "demand_of") T.d_demand_of T.g_demand_of (fun _ _ _ _ _ _ us hl => match us, hl with | [_, _], _ => rfl) fun fd F => ?_
  refine ok0 F sc_demand_of (fun vs H Q E h => ?_) (fun cdv A outer s0 H vs Q E hr h => ?_)
  · obtain ⟨x, kd, s, us, rs, ns, v, D, rfl, _⟩ := h
    rfl
  · obtain ⟨x, kd, s, us, rs, ns, v, D, rfl, M, hs50, hD, k⟩ := h
    obtain ⟨C, dx, pr, pg, hM, h1, h2, h3⟩ := M.ob
    have nd := sc_demand_of.nd
    refine ⟨_, pss_cons (ps_if (pt_val (pe_call F1 hr (by rfl) m1 kp1 b1 .nil pass0 (pa_cons (pv 1) pa_nil))) (pss_one (ps_ret (pe_callTy call_tuple_of (by rfl) T.b_tuple (by decide +kernel) (pa_cons (pe_op op_rep (pe_lst (pa_cons (pv 1) pa_nil)) (pe_fld (pv 0) rfl)) pa_nil)))) pss_nil)
      (pss_cons (ps_if (PW.pt (pw_or (pt_not (pt_val (pe_call F2 hr (by rfl) m2 kp2 b2 .nil pass0 (pa_cons (pv 1) pa_nil)))) (pw_or1 (pt_cmpR op_ne (pe_callB call_len_seq (by rfl) T.b_len PySem.boot_len (pa_cons (pv 1) pa_nil)) (pe_fld (pv 0) rfl) (nomark _))))) (pss_one ps_never) pss_nil)
      (pss_cons (ps_set (i := 2) nd rfl (.inl rfl) (pe_call F3 hr (by rfl) m3 kp3 b3 .nil pass0 (pa_cons
        (pe_lc (own := [("item", 3)]) (g := gName 3) (tt := tYes) rfl nd (pi_or (pi_list (pv 1)) (pi_tup (pv 1))) (blkOk_by (own := [("item", 3)]) (N := ["market", "demand", "place", "item"]) (sc := defScope s_demand_of) (by decide +kernel)) (fun _ _ _ _ _ => pg_name (i := 3) nd rfl (Or.inl rfl)) (fun _ _ _ _ _ => pts_nil)
          (fun _ _ _ _ _ => pe_call F1 hr (by rfl) m1 kp1 b1 .nil pass0 (pa_cons (pv 3) pa_nil))) pa_nil)))
      (pss_cons (ps_if (pt_cmpR op_notN (pv 2) pe_non (nomark _)) (pss_one ps_never) pss_nil)
      (pss_one (ps_ret (pe_callTy call_tuple_of (by rfl) T.b_tuple (by decide +kernel) (pa_cons (pv 1) pa_nil))))))), ?_⟩
    rcases hD with ⟨n, rfl, rfl⟩ | ⟨⟨a, rfl, ha⟩, hlen⟩
    · refine ⟨_, rfl, _, rfl, .int n, true, rfl, iteT ?_⟩
      refine ⟨_, rfl, (by show 1 ≤ sizeLine; decide), fun p0 hp0 => ?_⟩
      have e0 := Ex.new (o := .lst [V.int n]) hp0
      refine ⟨_, rfl, x, C, dx, _, _, rfl, e0 _ _ h1, hM.cl T, hM.nS T, mf_size _ _ _, p0, _, _, rfl, rfl, upd_same, ?_, ?_, ?_, fun q hq => ?_⟩
      · omega
      · omega
      · refine Nat.le_trans (show 1 * (s : Int).toNat ≤ 1000 by omega) (by decide)
      have e1 := e0.trans (Ex.new (o := .lst (List.replicate ((s : Int).toNat) [V.int n]).flatten) hq)
      refine ⟨q, _, rfl, .inl ⟨SqL.of upd_same, fun l hl => k _ l (e1.trans (Ex.new hl)) ?_⟩⟩
      rw [upd_same, Int.toNat_natCast, rep_flat]
    · have hKd : Kd H (.ref a) := ha.elim Kd.lst Kd.tup
      refine ⟨_, rfl, _, rfl, hKd, false, rfl, iteF ?_⟩
      refine ⟨_, rfl, _, rfl, hKd, fun H1 e1 => ⟨true, rfl, iteF ?_⟩⟩
      have hsq : SqL K H1 a (D.map V.int) ∨ SqT K H1 a (D.map V.int) := ha.imp (fun z => Ex.lst e1 z) (fun z => Ex.tup e1 z)
      refine ⟨_, rfl, a, _, rfl, hsq, _, rfl, x, C, dx, _, _, rfl, e1 _ _ h1, hM.cl T, hM.nS T, mf_size _ _ _, rfl, _, rfl, ?_⟩
      have hne : (!decide (V.int (((D.map V.int).length : Nat) : Int) = V.int (s : Int))) = false := by
        rw [List.length_map, hlen]
        simp
      refine iteF' hne ?_
      have loop : ∀ (D' : Addr) (hD' : H1 D' = none) (i : Nat) (y : V) (H2 : Hp), i < (D.map V.int).length → (Ex H H2 ∧ H2 D' = some (.lst (List.replicate i (V.bl true)))) → (D.map V.int)[i]? = some y → Kd H2 y ∧ isI y = true := fun D' hD' i y H2 hi _ hy => by
        obtain ⟨z, hz, rfl⟩ := map_int_get hy
        exact ⟨.int z, rfl⟩
      have fin : ∀ (D' : Addr) (H2 : Hp), H1 D' = none → Ex H H2 → H2 D' = some (.lst (List.replicate (D.map V.int).length (V.bl true))) → True := fun _ _ _ _ _ => trivial
      have repb : ∀ i : Nat, List.replicate i (V.bl true) = (List.replicate i true).map V.bl := fun i => by rw [List.map_replicate]
      rcases ha with ha | ha
      · refine .inl ⟨_, rfl, a, rfl, ⟨_, Ex.lst e1 ha⟩, fun D' hD' => lc_it walk_list (fun i H' => Ex H H' ∧ H' D' = some (.lst (List.replicate i (V.bl true)))) ⟨e1.trans (Ex.new hD'), upd_same⟩ (fun i H' _ q => Ex.lst q.1 ha) ?_ ?_⟩
        · rintro i y H2 H3 hi ⟨e2, hD2⟩ ⟨rfl, hy⟩
          obtain ⟨z, hz, rfl⟩ := map_int_get hy
          have hil : i < D.length := (List.getElem?_eq_some_iff.mp hz).1
          refine ⟨rfl, tYesI ?_⟩
          refine ⟨_, rfl, _, rfl, .int z, _, hD2, by rw [List.length_replicate]; exact small1000 (by omega), Evl.Ex.mut e2 (Evl.fresh_back e1 hD'), ?_⟩
          rw [upd_same, List.replicate_succ']
          rfl
        · rintro H2 ⟨e2, hD2⟩
          refine ⟨D', List.replicate (D.map V.int).length true, rfl, by rw [hD2, repb], fun H3 e3 => ?_⟩
          rw [fw_all (fun b hb => (List.mem_replicate.mp hb).2)]
          have e4 := e2.trans e3
          refine ⟨_, rfl, rfl, _, rfl, iteF ?_⟩
          exact ⟨_, rfl, a, _, rfl, .inl ⟨Ex.lst e4 ha, fun l hl => k _ l (e4.trans (Ex.new hl)) upd_same⟩⟩
      · refine .inr ⟨_, rfl, a, rfl, ⟨_, Ex.tup e1 ha⟩, fun D' hD' => lc_it walk_tup (fun i H' => Ex H H' ∧ H' D' = some (.lst (List.replicate i (V.bl true)))) ⟨e1.trans (Ex.new hD'), upd_same⟩ (fun i H' _ q => Ex.tup q.1 ha) ?_ ?_⟩
        · rintro i y H2 H3 hi ⟨e2, hD2⟩ ⟨rfl, hy⟩
          obtain ⟨z, hz, rfl⟩ := map_int_get hy
          have hil : i < D.length := (List.getElem?_eq_some_iff.mp hz).1
          refine ⟨rfl, tYesI ?_⟩
          refine ⟨_, rfl, _, rfl, .int z, _, hD2, by rw [List.length_replicate]; exact small1000 (by omega), Evl.Ex.mut e2 (Evl.fresh_back e1 hD'), ?_⟩
          rw [upd_same, List.replicate_succ']
          rfl
        · rintro H2 ⟨e2, hD2⟩
          refine ⟨D', List.replicate (D.map V.int).length true, rfl, by rw [hD2, repb], fun H3 e3 => ?_⟩
          rw [fw_all (fun b hb => (List.mem_replicate.mp hb).2)]
          have e4 := e2.trans e3
          refine ⟨_, rfl, rfl, _, rfl, iteF ?_⟩
          exact ⟨_, rfl, a, _, rfl, .inr ⟨Ex.tup e4 ha, k _ a e4 (e4 _ _ ha)⟩⟩
end
end K03


set_option Elab.async false
set_option linter.all false
set_option maxRecDepth 100000
set_option maxHeartbeats 4000000
namespace K03
open PySem PySem.Spec PyProof.Rows L2
open Evl (Ex)
section
variable {w : World} {K : PySem.W.Frag} {mg : Str → Option Value} {base : Heap}
/-! ### check_run, changed -/
def spCheckRun (K : PySem.W.Frag) : Sp := fun vs H Q _ => ∃ (x t : Addr) (kd : Str) (s : Int) (us : List V) (rs : List (Int × Int)) (ns : List Int) (r : Int × Int), vs = [.ref x, .ref t] ∧ Mkt K H x kd s us rs ns ∧ H t = some (.tup [.int r.1, .int r.2]) ∧ Fits s r ∧ ∀ H', Ex H H' → Q (.ref t) H'
theorem sc_check_run : FnScope ["market", "run"] ["market", "run"] (defScope s_check_run) := ⟨rfl, rfl, rfl, by decide +kernel, rfl, by decide +kernel, by decide +kernel⟩
theorem has_check_run (T : Ctx K mg) : Has w K mg base CX0 "check_run" 4 ["market", "run"] (spCheckRun K) := by
  obtain ⟨f1, fd1, m1, kp1, F1, b1⟩ := has_is_run (w := w) (base := base) T
  refine has_of (st := s_check_run) (f := He.ga K "check_run") T.d_check_run T.g_check_run (fun _ _ _ _ _ _ us hl => match us, hl with | [_, _], _ => rfl) fun fd F => ?_
  refine ok0 F sc_check_run (fun vs H Q E h => ?_) (fun cdv A outer s0 H vs Q E hr h => ?_)
  · obtain ⟨x, t, kd, s, us, rs, ns, r, rfl, _⟩ := h
    rfl
  · obtain ⟨x, t, kd, s, us, rs, ns, r, rfl, M, ht, hf, k⟩ := h
    obtain ⟨C, dx, pr, pg, hM, h1, h2, h3⟩ := M.ob
    refine ⟨_, pss_cons (ps_if (pt_not (pt_val (pe_call F1 hr (by rfl) m1 kp1 b1 .nil pass0 (pa_cons (pe_fld (pv 0) rfl) (pa_cons (pv 1) pa_nil))))) (pss_one ps_never) pss_nil)
      (pss_one (ps_ret (pe_callTy call_tuple_of (by rfl) T.b_tuple (by decide +kernel) (pa_cons (pv 1) pa_nil)))), ?_⟩
    refine ⟨_, rfl, x, C, dx, _, _, rfl, h1, hM.cl T, hM.nS T, mf_size _ _ _, _, rfl, s, t, r.1, r.2, rfl, ht, fun H1 e1 => ⟨_, rfl, ?_⟩⟩
    rw [decide_eq_true (show 0 ≤ r.1 ∧ r.1 < r.2 ∧ r.2 ≤ s from hf)]
    refine iteF ?_
    exact ⟨_, rfl, t, _, rfl, .inr ⟨Ex.tup e1 ht, k H1 e1⟩⟩
/-- by more on the run -/
def shiftRow (D : List Int) (r : Int × Int) (by_ : Int) : List Int := (List.range D.length).map fun j => (D.getD j 0) + (if r.1 ≤ (j : Int) ∧ (j : Int) < r.2 then by_ else 0)
def spChanged (K : PySem.W.Frag) : Sp := fun vs H Q _ => ∃ (x t : Addr) (kd : Str) (s : Nat) (us : List V) (rs : List (Int × Int)) (ns : List Int) (v : V) (D : List Int) (r : Int × Int) (b : Int), vs = [.ref x, v, .ref t, .int b] ∧ Mkt K H x kd (s : Int) us rs ns ∧ s ≤ 50 ∧ Dem H s v D ∧ H t = some (.tup [.int r.1, .int r.2]) ∧ Fits s r ∧
  ∀ H' p, Ex H H' → H p = none → H' p = some (.tup ((shiftRow D r b).map V.int)) → Q (.ref p) H'
theorem sc_changed : FnScope ["market", "demand", "run", "by", "wanted", "begin", "end", "place", "number"] ["market", "demand", "run", "by"] (defScope s_changed) := ⟨rfl, rfl, rfl, by decide +kernel, rfl, by decide +kernel, by decide +kernel⟩
theorem Dem.len {H : Hp} {s : Nat} {v : V} {D : List Int} (h : Dem H s v D) : D.length = s := by
  rcases h with ⟨n, _, rfl⟩ | ⟨_, h⟩
  · exact List.length_replicate
  · exact h
theorem Dem.ex {H H' : Hp} {s : Nat} {v : V} {D : List Int} (h : Dem H s v D) (e : Ex H H') : Dem H' s v D := h.imp id fun z => ⟨z.1.ex e, z.2⟩
theorem has_changed (T : Ctx K mg) : Has w K mg base CX0 "changed" 5 ["market", "demand", "run", "by"] (spChanged K) := by
  obtain ⟨f1, fd1, m1, kp1, F1, b1⟩ := has_demand_of (w := w) (base := base) T
  obtain ⟨f2, fd2, m2, kp2, F2, b2⟩ := has_check_run (w := w) (base := base) T
  obtain ⟨f3, fd3, m3, kp3, F3, b3⟩ := has_is_wholeG (w := w) (base := base) T
  refine has_of (st := s_changed) (f := He.ga K "changed") T.d_changed T.g_changed (fun _ _ _ _ _ _ us hl => match us, hl with | [_, _, _, _], _ => rfl) fun fd F => ?_
  refine ok0 F sc_changed (fun vs H Q E h => ?_) (fun cdv A outer s0 H vs Q E hr h => ?_)
  · obtain ⟨x, t, kd, s, us, rs, ns, v, D, r, b, rfl, _⟩ := h
    rfl
  · obtain ⟨x, t, kd, s, us, rs, ns, v, D, r, b, rfl, M, hs50, hD, ht, hf, k⟩ := h
    have nd := sc_changed.nd
    have hr1 := hr.mono (show 1 ≤ 4 by decide)
    have hr2 := hr.mono (show 2 ≤ 4 by decide)
    have hlen := hD.len
    refine ⟨_, pss_cons (ps_set (i := 4) nd rfl (.inl rfl) (pe_call F1 hr2 (by rfl) m1 kp1 b1 .nil pass0 (pa_cons (pv 0) (pa_cons (pv 1) pa_nil))))
      (pss_cons (ps_asg (pe_call F2 hr (by rfl) m2 kp2 b2 .nil pass0 (pa_cons (pv 0) (pa_cons (pv 2) pa_nil))) (pg_tup (by rfl) (pgs_cons (pg_name (i := 5) nd rfl (.inr rfl)) (pgs_cons (pg_name (i := 6) nd rfl (.inr rfl)) pgs_nil))))
      (pss_cons (ps_if (pt_not (pt_val (pe_call F3 hr1 (by rfl) m3 kp3 b3 .nil pass0 (pa_cons (pv 3) pa_nil)))) (pss_one ps_never) pss_nil)
      (pss_one (ps_ret (pe_callTy call_tuple_of (by rfl) T.b_tuple (by decide +kernel) (pa_cons
        (pe_lc (own := [("place", 7), ("number", 8)]) (g := gTup K 2 (gCons (gName 7) (gCons (gName 8) gNil))) (tt := tYes) rfl nd (pi_enumT (by rfl) T.b_enumerate (pa_cons (pv 4) pa_nil)) (blkOk_by (own := [("place", 7), ("number", 8)]) (N := ["market", "demand", "run", "by", "wanted", "begin", "end", "place", "number"]) (sc := defScope s_changed) (by decide +kernel))
          (fun _ _ _ _ _ => gTupK rfl (pg_tup (by rfl) (pgs_cons (pg_name (i := 7) nd rfl (.inl rfl)) (pgs_cons (pg_name (i := 8) nd rfl (.inl rfl)) pgs_nil)))) (fun _ _ _ _ _ => pts_nil)
          (fun _ _ _ _ _ => pe_ifExp (pt_chain op_le op_lt (pv 5) (pv 7) (pv 6)) (pe_op op_add (pv 8) (pv 3)) (pv 8))) pa_nil)))))), ?_⟩
    refine ⟨_, rfl, _, rfl, x, kd, s, us, rs, ns, v, D, rfl, M, hs50, hD, fun H1 q e1 hq1 => ?_⟩
    refine ⟨_, rfl, _, rfl, x, t, kd, s, us, rs, ns, r, rfl, M.ex e1, e1 _ _ ht, hf, fun H2 e2 => ?_⟩
    have e12 := e1.trans e2
    refine ⟨t, _, rfl, Ex.tup e12 ht, rfl, _, _, rfl, _, _, rfl, rfl, ?_⟩
    refine ⟨_, rfl, _, rfl, .int b, true, rfl, iteF ?_⟩
    have hq2 := e2 _ _ hq1
    refine ⟨_, rfl, q, _, rfl, SqT.of hq2, fun D' hD' => lc_it walk_enumT (fun i H' => Ex H2 H' ∧ H' D' = some (.lst (((List.range i).map fun j => (D.getD j 0) + (if r.1 ≤ (j : Int) ∧ (j : Int) < r.2 then b else 0)).map V.int))) ⟨Ex.new hD', upd_same⟩ (fun i H' _ z => Ex.tup z.1 hq2) ?_ ?_⟩
    · rintro i y H3 H4 hi ⟨e3, hD3⟩ ⟨tt, x1, y1, rfl, htt, rfl, hx1, hy1⟩
      cases hx1
      obtain ⟨z, hz, rfl⟩ := map_int_get hy1
      have hil : i < D.length := (List.getElem?_eq_some_iff.mp hz).1
      refine ⟨tt, _, rfl, SqT.of upd_same, rfl, _, _, rfl, _, _, rfl, rfl, ?_⟩
      refine ⟨rfl, tYesI ?_⟩
      have e4 : Ex H2 (upd H3 tt (.tup [.int (i : Nat), .int z])) := e3.trans (Ex.new htt)
      have hD4 := (Ex.new (o := .tup [.int (i : Nat), .int z]) htt) _ _ hD3
      have fin : ∀ val : Int, val = z + (if r.1 ≤ (i : Int) ∧ (i : Int) < r.2 then b else 0) → ∃ acc, (upd H3 tt (.tup [.int (i : Nat), .int z])) D' = some (.lst acc) ∧ acc.length < sizeLine ∧ Ex H2 (upd (upd H3 tt (.tup [.int (i : Nat), .int z])) D' (.lst (acc ++ [V.int val]))) ∧ (upd (upd H3 tt (.tup [.int (i : Nat), .int z])) D' (.lst (acc ++ [V.int val]))) D' = some (.lst (((List.range (i + 1)).map fun j => (D.getD j 0) + (if r.1 ≤ (j : Int) ∧ (j : Int) < r.2 then b else 0)).map V.int)) := fun val hv => by
        refine ⟨_, hD4, by rw [List.length_map, List.length_map, List.length_range]; exact small1000 (by omega), Evl.Ex.mut e4 hD', ?_⟩
        rw [upd_same, List.range_succ, List.map_append, List.map_append]
        have hgd : D.getD i 0 = z := by rw [List.getD_eq_getElem?_getD, hz]; rfl
        simp only [List.map_cons, List.map_nil, hgd]
        rw [hv]
      refine ⟨_, rfl, _, rfl, _, _, rfl, rfl, _, rfl, ?_⟩
      by_cases c1 : r.1 ≤ (i : Int)
      · rw [decide_eq_true c1]
        refine iteT ⟨_, rfl, _, _, rfl, rfl, _, rfl, ?_⟩
        by_cases c2 : (i : Int) < r.2
        · rw [decide_eq_true c2]
          refine iteT ⟨_, rfl, _, rfl, _, _, rfl, rfl, ?_⟩
          exact fin _ (by rw [if_pos ⟨c1, c2⟩])
        · rw [decide_eq_false c2]
          refine iteF ⟨_, rfl, ?_⟩
          exact fin _ (by rw [if_neg (fun z => c2 z.2)]; omega)
      · rw [decide_eq_false c1]
        refine iteF ⟨_, rfl, iteF ⟨_, rfl, ?_⟩⟩
        exact fin _ (by rw [if_neg (fun z => c1 z.1)]; omega)
    · rintro H3 ⟨e3, hD3⟩
      rw [List.length_map] at hD3
      exact ⟨D', _, rfl, .inl ⟨SqL.of hD3, fun l hl => k _ l ((e12.trans e3).trans (Ex.new hl)) (Evl.fresh_back (e12.trans e3) hl) upd_same⟩⟩
end
end K03


set_option Elab.async false
set_option linter.all false
set_option maxRecDepth 100000
set_option maxHeartbeats 4000000
namespace K03
open PySem PySem.Spec PyProof.Rows L2
open Evl (Ex)
/-- the cover is as the kind wants it -/
def okAt (kd : Str) (c d : Int) : Bool := if kd = "lap" then decide (d ≤ c) else decide (c = d)
def okRow (kd : Str) : List Int → List Int → List Bool
  | c :: C, d :: D => okAt kd c d :: okRow kd C D
  | _, _ => []
theorem okRow_get (kd : Str) : ∀ (C D : List Int) (i : Nat) (c d : Int), C[i]? = some c → D[i]? = some d → (okRow kd C D)[i]? = some (okAt kd c d)
  | [], _, i, c, d, h, _ => by simp at h
  | _ :: _, [], i, c, d, _, h => by simp at h
  | c :: C, d :: D, 0, _, _, h1, h2 => by cases h1; cases h2; rfl
  | c :: C, d :: D, i + 1, x, y, h1, h2 => okRow_get kd C D i x y h1 h2
theorem okRow_len (kd : Str) : ∀ (C D : List Int), C.length = D.length → (okRow kd C D).length = C.length
  | [], [], _ => rfl
  | [], _ :: _, h => by cases h
  | _ :: _, [], h => by cases h
  | c :: C, d :: D, h => by
    show (okRow kd C D).length + 1 = C.length + 1
    rw [okRow_len kd C D (Nat.succ.inj h)]
section
variable {w : World} {K : PySem.W.Frag} {mg : Str → Option Value} {base : Heap}
def spFits (K : PySem.W.Frag) : Sp := fun vs H Q _ => ∃ (x : Addr) (kd : Str) (s : Int) (us : List V) (rs : List (Int × Int)) (ns : List Int) (c d : Int), vs = [.ref x, .int c, .int d] ∧ Mkt K H x kd s us rs ns ∧ Q (.bl (okAt kd c d)) H
theorem sc_fits_place : FnScope ["market", "count", "wanted"] ["market", "count", "wanted"] (defScope s_fits_place) := ⟨rfl, rfl, rfl, by decide +kernel, rfl, by decide +kernel, by decide +kernel⟩
theorem has_fits_place (T : Ctx K mg) : Has w K mg base CX0 "fits_place" 2 ["market", "count", "wanted"] (spFits K) := by
  obtain ⟨f1, fd1, m1, kp1, F1, b1⟩ := has_is_lap (w := w) (base := base) T
  refine has_of (st := s_fits_place) (f := He.ga K "fits_place") T.d_fits_place T.g_fits_place (fun _ _ _ _ _ _ us hl => match us, hl with | [_, _, _], _ => rfl) fun fd F => ?_
  refine ok0 F sc_fits_place (fun vs H Q E h => ?_) (fun cdv A outer s0 H vs Q E hr h => ?_)
  · obtain ⟨x, kd, s, us, rs, ns, c, d, rfl, _⟩ := h
    rfl
  · obtain ⟨x, kd, s, us, rs, ns, c, d, rfl, M, k⟩ := h
    refine ⟨_, pss_cons (ps_if (pt_val (pe_call F1 hr (by rfl) m1 kp1 b1 .nil pass0 (pa_cons (pv 0) pa_nil))) (pss_one (ps_ret (pe_cmpR op_ge (pv 1) (pv 2) (nomark _)))) pss_nil)
      (pss_one (ps_ret (pe_cmpR op_eq (pv 1) (pv 2) (nomark _)))), ?_⟩
    refine ⟨_, rfl, x, kd, s, us, rs, ns, rfl, M, _, rfl, ?_⟩
    unfold okAt at k
    by_cases hk : kd = "lap"
    · rw [if_pos hk] at k
      exact iteT' (decide_eq_true hk) ⟨_, rfl, _, rfl, _, _, rfl, rfl, k⟩
    · rw [if_neg hk] at k
      refine iteF' (decide_eq_false hk) ⟨_, rfl, _, rfl, rfl, ?_⟩
      have e : decide (V.int c = V.int d) = decide (c = d) := decide_eq_decide.mpr ⟨fun z => by injection z, fun z => by rw [z]⟩
      show Q (V.bl (decide (V.int c = V.int d))) H
      rw [e]
      exact k
def spWrong (K : PySem.W.Frag) : Sp := fun vs H Q _ => ∃ (x a c : Addr) (kd : Str) (s : Nat) (us : List V) (rs : List (Int × Int)) (ns D ps : List Int), vs = [.ref x, .ref a, .ref c] ∧ Mkt K H x kd (s : Int) us rs ns ∧ s ≤ 50 ∧ (∀ r ∈ rs, Fits s r) ∧ H a = some (.tup (D.map V.int)) ∧ D.length = s ∧ H c = some (.tup (ps.map V.int)) ∧ (∀ n ∈ ps, 0 ≤ n ∧ n < rs.length) ∧
  ∀ H', Ex H H' → Q (fw (okRow kd (covL s rs ps) D)) H'
theorem sc_wrong_place : FnScope ["market", "wanted", "chosen", "pairs", "count", "number"] ["market", "wanted", "chosen"] (defScope s_wrong_place) := ⟨rfl, rfl, rfl, by decide +kernel, rfl, by decide +kernel, by decide +kernel⟩
theorem has_wrong_place (T : Ctx K mg) : Has w K mg base CX0 "wrong_place" 3 ["market", "wanted", "chosen"] (spWrong K) := by
  obtain ⟨f1, fd1, m1, kp1, F1, b1⟩ := has_covered (w := w) (base := base) T
  obtain ⟨f2, fd2, m2, kp2, F2, b2⟩ := has_first_wrongG (w := w) (base := base) T
  obtain ⟨f3, fd3, m3, kp3, F3, b3⟩ := has_fits_place (w := w) (base := base) T
  refine has_of (st := s_wrong_place) (f := He.ga K "wrong_place") T.d_wrong_place T.g_wrong_place (fun _ _ _ _ _ _ us hl => match us, hl with | [_, _, _], _ => rfl) fun fd F => ?_
  refine ok0 F sc_wrong_place (fun vs H Q E h => ?_) (fun cdv A outer s0 H vs Q E hr h => ?_)
  · obtain ⟨x, a, c, kd, s, us, rs, ns, D, ps, rfl, _⟩ := h
    rfl
  · obtain ⟨x, a, c, kd, s, us, rs, ns, D, ps, rfl, M, hs50, hF, ha, hDl, hc, inn, k⟩ := h
    have nd := sc_wrong_place.nd
    have hr1 := hr.mono (show 1 ≤ 2 by decide)
    refine ⟨_, pss_cons (ps_set (i := 3) nd rfl (.inl rfl) (pe_lstZip rfl (by rfl) T.b_list (by decide +kernel) (by rfl) T.b_zip (pa_cons (pe_call F1 hr1 (by rfl) m1 kp1 b1 .nil pass0 (pa_cons (pv 0) (pa_cons (pv 2) pa_nil))) (pa_cons (pv 1) pa_nil))))
      (pss_one (ps_ret (pe_call F2 hr1 (by rfl) m2 kp2 b2 .nil pass0 (pa_cons
        (pe_lc (own := [("count", 4), ("number", 5)]) (g := gTup K 2 (gCons (gName 4) (gCons (gName 5) gNil))) (tt := tYes) rfl nd (pi_list (pv 3)) (blkOk_by (own := [("count", 4), ("number", 5)]) (N := ["market", "wanted", "chosen", "pairs", "count", "number"]) (sc := defScope s_wrong_place) (by decide +kernel))
          (fun _ _ _ _ _ => gTupK rfl (pg_tup (by rfl) (pgs_cons (pg_name (i := 4) nd rfl (.inl rfl)) (pgs_cons (pg_name (i := 5) nd rfl (.inl rfl)) pgs_nil)))) (fun _ _ _ _ _ => pts_nil)
          (fun _ _ _ _ _ => pe_call F3 hr (by rfl) m3 kp3 b3 .nil pass0 (pa_cons (pv 0) (pa_cons (pv 4) (pa_cons (pv 5) pa_nil))))) pa_nil)))), ?_⟩
    refine ⟨_, rfl, _, rfl, x, c, kd, s, us, rs, ns, ps, rfl, M, hs50, hF, hc, inn, fun H1 q e1 hq hq1 => ?_⟩
    have hcl : (covL s rs ps).length = s := by unfold covL; exact row_len _ _
    refine ⟨_, rfl, q, a, _, _, rfl, SqT.of hq1, SqT.of (e1 _ _ ha), by rw [List.length_map, List.length_map, hcl, hDl], fun H2 p ts e2 hp hl hp2 hts => ?_⟩
    have e12 : Ex H H2 := e1.trans e2
    rw [List.length_map, hcl] at hl
    refine ⟨_, rfl, p, rfl, ⟨_, SqL.of hp2⟩, fun D' hD' => lc_it walk_list (fun i H' => Ex H2 H' ∧ H' D' = some (.lst (((okRow kd (covL s rs ps) D).take i).map V.bl))) ⟨Ex.new hD', upd_same⟩ (fun i H' _ z => Ex.lst z.1 hp2) ?_ ?_⟩
    · rintro i y H3 H4 hi ⟨e3, hD3⟩ ⟨rfl, hy⟩
      rw [List.length_map, hl] at hi
      obtain ⟨t, ht, rfl⟩ : ∃ t, ts[i]? = some t ∧ y = .ref t := by
        have hy2 : (ts.map V.ref)[i]? = some y := hy
        rw [List.getElem?_map] at hy2
        cases cc : ts[i]? with
        | none => rw [cc] at hy2; cases hy2
        | some t => rw [cc] at hy2; cases hy2; exact ⟨t, rfl, rfl⟩
      have hC : (covL s rs ps)[i]? = some ((covL s rs ps)[i]'(by omega)) := List.getElem?_eq_getElem (by omega)
      have hDi : D[i]? = some (D[i]'(by omega)) := List.getElem?_eq_getElem (by omega)
      generalize ((covL s rs ps)[i]'(by omega)) = cv at hC
      generalize (D[i]'(by omega)) = dv at hDi
      have htt := e3 _ _ (hts i t (.int cv) (.int dv) ht (by rw [List.getElem?_map, hC]; rfl) (by rw [List.getElem?_map, hDi]; rfl))
      refine ⟨t, _, rfl, SqT.of htt, rfl, _, _, rfl, _, _, rfl, rfl, ?_⟩
      refine ⟨rfl, tYesI ?_⟩
      refine ⟨_, rfl, _, rfl, _, rfl, x, kd, s, us, rs, ns, cv, dv, rfl, (M.ex e12).ex e3, ?_⟩
      refine ⟨_, hD3, ?_, Evl.Ex.mut e3 hD', ?_⟩
      · rw [List.length_map, List.length_take]
        exact small1000 (by omega)
      · rw [upd_same, List.take_add_one, okRow_get kd _ _ i cv dv hC hDi, List.map_append]
        rfl
    · rintro H3 ⟨e3, hD3⟩
      rw [List.length_map, hl, List.take_of_length_le (by rw [okRow_len kd _ _ (by rw [hcl, hDl]), hcl]; exact Nat.le_refl _)] at hD3
      exact ⟨D', _, rfl, hD3, fun H4 e4 => k H4 ((e12.trans e3).trans e4)⟩
/-! ### is_stock -/
def stockB (kd : Str) (s : Nat) (rs : List (Int × Int)) (ns D ps : List Int) : Bool := !(ps.any fun p => decide (p ∈ ns)) && (okRow kd (covL s rs ps) D).all id
theorem inV_ints (p : Int) : ∀ ns : List Int, inV (.int p) (ns.map V.int) = decide (p ∈ ns)
  | [] => by simp [inV]
  | n :: ns => by
    have ih := inV_ints p ns
    unfold inV at ih ⊢
    rw [List.map_cons, List.any_cons, ih]
    show ((n == p) || decide (p ∈ ns)) = _
    rw [Bool.eq_iff_iff]
    simp only [Bool.or_eq_true, beq_iff_eq, decide_eq_true_eq, List.mem_cons]
    exact ⟨fun z => z.imp Eq.symm id, fun z => z.imp Eq.symm id⟩
theorem flat_ints (ns : List Int) : (ns.map V.int).all flatV = true := List.all_eq_true.mpr fun v hv => by
  obtain ⟨n, _, rfl⟩ := List.mem_map.mp hv
  rfl
theorem op_inK {X : Cx} (h : X.K = K) : OpR X (compareOp .In) (rIn K false) := by
  subst h
  exact op_in_seq
theorem pe_fldK {X : Cx} (h : X.K = K) {e : Expr} {f : Str} {ta : TE} {pos : Pos} (he : PE X e ta) (hab : attributeBase e f X.env (eval e X.env) = eval e X.env) : PE X (.Attribute e f pos) (tFld K ta f) := by
  subst h
  exact pe_fld he hab
def spStockOf (K : PySem.W.Frag) : Sp := fun vs H Q _ => ∃ (x a c : Addr) (kd : Str) (s : Nat) (us : List V) (rs : List (Int × Int)) (ns D ps : List Int), vs = [.ref x, .ref a, .ref c] ∧ Mkt K H x kd (s : Int) us rs ns ∧ s ≤ 50 ∧ (∀ r ∈ rs, Fits s r) ∧ H a = some (.tup (D.map V.int)) ∧ D.length = s ∧ H c = some (.tup (ps.map V.int)) ∧ (∀ n ∈ ps, 0 ≤ n ∧ n < rs.length) ∧ ps.length ≤ 100 ∧
  ∀ H', Ex H H' → Q (.bl (stockB kd s rs ns D ps)) H'
theorem sc_is_stock_of : FnScope ["market", "wanted", "chosen", "part"] ["market", "wanted", "chosen"] (defScope s_is_stock_of) := ⟨rfl, rfl, rfl, by decide +kernel, rfl, by decide +kernel, by decide +kernel⟩
theorem has_is_stock_of (T : Ctx K mg) : Has w K mg base CX0 "is_stock_of" 4 ["market", "wanted", "chosen"] (spStockOf K) := by
  obtain ⟨f1, fd1, m1, kp1, F1, b1⟩ := has_wrong_place (w := w) (base := base) T
  refine has_of (st := s_is_stock_of) (f := He.ga K "is_stock_of") T.d_is_stock_of T.g_is_stock_of (fun _ _ _ _ _ _ us hl => match us, hl with | [_, _, _], _ => rfl) fun fd F => ?_
  refine ok0 F sc_is_stock_of (fun vs H Q E h => ?_) (fun cdv A outer s0 H vs Q E hr h => ?_)
  · obtain ⟨x, a, c, kd, s, us, rs, ns, D, ps, rfl, _⟩ := h
    rfl
  · obtain ⟨x, a, c, kd, s, us, rs, ns, D, ps, rfl, M, hs50, hF, ha, hDl, hc, inn, hpl, k⟩ := h
    obtain ⟨C, dx, pr, pg, hM, h1, h2, h3⟩ := M.ob
    have nd := sc_is_stock_of.nd
    refine ⟨_, pss_cons (ps_if (pt_val (pe_callB (cr_any rfl) (by rfl) T.b_any (by decide +kernel) (pa_cons
        (pe_lc (own := [("part", 3)]) (g := gName 3) (tt := tYes) rfl nd (pi_tup (pv 2)) (blkOk_by (own := [("part", 3)]) (N := ["market", "wanted", "chosen", "part"]) (sc := defScope s_is_stock_of) (by decide +kernel)) (fun _ _ _ _ _ => pg_name (i := 3) nd rfl (Or.inl rfl)) (fun _ _ _ _ _ => pts_nil)
          (fun _ _ _ _ _ => pe_cmpR (op_inK (K := K) rfl) (pv 3) (pe_fldK (K := K) rfl (pv 0) rfl) (by rfl))) pa_nil))) (pss_one (ps_ret pe_bl)) pss_nil)
      (pss_one (ps_ret (pe_cmpR op_isN (pe_call F1 hr (by rfl) m1 kp1 b1 .nil pass0 (pa_cons (pv 0) (pa_cons (pv 1) (pa_cons (pv 2) pa_nil)))) pe_non (nomark _)))), ?_⟩
    refine ⟨_, rfl, c, rfl, ⟨_, SqT.of hc⟩, fun D' hD' => lc_it walk_tup (fun i H' => Ex H H' ∧ H' D' = some (.lst (((ps.take i).map fun p => decide (p ∈ ns)).map V.bl))) ⟨Ex.new hD', upd_same⟩ (fun i H' _ z => Ex.tup z.1 hc) ?_ ?_⟩
    · rintro i y H3 H4 hi ⟨e3, hD3⟩ ⟨rfl, hy⟩
      obtain ⟨p, hp, rfl⟩ := map_int_get hy
      have hil : i < ps.length := (List.getElem?_eq_some_iff.mp hp).1
      refine ⟨rfl, tYesI ?_⟩
      refine ⟨_, rfl, _, rfl, x, C, dx, _, _, rfl, e3 _ _ h1, hM.cl T, hM.nG T, mf_gone _ _ _, ?_⟩
      refine ⟨pg, _, rfl, .inr (SqT.of (e3 _ _ h3)), rfl, flat_ints ns, ?_⟩
      rw [inV_ints]
      refine ⟨_, hD3, ?_, Evl.Ex.mut e3 hD', ?_⟩
      · rw [List.length_map, List.length_map, List.length_take]
        exact small1000 (by omega)
      · rw [upd_same, List.take_add_one, hp, List.map_append, List.map_append]
        rfl
    · rintro H3 ⟨e3, hD3⟩
      rw [List.length_map, List.take_length] at hD3
      refine ⟨D', _, rfl, SqL.of hD3, _, rfl, ?_⟩
      have ea : ((ps.map fun p => decide (p ∈ ns)).any id) = ps.any fun p => decide (p ∈ ns) := by
        rw [List.any_map]
        rfl
      rw [ea]
      unfold stockB at k
      cases hg : ps.any fun p => decide (p ∈ ns) with
      | true =>
        rw [hg] at k
        exact iteT (k _ e3)
      | false =>
        rw [hg] at k
        refine iteF ?_
        refine ⟨_, rfl, _, rfl, _, rfl, x, a, c, kd, s, us, rs, ns, D, ps, rfl, M.ex e3, hs50, hF, e3 _ _ ha, hDl, e3 _ _ hc, inn, fun H4 e4 => ?_⟩
        refine ⟨rfl, ?_⟩
        rw [fw_iff]
        exact k _ (e3.trans e4)
def spStock (K : PySem.W.Frag) : Sp := fun vs H Q _ => ∃ (x : Addr) (kd : Str) (s : Nat) (us : List V) (rs : List (Int × Int)) (ns D ps : List Int) (v p : V), vs = [.ref x, v, p] ∧ Mkt K H x kd (s : Int) us rs ns ∧ s ≤ 50 ∧ (∀ r ∈ rs, Fits s r) ∧ Dem H s v D ∧ RowI H p ps ∧ Parts us.length ps ∧
  ∀ ms H', Ord ps ms → Ex H H' → Q (.bl (stockB kd s rs ns D ms)) H'
theorem sc_is_stock : FnScope ["market", "demand", "parts", "wanted"] ["market", "demand", "parts"] (defScope s_is_stock) := ⟨rfl, rfl, rfl, by decide +kernel, rfl, by decide +kernel, by decide +kernel⟩
theorem Ord.inn {ns ms : List Int} {m : Int} (o : Ord ns ms) (P : Parts m ns) : ∀ n ∈ ms, 0 ≤ n ∧ n < m := fun n hn => P.inn n ((o.mem n).mp hn)
theorem asc_nodup {ms : List Int} (h : ms.Pairwise (· < ·)) : ms.Nodup := h.imp fun z => Int.ne_of_lt z
theorem Ord.perm {ns ms : List Int} {m : Int} (o : Ord ns ms) (P : Parts m ns) : ms.Perm ns := (List.perm_ext_iff_of_nodup (asc_nodup o.asc) P.nd).mpr o.mem
theorem has_is_stock (T : Ctx K mg) : Has w K mg base CX0 "is_stock" 5 ["market", "demand", "parts"] (spStock K) := by
  obtain ⟨f1, fd1, m1, kp1, F1, b1⟩ := has_demand_of (w := w) (base := base) T
  obtain ⟨f2, fd2, m2, kp2, F2, b2⟩ := has_is_stock_of (w := w) (base := base) T
  obtain ⟨f3, fd3, m3, kp3, F3, b3⟩ := has_set (w := w) (base := base) T
  refine has_of (st := s_is_stock) (f := He.ga K "is_stock") T.d_is_stock T.g_is_stock (fun _ _ _ _ _ _ us hl => match us, hl with | [_, _, _], _ => rfl) fun fd F => ?_
  refine ok0 F sc_is_stock (fun vs H Q E h => ?_) (fun cdv A outer s0 H vs Q E hr h => ?_)
  · obtain ⟨x, kd, s, us, rs, ns, D, ps, v, p, rfl, _⟩ := h
    rfl
  · obtain ⟨x, kd, s, us, rs, ns, D, ps, v, p, rfl, M, hs50, hF, hD, hp, hP, k⟩ := h
    have nd := sc_is_stock.nd
    refine ⟨_, pss_cons (ps_set (i := 3) nd rfl (.inl rfl) (pe_call F1 (hr.mono (show 2 ≤ 4 by decide)) (by rfl) m1 kp1 b1 .nil pass0 (pa_cons (pv 0) (pa_cons (pv 1) pa_nil))))
      (pss_one (ps_ret (pe_call F2 hr (by rfl) m2 kp2 b2 .nil pass0 (pa_cons (pv 0) (pa_cons (pv 3) (pa_cons (pe_call F3 (hr.mono (show 3 ≤ 4 by decide)) (by rfl) m3 kp3 b3 .nil (E := E0) (pass_none rfl rfl) (pa_cons (pe_many T rfl rfl rfl rfl (pv 0) hr (by decide) rfl) (pa_cons (pv 2) pa_nil))) pa_nil)))))), ?_⟩
    refine ⟨_, rfl, _, rfl, x, kd, s, us, rs, ns, v, D, rfl, M, hs50, hD, fun H1 q e1 hq1 => ?_⟩
    have hul := M.runs.len
    refine ⟨_, rfl, _, rfl, _, rfl, x, kd, s, us, rs, ns, rfl, M.ex e1, _, rfl, us.length, p, rfl, by omega, .inl ⟨ps, hp.ex e1, hP, fun ms H2 q2 ho e2 hq2 hq3 => ?_⟩⟩
    have hlm := (ho.perm hP).length_eq
    have few := hP.few
    refine ⟨x, q, q2, kd, s, us, rs, ns, D, ms, rfl, (M.ex e1).ex e2, hs50, hF, e2 _ _ hq1, hD.len, hq3, fun n hn => by have := ho.inn hP n hn; omega, by omega, fun H3 e3 => k ms H3 ho ((e1.trans e2).trans e3)⟩
end
end K03


/-! Halving: the ends of runs, paired as they come; a colour for each. -/
namespace Half
def flip (x : Nat) : Nat := if x % 2 = 0 then x + 1 else x - 1
def bit (x : Nat) : Bool := decide (x % 2 = 1)
theorem flip_half (x : Nat) : flip x / 2 = x / 2 := by unfold flip; split <;> omega
theorem flip_flip (x : Nat) : flip (flip x) = x := by unfold flip; split <;> split <;> omega
theorem bit_flip (x : Nat) : bit (flip x) = !bit x := by
  unfold bit flip
  split
  · rename_i h
    have h1 : decide (x % 2 = 1) = false := decide_eq_false (by omega)
    have h2 : decide ((x + 1) % 2 = 1) = true := decide_eq_true (by omega)
    rw [h1, h2]; rfl
  · rename_i h
    have h1 : decide (x % 2 = 1) = true := decide_eq_true (by omega)
    have h2 : decide ((x - 1) % 2 = 1) = false := decide_eq_false (by omega)
    rw [h1, h2]; rfl
theorem flip_lt {x m : Nat} (h : x < 2 * m) : flip x < 2 * m := by unfold flip; split <;> omega
theorem same_half {x y : Nat} (h : x / 2 = y / 2) : x = y ∨ x = flip y := by unfold flip; split <;> omega
/-- the partners of 2 m ends -/
structure Inv (m : Nat) (p : Nat → Nat) : Prop where
  lt : ∀ x, x < 2 * m → p x < 2 * m
  back : ∀ x, x < 2 * m → p (p x) = x
  ne : ∀ x, x < 2 * m → p x ≠ x
def col (σ : Nat → Option Bool) (x : Nat) : Option Bool := (σ (x / 2)).map fun b => xor (bit x) b
structure Closed (m : Nat) (p : Nat → Nat) (σ : Nat → Option Bool) : Prop where
  a : ∀ y, y < 2 * m → col σ y = some true → col σ (p y) = some false
  b : ∀ y, y < 2 * m → col σ y = some false → col σ (p y) = some true
structure Walk (m : Nat) (p : Nat → Nat) (σ : Nat → Option Bool) (s e : Nat) : Prop where
  e_lt : e < 2 * m
  s_lt : s < 2 * m
  a : ∀ y, y < 2 * m → col σ y = some true → p y ≠ e → col σ (p y) = some false
  b : ∀ y, y < 2 * m → col σ y = some false → y ≠ s → col σ (p y) = some true ∧ y ≠ e
  c : (e = s ∧ Closed m p σ) ∨ (col σ s = some false ∧ col σ (p e) = some true)
theorem Walk.start {m : Nat} {p : Nat → Nat} {σ : Nat → Option Bool} {s : Nat} (C : Closed m p σ) (h : s < 2 * m) : Walk m p σ s s :=
  ⟨h, h, fun y hy q _ => C.a y hy q, fun y hy q n => ⟨C.b y hy q, n⟩, .inl ⟨rfl, C⟩⟩
theorem Walk.done {m : Nat} {p : Nat → Nat} {σ : Nat → Option Bool} {s e : Nat} (I : Inv m p) (W : Walk m p σ s e) {v : Bool} (h : σ (e / 2) = some v) : Closed m p σ := by
  rcases W.c with ⟨_, C⟩ | ⟨cs, cp⟩
  · exact C
  · have ce : ∃ c, col σ e = some c := ⟨_, by unfold col; rw [h]; rfl⟩
    obtain ⟨c, ce⟩ := ce
    cases c with
    | true =>
      have := W.a e W.e_lt ce (I.ne e W.e_lt)
      rw [cp] at this
      cases this
    | false =>
      have es : e = s := by
        apply Classical.byContradiction
        intro n
        exact (W.b e W.e_lt ce n).2 rfl
      subst es
      refine ⟨fun y hy q => ?_, fun y hy q => ?_⟩
      · by_cases n : p y = e
        · rw [n]; exact cs
        · exact W.a y hy q n
      · by_cases n : y = e
        · rw [n]; exact cp
        · exact (W.b y hy q n).1
def setS (σ : Nat → Option Bool) (k : Nat) (b : Bool) : Nat → Option Bool := fun j => if j = k then some b else σ j
theorem col_set_self {σ : Nat → Option Bool} (e : Nat) : col (setS σ (e / 2) (bit e)) e = some false := by
  unfold col setS
  rw [if_pos rfl]
  simp
theorem col_set_flip {σ : Nat → Option Bool} (e : Nat) : col (setS σ (e / 2) (bit e)) (flip e) = some true := by
  unfold col setS
  rw [flip_half, if_pos rfl, bit_flip]
  cases bit e <;> rfl
theorem col_set_ne {σ : Nat → Option Bool} {e y : Nat} (b : Bool) (h : y / 2 ≠ e / 2) : col (setS σ (e / 2) b) y = col σ y := by
  unfold col setS
  rw [if_neg h]
theorem Walk.step {m : Nat} {p : Nat → Nat} {σ : Nat → Option Bool} {s e : Nat} (I : Inv m p) (W : Walk m p σ s e) (h : σ (e / 2) = none) : Walk m p (setS σ (e / 2) (bit e)) s (p (flip e)) := by
  have hf := flip_lt W.e_lt
  have nh : ∀ {y : Nat} {c : Bool}, col σ y = some c → y / 2 ≠ e / 2 := fun {y c} q z => by
    unfold col at q
    rw [z, h] at q
    cases q
  have keep : ∀ {y : Nat} {c : Bool}, col σ y = some c → col (setS σ (e / 2) (bit e)) y = some c := fun {y c} q => by rw [col_set_ne _ (nh q)]; exact q
  have old : ∀ {y : Nat} {c : Bool}, col (setS σ (e / 2) (bit e)) y = some c → (y = e ∧ c = false) ∨ (y = flip e ∧ c = true) ∨ col σ y = some c := fun {y c} q => by
    by_cases z : y / 2 = e / 2
    · rcases same_half z with z2 | z2
      · subst z2
        rw [col_set_self] at q
        exact .inl ⟨rfl, (Option.some.inj q).symm⟩
      · subst z2
        rw [col_set_flip] at q
        exact .inr (.inl ⟨rfl, (Option.some.inj q).symm⟩)
    · rw [col_set_ne _ z] at q
      exact .inr (.inr q)
  refine ⟨I.lt _ hf, W.s_lt, fun y hy q n => ?_, fun y hy q n => ?_, .inr ⟨?_, ?_⟩⟩
  · rcases old q with ⟨_, z⟩ | ⟨z, _⟩ | q'
    · cases z
    · exact absurd (by rw [z]) n
    · by_cases z : p y = e
      · rw [z]; exact col_set_self e
      · exact keep (W.a y hy q' z)
  · rcases old q with ⟨z, _⟩ | ⟨_, z⟩ | q'
    · subst z
      rcases W.c with ⟨es, _⟩ | ⟨_, cp⟩
      · exact absurd es n
      · refine ⟨keep cp, fun z => nh cp ?_⟩
        have : p y = flip y := by
          have := I.back _ hf
          rw [← z] at this
          exact this
        rw [this]
        exact flip_half y
    · cases z
    · obtain ⟨w1, _⟩ := W.b y hy q' n
      refine ⟨keep w1, fun z => nh w1 ?_⟩
      rw [z, I.back _ hf]
      exact flip_half e
  · by_cases z : e = s
    · rw [← z]; exact col_set_self e
    · rcases W.c with ⟨es, _⟩ | ⟨cs, _⟩
      · exact absurd es z
      · exact keep cs
  · rw [I.back _ hf]
    exact col_set_flip e
/-! ### sums -/
/-- the weights of the ends up to j -/
def sumW (f : Int → Int) (j : Int) (l : List (Int × Int)) : Int := ((l.filter fun e => decide (e.1 ≤ j)).map fun e => f e.2).sum
theorem sumW_cons (f : Int → Int) (j : Int) (e : Int × Int) (l : List (Int × Int)) : sumW f j (e :: l) = (if e.1 ≤ j then f e.2 else 0) + sumW f j l := by
  unfold sumW
  by_cases c : e.1 ≤ j
  · rw [List.filter_cons_of_pos (by simpa using c), List.map_cons, List.sum_cons, if_pos c]
  · rw [List.filter_cons_of_neg (by simpa using c), if_neg c, Int.zero_add]
theorem sum_perm {l l' : List Int} (h : l.Perm l') : l.sum = l'.sum := by
  induction h with
  | nil => rfl
  | cons x _ ih => rw [List.sum_cons, List.sum_cons, ih]
  | swap x y l => simp only [List.sum_cons]; omega
  | trans _ _ h1 h2 => exact h1.trans h2
theorem sumW_perm (f : Int → Int) (j : Int) {l l' : List (Int × Int)} (h : l.Perm l') : sumW f j l = sumW f j l' := sum_perm ((h.filter _).map _)
/-- sorted by place, two by two of contrary weight: the sum is small -/
theorem sumW_small (f : Int → Int) (j : Int) (hf : ∀ x, f x = 1 ∨ f x = -1) : ∀ (n : Nat) (l : List (Int × Int)), l.length = 2 * n → l.Pairwise (fun a b => a.1 ≤ b.1) → (∀ k, k < n → ∀ a b, l[2 * k]? = some a → l[2 * k + 1]? = some b → f a.2 + f b.2 = 0) → -1 ≤ sumW f j l ∧ sumW f j l ≤ 1
  | 0, l, h, _, _ => by
    rw [List.length_eq_zero_iff.mp (show l.length = 0 by omega)]
    exact ⟨by show (-1:Int) ≤ 0; decide, by show (0:Int) ≤ 1; decide⟩
  | n + 1, [], h, _, _ => by have := h; simp only [List.length_nil] at this; omega
  | n + 1, [a], h, _, _ => by have := h; simp only [List.length_cons, List.length_nil] at this; omega
  | n + 1, a :: b :: l, h, hs, hw => by
    have h2 := List.pairwise_cons.mp hs
    have h3 := List.pairwise_cons.mp h2.2
    have w0 := hw 0 (by omega) a b rfl rfl
    rw [sumW_cons, sumW_cons]
    by_cases c : b.1 ≤ j
    · have ca : a.1 ≤ j := by have := h2.1 b (List.mem_cons_self ..); omega
      rw [if_pos ca, if_pos c]
      have ih := sumW_small f j hf n l (by simp at h; omega) h3.2 fun k hk x y hx hy => by
        refine hw (k + 1) (by omega) x y ?_ ?_
        · rw [show 2 * (k + 1) = 2 * k + 1 + 1 by omega, List.getElem?_cons_succ, List.getElem?_cons_succ]; exact hx
        · rw [show 2 * (k + 1) + 1 = 2 * k + 1 + 1 + 1 by omega, List.getElem?_cons_succ, List.getElem?_cons_succ]; exact hy
      omega
    · rw [if_neg c]
      have z : sumW f j l = 0 := by
        unfold sumW
        have : l.filter (fun e => decide (e.1 ≤ j)) = [] := by
          rw [List.filter_eq_nil_iff]
          intro e he
          have := h3.1 e he
          simp
          omega
        rw [this]
        rfl
      rw [z]
      have := hf a.2
      split <;> omega
end Half


set_option Elab.async false
set_option linter.all false
set_option maxRecDepth 100000
set_option maxHeartbeats 4000000
namespace K03
open PySem PySem.Spec PyProof.Rows L2
open Evl (Ex)
open Half
theorem xor_flip : ∀ n : Nat, n < 128 → Builtin.bitXor (n : Int) 1 = ((flip n : Nat) : Int) := by decide +kernel
def sv (σ : Nat → Option Bool) (k : Nat) : V := match σ k with | none => .non | some b => .int (if b then 1 else 0)
def rowS (m : Nat) (σ : Nat → Option Bool) : List V := (List.range m).map (sv σ)
theorem rowS_get {m : Nat} {σ : Nat → Option Bool} {k : Nat} (h : k < m) : (rowS m σ)[k]? = some (sv σ k) := by
  unfold rowS
  rw [List.getElem?_map, List.getElem?_range h]
  rfl
theorem rowS_len (m : Nat) (σ : Nat → Option Bool) : (rowS m σ).length = m := by unfold rowS; simp
theorem rowS_set {m : Nat} {σ : Nat → Option Bool} {k : Nat} (b : Bool) (h : k < m) : (rowS m σ).set k (.int (if b then 1 else 0)) = rowS m (setS σ k b) := by
  apply List.ext_getElem?
  intro q
  rw [List.getElem?_set]
  by_cases c : k = q
  · subst c
    rw [if_pos rfl, rowS_len, if_pos h, rowS_get h]
    unfold sv setS
    rw [if_pos rfl]
  · rw [if_neg c]
    by_cases hq : q < m
    · rw [rowS_get hq, rowS_get hq]
      unfold sv setS
      rw [if_neg (Ne.symm c)]
    · rw [List.getElem?_eq_none (by rw [rowS_len]; omega), List.getElem?_eq_none (by rw [rowS_len]; omega)]
def nones (m : Nat) (σ : Nat → Option Bool) : Nat := ((List.range m).filter fun k => (σ k).isNone).length
theorem nones_set {m : Nat} {σ : Nat → Option Bool} {k : Nat} (b : Bool) (h : k < m) (hn : σ k = none) : nones m (setS σ k b) < nones m σ := by
  unfold nones
  have e : ((List.range m).filter fun j => (setS σ k b j).isNone) = ((List.range m).filter fun j => (σ j).isNone).filter fun j => decide (j ≠ k) := by
    rw [List.filter_filter]
    refine List.filter_congr fun j _ => ?_
    unfold setS
    by_cases c : j = k
    · rw [if_pos c]
      simp [c]
    · rw [if_neg c]
      simp [c]
  rw [e, List.length_filter_lt_length_iff_exists]
  exact ⟨k, List.mem_filter.mpr ⟨List.mem_range.mpr h, by rw [hn]; rfl⟩, by simp⟩
section
variable {w : World} {K : PySem.W.Frag} {mg : Str → Option Value} {base : Heap}
def spSides : Sp := fun vs H Q _ => ∃ (P : Addr) (m : Nat) (p : Nat → Nat), vs = [.ref P] ∧ m < 60 ∧ Half.Inv m p ∧ H P = some (.lst ((List.range (2 * m)).map fun x => V.int (p x : Nat))) ∧
  ∀ σ H' q, Closed m p σ → (∀ k, k < m → σ k ≠ none) → Ex H H' → H q = none → H' q = some (.lst (rowS m σ)) → Q (.ref q) H'
theorem sc_sides_of : FnScope ["partner", "many", "sides", "k", "end"] ["partner"] (defScope s_sides_of) := ⟨rfl, rfl, rfl, by decide +kernel, rfl, by decide +kernel, by decide +kernel⟩
theorem has_sides_of (T : Ctx K mg) : Has w K mg base CX0 "sides_of" 1 ["partner"] spSides := by
  refine has_of (st := s_sides_of) (f := He.ga K "sides_of") T.d_sides_of T.g_sides_of (fun _ _ _ _ _ _ us hl => match us, hl with | [_], _ => rfl) fun fd F => ?_
  refine ok0 F sc_sides_of (fun vs H Q E h => ?_) (fun cdv A outer s0 H vs Q E hr h => ?_)
  · obtain ⟨P, m, p, rfl, _⟩ := h
    rfl
  · obtain ⟨P, m, p, rfl, hm, I, hP, k⟩ := h
    have nd := sc_sides_of.nd
    refine ⟨_, pss_cons (ps_set (i := 1) nd rfl (.inl rfl) (pe_op op_fdiv (pe_callB call_len_seq (by rfl) T.b_len PySem.boot_len (pa_cons (pv 0) pa_nil)) pe_int))
      (pss_cons (ps_set (i := 2) nd rfl (.inl rfl) (pe_op op_rep (pe_lst (pa_cons pe_non pa_nil)) (pv 1)))
      (pss_cons (ps_for PassesOwn.never rfl (pi_range1 (by rfl) T.b_range (pa_cons (pv 1) pa_nil)) (pg_name (i := 3) nd rfl (.inl rfl))
        (pss_cons (ps_set (i := 4) nd rfl (.inl rfl) (pe_op op_mul pe_int (pv 3)))
        (pss_one (ps_while PassesOwn.never (pt_cmpR op_isN (pe_ix ix_list (pv 2) (pe_op op_fdiv (pv 4) pe_int) (fun _ _ => rfl)) pe_non (nomark _))
          (pss_cons (ps_asg (pe_op op_odd (pv 4) pe_int) (pg_sub (pv 2) (pe_op op_fdiv (pv 4) pe_int) set_list))
          (pss_one (ps_set (i := 4) nd rfl (.inl rfl) (pe_ix ix_list (pv 0) (pe_op op_xor (pv 4) pe_int) (fun _ _ => rfl)))))))))
      (pss_one (ps_ret (pv 2))))), ?_⟩
    refine ⟨_, rfl, P, _, rfl, .inl (SqL.of hP), ?_⟩
    have hl2 : ((List.range (2 * m)).map fun x => V.int (p x : Nat)).length = 2 * m := by simp
    refine ⟨_, _, rfl, rfl, ⟨by decide, by decide⟩, ?_⟩
    have hdm : ((((List.range (2 * m)).map fun x => V.int (p x : Nat)).length : Nat) : Int) / 2 = (m : Int) := by rw [hl2]; omega
    show gName 1 (V.int (((((List.range (2 * m)).map fun x => V.int (p x : Nat)).length : Nat) : Int) / 2)) _ _ _
    rw [hdm]
    refine ⟨(by show 1 ≤ sizeLine; decide), fun p0 hp0 => ?_⟩
    have e0 := Ex.new (o := .lst [V.non]) hp0
    refine ⟨_, rfl, p0, _, _, rfl, rfl, upd_same, by omega, by omega, Nat.le_trans (show 1 * ((m : Int)).toNat ≤ 1000 by omega) (by decide), fun q hq => ?_⟩
    have hrow0 : (List.replicate ((m : Int)).toNat [V.non]).flatten = rowS m fun _ => none := by
      rw [Int.toNat_natCast]
      unfold rowS
      have z : ∀ n : Nat, (List.replicate n [V.non]).flatten = (List.range n).map (sv fun _ => none) := fun n => by
        induction n with
        | zero => rfl
        | succ n ih => rw [List.replicate_succ', List.flatten_append, ih, List.range_succ, List.map_append]; rfl
      exact z m
    have e1 := e0.trans (Ex.new (o := .lst (List.replicate ((m : Int)).toNat [V.non]).flatten) hq)
    have hq0 : H q = none := Evl.fresh_back e0 hq
    have hPq : P ≠ q := ne_of_none hP hq0
    refine ⟨_, rfl, _, rfl, by omega, by omega, for_it walk_range (fun i σ' H' => ∃ (v3 v4 : Option V) (τ : Nat → Option Bool), σ' = [some (.ref P), some (.int m), some (.ref q), v3, v4] ∧ Ex H H' ∧ Closed m p τ ∧ (∀ k, k < i → τ k ≠ none) ∧ H' q = some (.lst (rowS m τ))) ⟨_, _, fun _ => none, rfl, e1, ⟨fun y _ z => (by cases z), fun y _ z => (by cases z)⟩, fun k z => absurd z (Nat.not_lt_zero k), by rw [upd_same]; exact congrArg (fun z => some (HO.lst z)) hrow0⟩ (fun _ _ _ _ _ => trivial) ?_ ?_⟩
    · rintro i v σ' H2 H3 hi ⟨v3, v4, τ, rfl, e2, C, hk, hq2⟩ ⟨rfl, rfl⟩
      have him : i < m := by omega
      refine ⟨_, rfl, _, _, rfl, rfl, .inl ⟨by decide, by decide⟩, ?_⟩
      refine ⟨fun n σ' H' => ∃ (e : Nat) (v3 : Option V) (τ : Nat → Option Bool), n = nones m τ ∧ σ' = [some (.ref P), some (.int m), some (.ref q), v3, some (.int (e : Int))] ∧ Ex H H' ∧ Walk m p τ (2 * i) e ∧ (∀ k, k < i → τ k ≠ none) ∧ H' q = some (.lst (rowS m τ)), ⟨_, 2 * i, some (.int (0 + (i : Int))), τ, rfl, ?_, e2, Walk.start C (by omega), hk, hq2⟩, ?_⟩
      · show [some (V.ref P), some (.int m), some (.ref q), some (.int (0 + (i : Int))), some (V.int (2 * (0 + (i : Int))))] = _
        have : (2 * (0 + (i : Int))) = ((2 * i : Nat) : Int) := by omega
        rw [this]
      · rintro n σ' H4 ⟨e, v3, τ, rfl, rfl, e4, W, hk, hq4⟩
        have he := W.e_lt
        have hem : e / 2 < m := by omega
        have hd2 : ((e : Nat) : Int) / 2 = ((e / 2 : Nat) : Int) := by omega
        refine ⟨_, rfl, _, rfl, _, _, rfl, rfl, ⟨by decide, by decide⟩, q, _, _, sv τ (e / 2), rfl, rfl, SqL.of hq4, ?_, rfl, ?_⟩
        · rw [hd2]
          exact atI_nat (rowS_get hem)
        cases ht : τ (e / 2) with
        | none =>
          have hs : sv τ (e / 2) = .non := by unfold sv; rw [ht]
          rw [hs]
          refine ⟨_, rfl, iteT ?_⟩
          refine ⟨_, fun σ' H' z => z, ?_⟩
          have hb : ((e % 2 : Nat) : Int) = if bit e then 1 else 0 := by
            unfold bit
            by_cases c : e % 2 = 1
            · rw [decide_eq_true c, if_pos rfl, c]; rfl
            · rw [decide_eq_false c, if_neg (by decide)]; omega
          have hx := xor_flip e (by omega)
          have hfl := flip_lt he
          refine ⟨_, rfl, e, rfl, rfl, _, rfl, _, rfl, _, _, rfl, rfl, ⟨by decide, by decide⟩, q, _, _, e / 2, rfl, rfl, hq4, ?_, ?_⟩
          · rw [rowS_len, hd2]
            unfold ixN
            rw [if_pos (by omega), if_pos (by omega), Int.toNat_natCast]
          have hq5 : upd H4 q (.lst ((rowS m τ).set (e / 2) (.int ((e % 2 : Nat) : Int)))) q = some (.lst (rowS m (setS τ (e / 2) (bit e)))) := by
            rw [upd_same, hb, rowS_set (bit e) hem]
          have e5 : Ex H (upd H4 q (.lst ((rowS m τ).set (e / 2) (.int ((e % 2 : Nat) : Int))))) := Evl.Ex.mut e4 hq0
          refine ⟨_, rfl, _, rfl, _, _, rfl, rfl, P, _, _, .int (p (flip e) : Nat), rfl, rfl, SqL.of (e5 _ _ hP), ?_, ?_⟩
          · rw [hx]
            refine atI_nat ?_
            rw [List.getElem?_map, List.getElem?_range hfl]
            rfl
          refine ⟨_, nones_set (bit e) hem ht, p (flip e), v3, setS τ (e / 2) (bit e), rfl, rfl, e5, W.step I ht, fun k hk2 z => ?_, hq5⟩
          unfold setS at z
          by_cases c : k = e / 2
          · rw [if_pos c] at z; cases z
          · rw [if_neg c] at z; exact hk k hk2 z
        | some b =>
          have hs : sv τ (e / 2) = .int (if b then 1 else 0) := by unfold sv; rw [ht]
          rw [hs]
          refine ⟨_, rfl, iteF ?_⟩
          have C2 := W.done I ht
          refine ⟨_, _, τ, rfl, e4, C2, fun k hk2 z => ?_, hq4⟩
          by_cases c : k = i
          · subst c
            rcases W.c with ⟨es, _⟩ | ⟨cs, _⟩
            · rw [es, Nat.mul_div_cancel_left _ (by decide), z] at ht
              cases ht
            · unfold col at cs
              rw [Nat.mul_div_cancel_left _ (by decide), z] at cs
              cases cs
          · exact hk k (by omega) z
    · rintro σ' H2 ⟨v3, v4, τ, rfl, e2, C, hk, hq2⟩
      refine ⟨_, rfl, k τ H2 q C (fun j hj => hk j (by omega)) e2 hq0 hq2⟩
end
end K03


/-! The ends of the runs, sorted: each paired with its neighbour. -/
namespace Half
def endsFrom (rs : List (Int × Int)) : Nat → List Int → List (Int × Int)
  | _, [] => []
  | k, p :: ps => ((rs.getD p.toNat (0, 0)).1, ((2 * k : Nat) : Int)) :: ((rs.getD p.toNat (0, 0)).2, ((2 * k + 1 : Nat) : Int)) :: endsFrom rs (k + 1) ps
theorem endsFrom_snoc (rs : List (Int × Int)) : ∀ (ps : List Int) (k : Nat) (p : Int), endsFrom rs k (ps ++ [p]) = endsFrom rs k ps ++ [((rs.getD p.toNat (0, 0)).1, ((2 * (k + ps.length) : Nat) : Int)), ((rs.getD p.toNat (0, 0)).2, ((2 * (k + ps.length) + 1 : Nat) : Int))]
  | [], k, p => rfl
  | q :: ps, k, p => by
    show _ :: _ :: endsFrom rs (k + 1) (ps ++ [p]) = _ :: _ :: (endsFrom rs (k + 1) ps ++ _)
    rw [endsFrom_snoc rs ps (k + 1) p, show k + 1 + ps.length = k + (q :: ps).length by rw [List.length_cons]; omega]
theorem endsFrom_len (rs : List (Int × Int)) : ∀ (ps : List Int) (k : Nat), (endsFrom rs k ps).length = 2 * ps.length
  | [], _ => rfl
  | q :: ps, k => by
    show (endsFrom rs (k + 1) ps).length + 1 + 1 = _
    rw [endsFrom_len rs ps (k + 1), List.length_cons]
    omega
theorem endsFrom_num (rs : List (Int × Int)) : ∀ (ps : List Int) (k : Nat), (endsFrom rs k ps).map (fun e => e.2.toNat) = List.range' (2 * k) (2 * ps.length)
  | [], _ => rfl
  | q :: ps, k => by
    show ((2 * k : Nat) : Int).toNat :: ((2 * k + 1 : Nat) : Int).toNat :: (endsFrom rs (k + 1) ps).map (fun e => e.2.toNat) = _
    rw [endsFrom_num rs ps (k + 1), Int.toNat_natCast, Int.toNat_natCast, show 2 * (q :: ps).length = 2 * ps.length + 1 + 1 by rw [List.length_cons]; omega, List.range'_succ, List.range'_succ]
    rfl
theorem endsFrom_nn (rs : List (Int × Int)) : ∀ (ps : List Int) (k : Nat), ∀ e ∈ endsFrom rs k ps, 0 ≤ e.2
  | [], _, e, h => nomatch h
  | q :: ps, k, e, h => by
    rcases List.mem_cons.mp h with rfl | h
    · show (0 : Int) ≤ ((2 * k : Nat) : Int); omega
    rcases List.mem_cons.mp h with rfl | h
    · show (0 : Int) ≤ ((2 * k + 1 : Nat) : Int); omega
    exact endsFrom_nn rs ps (k + 1) e h
structure Num (m : Nat) (s : Nat → Nat) : Prop where
  lt : ∀ i, i < 2 * m → s i < 2 * m
  inj : ∀ i j, i < 2 * m → j < 2 * m → s i = s j → i = j
  surj : ∀ x, x < 2 * m → ∃ i, i < 2 * m ∧ s i = x
def nth (es : List (Int × Int)) (i : Nat) : Nat := (es.getD i (0, 0)).2.toNat
theorem num_of {rs : List (Int × Int)} {ps : List Int} {es : List (Int × Int)} (h : es.Perm (endsFrom rs 0 ps)) : Num ps.length (nth es) := by
  have hp : (es.map fun e => e.2.toNat).Perm (List.range (2 * ps.length)) := by
    have := h.map fun e : Int × Int => e.2.toNat
    rw [endsFrom_num, ← List.range_eq_range'] at this
    exact this
  have hl : es.length = 2 * ps.length := by rw [h.length_eq, endsFrom_len]
  have nd : (es.map fun e => e.2.toNat).Nodup := hp.nodup_iff.mpr List.nodup_range
  have at_ : ∀ i, i < 2 * ps.length → (es.map fun e => e.2.toNat)[i]? = some (nth es i) := fun i hi => by
    have hi' : i < es.length := by omega
    rw [List.getElem?_map, List.getElem?_eq_getElem hi']
    unfold nth
    rw [List.getD_eq_getElem?_getD, List.getElem?_eq_getElem hi']
    rfl
  refine ⟨fun i hi => ?_, fun i j hi hj e => ?_, fun x hx => ?_⟩
  · exact List.mem_range.mp (hp.mem_iff.mp (List.mem_of_getElem? (at_ i hi)))
  · have h1 := at_ i hi
    have h2 := at_ j hj
    rw [e] at h1
    have hli : i < (es.map fun e => e.2.toNat).length := by rw [List.length_map]; omega
    exact (List.getElem?_inj hli nd).mp (by rw [h1, h2])
  · obtain ⟨i, hi⟩ := List.mem_iff_getElem?.mp (hp.mem_iff.mpr (List.mem_range.mpr hx))
    have hil : i < 2 * ps.length := by
      have := (List.getElem?_eq_some_iff.mp hi).1
      rw [List.length_map] at this
      omega
    exact ⟨i, hil, by rw [at_ i hil] at hi; exact Option.some.inj hi⟩
def pe (s : Nat → Nat) : Nat → Nat → Nat
  | 0, _ => 0
  | k + 1, x => if x = s (2 * k + 1) then s (2 * k) else if x = s (2 * k) then s (2 * k + 1) else pe s k x
theorem pe_at {m : Nat} {s : Nat → Nat} (N : Num m s) : ∀ k, k ≤ m → ∀ j, j < k → pe s k (s (2 * j)) = s (2 * j + 1) ∧ pe s k (s (2 * j + 1)) = s (2 * j)
  | 0, _, j, h => absurd h (Nat.not_lt_zero j)
  | k + 1, hk, j, h => by
    have ne : ∀ a b, a < 2 * m → b < 2 * m → a ≠ b → s a ≠ s b := fun a b ha hb n z => n (N.inj a b ha hb z)
    unfold pe
    by_cases c : j = k
    · subst c
      rw [if_neg (ne _ _ (by omega) (by omega) (by omega)), if_pos rfl, if_pos rfl]
      exact ⟨rfl, rfl⟩
    · rw [if_neg (ne _ _ (by omega) (by omega) (by omega)), if_neg (ne _ _ (by omega) (by omega) (by omega)), if_neg (ne _ _ (by omega) (by omega) (by omega)), if_neg (ne _ _ (by omega) (by omega) (by omega))]
      exact pe_at N k (by omega) j (by omega)
theorem pe_inv {m : Nat} {s : Nat → Nat} (N : Num m s) : Inv m (pe s m) := by
  have key : ∀ x, x < 2 * m → pe s m x < 2 * m ∧ pe s m (pe s m x) = x ∧ pe s m x ≠ x := fun x hx => by
    obtain ⟨i, hi, rfl⟩ := N.surj x hx
    obtain ⟨j, hj⟩ : ∃ j, i = 2 * j ∨ i = 2 * j + 1 := ⟨i / 2, by omega⟩
    rcases hj with rfl | rfl
    · obtain ⟨a, b⟩ := pe_at N m (Nat.le_refl m) j (by omega)
      rw [a, b]
      exact ⟨N.lt _ (by omega), rfl, fun z => by have := N.inj _ _ (by omega) (by omega) z; omega⟩
    · obtain ⟨a, b⟩ := pe_at N m (Nat.le_refl m) j (by omega)
      rw [b, a]
      exact ⟨N.lt _ (by omega), rfl, fun z => by have := N.inj _ _ (by omega) (by omega) z; omega⟩
  exact ⟨fun x hx => (key x hx).1, fun x hx => (key x hx).2.1, fun x hx => (key x hx).2.2⟩
end Half


set_option Elab.async false
set_option linter.all false
set_option maxRecDepth 100000
set_option maxHeartbeats 4000000
namespace K03
open PySem PySem.Spec PyProof.Rows L2
open Evl (Ex)
open Half
theorem rg2 : ∀ m : Nat, m < 60 → RgC 0 ((2 * m : Nat) : Int) 2 m := by unfold RgC; decide +kernel
def rowP (n : Nat) (f : Nat → Nat) : List V := (List.range n).map fun x => V.int (f x : Nat)
theorem rowP_len (n : Nat) (f : Nat → Nat) : (rowP n f).length = n := by unfold rowP; simp
theorem rowP_get {n : Nat} {f : Nat → Nat} {k : Nat} (h : k < n) : (rowP n f)[k]? = some (.int (f k : Nat)) := by
  unfold rowP
  rw [List.getElem?_map, List.getElem?_range h]
  rfl
theorem rowP_set {n : Nat} {f : Nat → Nat} {a b : Nat} (h : a < n) : (rowP n f).set a (.int (b : Nat)) = rowP n fun x => if x = a then b else f x := by
  apply List.ext_getElem?
  intro q
  rw [List.getElem?_set]
  by_cases c : a = q
  · subst c
    rw [if_pos rfl, rowP_len, if_pos h, rowP_get h, if_pos rfl]
  · rw [if_neg c]
    by_cases hq : q < n
    · rw [rowP_get hq, rowP_get hq, if_neg (Ne.symm c)]
    · rw [List.getElem?_eq_none (by rw [rowP_len]; omega), List.getElem?_eq_none (by rw [rowP_len]; omega)]
theorem rowP_congr {n : Nat} {f g : Nat → Nat} (h : ∀ x, f x = g x) : rowP n f = rowP n g := by rw [show f = g from funext h]
/-- one more pair at the list -/
theorem runs_app {H : Hp} {q t : Addr} {us : List V} {es : List (Int × Int)} {x y : Int} (h : Runs H us es) (hq : H q = some (.lst us)) (ht : H t = none) : Runs (upd (upd H t (.tup [.int x, .int y])) q (.lst (us ++ [.ref t]))) (us ++ [.ref t]) (es ++ [(x, y)]) := by
  have e1 : Ex H (upd H t (.tup [.int x, .int y])) := Ex.new ht
  have htq : t ≠ q := Ne.symm (ne_of_none hq ht)
  refine Runs.snoc ((h.ex e1).mono fun t' ys e => by rw [upd_ne (ne_of e (e1 _ _ hq) (by intro z; cases z))]; exact e) ?_
  rw [upd_ne htq, upd_same]
def kOf (H : Hp) : V → Int × Int := fun v => match v with
  | .ref t => match H t with
    | some (.tup [.int a, .int b]) => (a, b)
    | _ => (0, 0)
  | _ => (0, 0)
theorem kOf_at {H : Hp} {t : Addr} {a b : Int} (h : H t = some (.tup [.int a, .int b])) : kOf H (.ref t) = (a, b) := by
  show (match H t with | some (.tup [.int a, .int b]) => (a, b) | _ => (0, 0)) = (a, b)
  rw [h]
theorem kOf_runs {H : Hp} {us : List V} {es : List (Int × Int)} (h : Runs H us es) : us.map (kOf H) = es := by
  apply List.ext_getElem?
  intro i
  rw [List.getElem?_map]
  by_cases hi : i < es.length
  · obtain ⟨t, a, b⟩ := h.at_ i _ (List.getElem?_eq_getElem hi)
    rw [a, List.getElem?_eq_getElem hi]
    show some (kOf H (.ref t)) = _
    rw [kOf_at b]
  · rw [List.getElem?_eq_none (by rw [h.len]; omega), List.getElem?_eq_none (by omega)]
    rfl
theorem runs_of {H : Hp} {us ys : List V} {es : List (Int × Int)} (h : Runs H us es) (m : ∀ y ∈ ys, y ∈ us) : Runs H ys (ys.map (kOf H)) := by
  refine ⟨by rw [List.length_map], fun i r hi => ?_⟩
  rw [List.getElem?_map] at hi
  cases hy : ys[i]? with
  | none => rw [hy] at hi; cases hi
  | some y =>
    rw [hy] at hi
    obtain ⟨j, hj⟩ := List.mem_iff_getElem?.mp (m y (List.mem_of_getElem? hy))
    obtain ⟨t, r', a, b, c⟩ := h.get hj
    subst b
    have : r = r' := by
      have z : some (kOf H (.ref t)) = some r := hi
      rw [kOf_at c] at z
      exact (Option.some.inj z).symm
    subst this
    exact ⟨t, rfl, c⟩
section
variable {w : World} {K : PySem.W.Frag} {mg : Str → Option Value} {base : Heap}
def spPartners (K : PySem.W.Frag) : Sp := fun vs H Q _ => ∃ (x c : Addr) (kd : Str) (s : Int) (us : List V) (rs : List (Int × Int)) (ns ps : List Int), vs = [.ref x, .ref c] ∧ Mkt K H x kd s us rs ns ∧ H c = some (.tup (ps.map V.int)) ∧ (∀ n ∈ ps, 0 ≤ n ∧ n < rs.length) ∧ ps.length < 60 ∧
  ∀ p es H' q, Half.Inv ps.length p → es.Perm (endsFrom rs 0 ps) → es.Pairwise (fun a b => a.1 ≤ b.1) → (∀ k, k < ps.length → p (nth es (2 * k)) = nth es (2 * k + 1)) → Ex H H' → H q = none → H' q = some (.lst (rowP (2 * ps.length) p)) → Q (.ref q) H'
theorem sc_partners : FnScope ["market", "chosen", "ends", "k", "part", "begin", "end", "partner", "one", "other"] ["market", "chosen"] (defScope s_partners) := ⟨rfl, rfl, rfl, by decide +kernel, rfl, by decide +kernel, by decide +kernel⟩
theorem has_partners (T : Ctx K mg) : Has w K mg base CX0 "partners" 1 ["market", "chosen"] (spPartners K) := by
  refine has_of (st := s_partners) (f := He.ga K "partners") T.d_partners T.g_partners (fun _ _ _ _ _ _ us hl => match us, hl with | [_, _], _ => rfl) fun fd F => ?_
  refine ok0 F sc_partners (fun vs H Q E h => ?_) (fun cdv A outer s0 H vs Q E hr h => ?_)
  · obtain ⟨x, c, kd, s, us, rs, ns, ps, rfl, _⟩ := h
    rfl
  · obtain ⟨x, c, kd, s, us, rs, ns, ps, rfl, M, hc, inn, hfew, k⟩ := h
    obtain ⟨C, dx, pr, pg, hM, h1, h2, h3⟩ := M.ob
    have nd := sc_partners.nd
    refine ⟨_, pss_cons (ps_set (i := 2) nd rfl (.inl rfl) (pe_lst pa_nil))
      (pss_cons (ps_for PassesOwn.never rfl (pi_enumT (by rfl) T.b_enumerate (pa_cons (pv 1) pa_nil)) (pg_tup (by rfl) (pgs_cons (pg_name (i := 3) nd rfl (.inl rfl)) (pgs_cons (pg_name (i := 4) nd rfl (.inl rfl)) pgs_nil)))
        (pss_cons (ps_asg (pe_ix ix_tup (pe_fld (pv 0) rfl) (pv 4) (fun _ _ => rfl)) (pg_tup (by rfl) (pgs_cons (pg_name (i := 5) nd rfl (.inl rfl)) (pgs_cons (pg_name (i := 6) nd rfl (.inl rfl)) pgs_nil))))
        (pss_cons (ps_expr (pe_bm PySem.F.plainAttrs_list PySem.F.slot_list_append PySem.F.type_list_append mt_append (pv 2) (pa_cons (pe_tup (pa_cons (pv 5) (pa_cons (pe_op op_mul pe_int (pv 3)) pa_nil))) pa_nil)))
        (pss_one (ps_expr (pe_bm PySem.F.plainAttrs_list PySem.F.slot_list_append PySem.F.type_list_append mt_append (pv 2) (pa_cons (pe_tup (pa_cons (pv 6) (pa_cons (pe_op op_add (pe_op op_mul pe_int (pv 3)) pe_int) pa_nil))) pa_nil)))))))
      (pss_cons (ps_set (i := 2) nd rfl (.inl rfl) (pe_callB cr_sortedPO (by rfl) T.b_sorted (by decide +kernel) (pa_cons (pv 2) pa_nil)))
      (pss_cons (ps_set (i := 7) nd rfl (.inl rfl) (pe_op op_rep (pe_lst (pa_cons pe_int pa_nil)) (pe_callB call_len_seq (by rfl) T.b_len PySem.boot_len (pa_cons (pv 2) pa_nil))))
      (pss_cons (ps_for PassesOwn.never rfl (pi_range3 (by rfl) T.b_range (pa_cons pe_int (pa_cons (pe_callB call_len_seq (by rfl) T.b_len PySem.boot_len (pa_cons (pv 2) pa_nil)) (pa_cons pe_int pa_nil)))) (pg_name (i := 3) nd rfl (.inl rfl))
        (pss_cons (ps_set (i := 8) nd rfl (.inl rfl) (pe_ix ix_tup (pe_ix ix_list (pv 2) (pv 3) (fun _ _ => rfl)) pe_int (fun _ _ => rfl)))
        (pss_cons (ps_set (i := 9) nd rfl (.inl rfl) (pe_ix ix_tup (pe_ix ix_list (pv 2) (pe_op op_add (pv 3) pe_int) (fun _ _ => rfl)) pe_int (fun _ _ => rfl)))
        (pss_cons (ps_asg (pv 9) (pg_sub (pv 7) (pv 8) set_list))
        (pss_one (ps_asg (pv 8) (pg_sub (pv 7) (pv 9) set_list)))))))
      (pss_one (ps_ret (pv 7))))))), ?_⟩
    refine ⟨(by show 0 ≤ sizeLine; decide), fun q hq0 => ?_⟩
    have e0 := Ex.new (o := .lst []) hq0
    have hcq : c ≠ q := ne_of_none hc hq0
    refine ⟨_, rfl, c, _, rfl, SqT.of (e0 _ _ hc), for_it walk_enumT (fun i σ H' => ∃ (v3 v4 v5 v6 : Option V) (us' : List V), σ = [some (.ref x), some (.ref c), some (.ref q), v3, v4, v5, v6, none, none, none] ∧ Ex H H' ∧ H' q = some (.lst us') ∧ Runs H' us' (endsFrom rs 0 (ps.take i))) ⟨_, _, _, _, [], rfl, e0, upd_same, Runs.nil⟩ (fun i σ H' _ ⟨_, _, _, _, _, _, e, _⟩ => SqT.of (e _ _ hc)) ?_ ?_⟩
    · rintro i v σ H2 H3 hi ⟨v3, v4, v5, v6, us', rfl, e2, hq2, R2⟩ ⟨t, x1, y1, rfl, ht, rfl, hx1, hy1⟩
      cases hx1
      obtain ⟨p, hp, rfl⟩ := map_int_get hy1
      have hil : i < ps.length := (List.getElem?_eq_some_iff.mp hp).1
      obtain ⟨hpp0, hp1⟩ := inn p (List.mem_of_getElem? hp)
      obtain ⟨n, rfl⟩ : ∃ n : Nat, p = (n : Int) := ⟨p.toNat, by omega⟩
      have hn : n < rs.length := by omega
      have e3 : Ex H2 (upd H2 t (.tup [.int (i : Nat), .int (n : Int)])) := Ex.new ht
      have R3 := R2.ex e3
      have hq3 := e3 _ _ hq2
      have e23 := e2.trans e3
      refine ⟨t, _, rfl, SqT.of upd_same, rfl, _, _, rfl, _, _, rfl, rfl, ?_⟩
      generalize upd H2 t (.tup [.int (i : Nat), .int (n : Int)]) = H3 at *
      obtain ⟨tr, htr, htt⟩ := (M.runs.ex e23).at_ n _ (List.getElem?_eq_getElem hn)
      have hgd : rs.getD (n : Int).toNat (0, 0) = rs[n] := by
        rw [Int.toNat_natCast, List.getD_eq_getElem?_getD, List.getElem?_eq_getElem hn]
        rfl
      generalize rs[n] = r at *
      have hix : atI us (n : Int) = some (.ref tr) := atI_nat htr
      have lenT : (ps.take i).length = i := by rw [List.length_take]; omega
      have hul : us'.length = 2 * i := by rw [R2.len, endsFrom_len, lenT]
      refine ⟨_, rfl, x, C, dx, _, _, rfl, e23 _ _ h1, hM.cl T, hM.nR T, mf_runs _ _ _, _, rfl, pr, us, _, _, rfl, rfl, SqT.of (e23 _ _ h2), hix, tr, _, rfl, SqT.of htt, rfl, _, _, rfl, _, _, rfl, rfl, ?_⟩
      refine ⟨_, rfl, .inl ⟨rfl, _, SqL.of hq3⟩, _, rfl, _, rfl, _, _, rfl, rfl, .inl ⟨by decide, by decide⟩, (by show 2 ≤ sizeLine; decide), fun t1 ht1 => ⟨q, us', .ref t1, rfl, rfl, (Ex.new ht1) _ _ hq3, small1000 (by omega), ?_⟩⟩
      have R4 := runs_app (x := r.1) (y := 2 * ((i : Nat) : Int)) R3 hq3 ht1
      have e4 : Ex H (upd (upd H3 t1 (.tup [.int r.1, .int (2 * ((i : Nat) : Int))])) q (.lst (us' ++ [.ref t1]))) := Evl.Ex.mut (e23.trans (Ex.new ht1)) hq0
      have hq4 : (upd (upd H3 t1 (.tup [.int r.1, .int (2 * ((i : Nat) : Int))])) q (.lst (us' ++ [.ref t1]))) q = some (.lst (us' ++ [.ref t1])) := upd_same
      generalize upd (upd H3 t1 (.tup [.int r.1, .int (2 * ((i : Nat) : Int))])) q (.lst (us' ++ [.ref t1])) = H4 at *
      refine ⟨_, rfl, .inl ⟨rfl, _, SqL.of hq4⟩, _, rfl, _, rfl, _, _, rfl, rfl, .inl ⟨by decide, by decide⟩, _, _, rfl, rfl, (by show 2 ≤ sizeLine; decide), fun t2 ht2 => ⟨q, _, .ref t2, rfl, rfl, (Ex.new ht2) _ _ hq4, small1000 (by rw [List.length_append, hul]; show 2 * i + 1 ≤ 1000; omega), ?_⟩⟩
      have R5 := runs_app (x := r.2) (y := 2 * ((i : Nat) : Int) + 1) R4 hq4 ht2
      refine ⟨_, _, _, _, _, rfl, Evl.Ex.mut (e4.trans (Ex.new ht2)) hq0, upd_same, ?_⟩
      rw [List.take_add_one, hp]
      show Runs _ _ (endsFrom rs 0 (ps.take i ++ [(n : Int)]))
      rw [endsFrom_snoc, hgd, lenT]
      have a1 : ((2 * (0 + i) : Nat) : Int) = 2 * ((i : Nat) : Int) := by omega
      have a2 : ((2 * (0 + i) + 1 : Nat) : Int) = 2 * ((i : Nat) : Int) + 1 := by omega
      rw [a1, a2]
      have e6 : endsFrom rs 0 (ps.take i) ++ [(r.1, 2 * ((i : Nat) : Int)), (r.2, 2 * ((i : Nat) : Int) + 1)] = endsFrom rs 0 (ps.take i) ++ [(r.1, 2 * ((i : Nat) : Int))] ++ [(r.2, 2 * ((i : Nat) : Int) + 1)] := by rw [List.append_assoc]; rfl
      rw [e6]
      exact R5
    · rintro σ H2 ⟨v3, v4, v5, v6, us', rfl, e2, hq2, R2⟩
      rw [List.length_map, List.take_length] at R2
      refine ⟨_, rfl, q, us', kOf H2, rfl, SqL.of hq2, fun y hy => ?_, fun ys q2 hsr hst hq20 => ?_⟩
      · obtain ⟨j, hj⟩ := List.mem_iff_getElem?.mp hy
        obtain ⟨t, r, a, b, c⟩ := R2.get hj
        subst b
        refine ⟨t, rfl, ?_⟩
        rw [kOf_at c]
        exact c
      have e3 : Ex H2 (upd H2 q2 (.lst ys)) := Ex.new hq20
      have RY := (runs_of R2 fun y hy => hst.perm.mem_iff.mp hy).ex e3
      have hperm : (ys.map (kOf H2)).Perm (endsFrom rs 0 ps) := by
        have := hst.perm.map (kOf H2)
        rw [kOf_runs R2] at this
        exact this
      have hsort : (ys.map (kOf H2)).Pairwise (fun a b => a.1 ≤ b.1) := by
        refine List.pairwise_map.mpr (List.Pairwise.imp (fun {a b} z => ?_) hsr)
        have := SrtO.lexB_no.mp z
        omega
      have hq2l : upd H2 q2 (.lst ys) q2 = some (.lst ys) := upd_same
      generalize hes : ys.map (kOf H2) = es at *
      have e23 := e2.trans e3
      have hq20' : H q2 = none := Evl.fresh_back e2 hq20
      generalize upd H2 q2 (.lst ys) = H3 at *
      have hlen : es.length = 2 * ps.length := by rw [hperm.length_eq, endsFrom_len]
      have hyl : ys.length = 2 * ps.length := by rw [RY.len, hlen]
      have N := num_of hperm
      refine ⟨(by show 1 ≤ sizeLine; decide), fun p0 hp0 => ?_⟩
      have e4 : Ex H3 (upd H3 p0 (.lst [V.int 0])) := Ex.new hp0
      have hlenZ : ((ys.length : Nat) : Int) = ((2 * ps.length : Nat) : Int) := by rw [hyl]
      refine ⟨_, rfl, q2, _, rfl, .inl (SqL.of (e4 _ _ hq2l)), p0, _, _, rfl, rfl, upd_same, by omega, by omega, Nat.le_trans (show 1 * (((ys.length : Nat) : Int)).toNat ≤ 1000 by omega) (by decide), fun q3 hq3 => ?_⟩
      have e5 := e4.trans (Ex.new (o := .lst (List.replicate (((ys.length : Nat) : Int)).toNat [V.int 0]).flatten) hq3)
      have hrow0 : (List.replicate (((ys.length : Nat) : Int)).toNat [V.int 0]).flatten = rowP (2 * ps.length) (pe (nth es) 0) := by
        rw [Int.toNat_natCast, hyl]
        have z : ∀ n : Nat, (List.replicate n [V.int 0]).flatten = rowP n fun _ => 0 := fun n => by
          unfold rowP
          induction n with
          | zero => rfl
          | succ n ih => rw [List.replicate_succ', List.flatten_append, ih, List.range_succ, List.map_append]; rfl
        rw [z]
        exact rowP_congr fun x => rfl
      have hq30 : H q3 = none := Evl.fresh_back (e23.trans e4) hq3
      have e25 := e23.trans e5
      have hq3l : upd (upd H3 p0 (.lst [V.int 0])) q3 (.lst (List.replicate (((ys.length : Nat) : Int)).toNat [V.int 0]).flatten) q3 = some (.lst (rowP (2 * ps.length) (pe (nth es) 0))) := by rw [upd_same, hrow0]
      have hq23 : q2 ≠ q3 := ne_of_none (e4 _ _ hq2l) hq3
      generalize upd (upd H3 p0 (.lst [V.int 0])) q3 (.lst (List.replicate (((ys.length : Nat) : Int)).toNat [V.int 0]).flatten) = H5 at *
      refine ⟨_, rfl, q2, _, rfl, .inl (SqL.of (e5 _ _ hq2l)), _, _, _, _, rfl, (by rw [hlenZ]; exact rg2 _ hfew), for_it walk_rangeC (fun i σ H' => ∃ v3 v4 v5 v6 v8 v9 : Option V, σ = [some (.ref x), some (.ref c), some (.ref q2), v3, v4, v5, v6, some (.ref q3), v8, v9] ∧ Ex H H' ∧ H' q2 = some (.lst ys) ∧ Runs H' ys es ∧ H' q3 = some (.lst (rowP (2 * ps.length) (pe (nth es) i)))) ⟨_, _, _, _, _, _, rfl, e25, e5 _ _ hq2l, RY.ex e5, hq3l⟩ (fun _ _ _ _ _ => trivial) ?_ ?_⟩
      · rintro i v σ H6 H7 hi ⟨v3, v4, v5, v6, v8, v9, rfl, e6, l6, R6, q6⟩ ⟨rfl, rfl⟩
        have nthI : ∀ j (h : j < es.length), (es[j]).2 = ((nth es j : Nat) : Int) := fun j h => by
          have nn : 0 ≤ (es[j]).2 := endsFrom_nn rs ps 0 _ (hperm.mem_iff.mp (List.getElem_mem h))
          unfold nth
          rw [List.getD_eq_getElem?_getD, List.getElem?_eq_getElem h]
          show _ = (((es[j]).2.toNat : Nat) : Int)
          omega
        have i1 : 2 * i < es.length := by omega
        have i2 : 2 * i + 1 < es.length := by omega
        obtain ⟨t1, y1, z1⟩ := R6.at_ (2 * i) _ (List.getElem?_eq_getElem i1)
        obtain ⟨t2, y2, z2⟩ := R6.at_ (2 * i + 1) _ (List.getElem?_eq_getElem i2)
        rw [nthI _ i1] at z1
        rw [nthI _ i2] at z2
        have n1 := N.lt (2 * i) (by omega)
        have n2 := N.lt (2 * i + 1) (by omega)
        have v1 : (0 : Int) + ((i : Nat) : Int) * 2 = ((2 * i : Nat) : Int) := by omega
        have v2 : (0 : Int) + ((i : Nat) : Int) * 2 + 1 = ((2 * i + 1 : Nat) : Int) := by omega
        refine ⟨_, rfl, _, rfl, q2, ys, _, .ref t1, rfl, rfl, SqL.of l6, (by rw [v1]; exact atI_nat y1), t1, _, 1, _, rfl, rfl, SqT.of z1, atI_nat (j := 1) rfl, ?_⟩
        refine ⟨_, rfl, _, rfl, _, _, rfl, rfl, q2, ys, _, .ref t2, rfl, rfl, SqL.of l6, (by rw [v2]; exact atI_nat y2), t2, _, 1, _, rfl, rfl, SqT.of z2, atI_nat (j := 1) rfl, ?_⟩
        refine ⟨_, rfl, _, rfl, _, rfl, q3, _, _, nth es (2 * i), rfl, rfl, q6, ?_, ?_⟩
        · rw [rowP_len]
          unfold ixN
          rw [if_pos (by omega), if_pos (by omega), Int.toNat_natCast]
        rw [rowP_set n1]
        have e7 : Ex H (upd H7 q3 (.lst (rowP (2 * ps.length) fun x => if x = nth es (2 * i) then nth es (2 * i + 1) else pe (nth es) i x))) := Evl.Ex.mut e6 hq30
        refine ⟨_, rfl, _, rfl, _, rfl, q3, _, _, nth es (2 * i + 1), rfl, rfl, upd_same, ?_, ?_⟩
        · rw [rowP_len]
          unfold ixN
          rw [if_pos (by omega), if_pos (by omega), Int.toNat_natCast]
        rw [rowP_set n2]
        refine ⟨_, _, _, _, _, _, rfl, Evl.Ex.mut e7 hq30, ?_, ?_, ?_⟩
        · rw [upd_ne hq23, upd_ne hq23]
          exact l6
        · have keep : ∀ (Z : Hp) (u : List V), (∀ t xs, H7 t = some (.tup xs) → Z t = some (.tup xs)) → ∀ t xs, H7 t = some (.tup xs) → upd Z q3 (.lst u) t = some (.tup xs) := fun Z u f t xs h => by
            rw [upd_ne (ne_of h q6 (by intro z; cases z))]
            exact f t xs h
          exact R6.mono (keep _ _ (keep _ _ fun t xs h => h))
        · rw [upd_same]
          exact congrArg (fun z => some (HO.lst z)) (rowP_congr fun x => rfl)
      · rintro σ H6 ⟨v3, v4, v5, v6, v8, v9, rfl, e6, l6, R6, q6⟩
        exact ⟨_, rfl, k (pe (nth es) ps.length) es H6 q3 (pe_inv N) hperm hsort (fun j hj => (pe_at N _ (Nat.le_refl _) j hj).1) e6 hq30 q6⟩
end
end K03


set_option Elab.async false
set_option linter.all false
set_option maxRecDepth 100000
set_option maxHeartbeats 4000000
namespace K03
open PySem PySem.Spec PyProof.Rows L2
open Evl (Ex)
open Half
/-! ### the pieces of a set by the sides -/
def pick (b : Nat → Bool) : Nat → List Int → List Int
  | _, [] => []
  | k, p :: ps => if b k = true then p :: pick b (k + 1) ps else pick b (k + 1) ps
theorem pick_snoc (b : Nat → Bool) : ∀ (ps : List Int) (k : Nat) (p : Int), pick b k (ps ++ [p]) = pick b k ps ++ if b (k + ps.length) = true then [p] else []
  | [], k, p => by
    show (if b k = true then p :: [] else []) = [] ++ if b (k + 0) = true then [p] else []
    rw [Nat.add_zero, List.nil_append]
  | q :: ps, k, p => by
    have ih := pick_snoc b ps (k + 1) p
    rw [show k + 1 + ps.length = k + (q :: ps).length by rw [List.length_cons]; omega] at ih
    show (if b k = true then q :: pick b (k + 1) (ps ++ [p]) else pick b (k + 1) (ps ++ [p])) = (if b k = true then q :: pick b (k + 1) ps else pick b (k + 1) ps) ++ _
    rw [ih]
    by_cases c : b k = true
    · rw [if_pos c, if_pos c]; rfl
    · rw [if_neg c, if_neg c]
theorem pick_sub (b : Nat → Bool) : ∀ (ps : List Int) (k : Nat), (pick b k ps).Sublist ps
  | [], _ => List.Sublist.slnil
  | q :: ps, k => by
    have ih := pick_sub b ps (k + 1)
    show (if b k = true then q :: pick b (k + 1) ps else pick b (k + 1) ps).Sublist (q :: ps)
    by_cases c : b k = true
    · rw [if_pos c]; exact ih.cons_cons q
    · rw [if_neg c]; exact ih.cons q
/-- every part lies in just one of the two -/
structure Split (ps as bs : List Int) : Prop where
  sa : as.Sublist ps
  sb : bs.Sublist ps
  all : ∀ p, p ∈ ps → p ∈ as ∨ p ∈ bs
  ap : ∀ p, p ∈ as → p ∉ bs
theorem pick_all {b c : Nat → Bool} : ∀ (ps : List Int) (k : Nat), (∀ i, i < ps.length → (b (k + i) = true ∨ c (k + i) = true)) → ∀ p, p ∈ ps → p ∈ pick b k ps ∨ p ∈ pick c k ps
  | [], _, _, p, h => nomatch h
  | q :: ps, k, hb, p, h => by
    have ih := pick_all (b := b) (c := c) ps (k + 1) (fun i hi => by have := hb (i + 1) (by rw [List.length_cons]; omega); rw [show k + (i + 1) = k + 1 + i by omega] at this; exact this)
    have h0 := hb 0 (by rw [List.length_cons]; omega)
    rw [Nat.add_zero] at h0
    show p ∈ (if b k = true then q :: pick b (k + 1) ps else pick b (k + 1) ps) ∨ p ∈ (if c k = true then q :: pick c (k + 1) ps else pick c (k + 1) ps)
    have step : ∀ (d : Nat → Bool), p ∈ pick d (k + 1) ps → p ∈ (if d k = true then q :: pick d (k + 1) ps else pick d (k + 1) ps) := fun d z => by
      split
      · exact List.mem_cons_of_mem _ z
      · exact z
    rcases List.mem_cons.mp h with rfl | h
    · rcases h0 with h0 | h0
      · rw [if_pos h0]; exact .inl List.mem_cons_self
      · rw [if_pos h0]; exact .inr List.mem_cons_self
    · exact (ih p h).imp (step b) (step c)
theorem pick_ap {b c : Nat → Bool} : ∀ (ps : List Int) (k : Nat), ps.Nodup → (∀ i, ¬ (b i = true ∧ c i = true)) → ∀ p, p ∈ pick b k ps → p ∉ pick c k ps
  | [], _, _, _, p, h, _ => nomatch h
  | q :: ps, k, nd, hb, p, h, h2 => by
    have nd' := List.nodup_cons.mp nd
    have ih := pick_ap (b := b) (c := c) ps (k + 1) nd'.2 hb p
    have one : ∀ (d : Nat → Bool), p ∈ (if d k = true then q :: pick d (k + 1) ps else pick d (k + 1) ps) → (p = q ∧ d k = true) ∨ p ∈ pick d (k + 1) ps := fun d z => by
      by_cases e : d k = true
      · rw [if_pos e] at z
        exact (List.mem_cons.mp z).imp (fun y => ⟨y, e⟩) id
      · rw [if_neg e] at z
        exact .inr z
    have nq : ∀ (d : Nat → Bool), p = q → p ∈ pick d (k + 1) ps → False := fun d e z => nd'.1 (by rw [← e]; exact (pick_sub d ps (k + 1)).mem z)
    rcases one b h with ⟨e1, f1⟩ | g1
    · rcases one c h2 with ⟨_, f2⟩ | g2
      · exact hb k ⟨f1, f2⟩
      · exact nq c e1 g2
    · rcases one c h2 with ⟨e2, _⟩ | g2
      · exact nq b e2 g1
      · exact ih g1 g2
/-! ### their covers -/
def wgt (σ : Nat → Option Bool) (x : Int) : Int := if col σ x.toNat = some false then 1 else -1
theorem wgt_pm (σ : Nat → Option Bool) (x : Int) : wgt σ x = 1 ∨ wgt σ x = -1 := by
  unfold wgt
  split
  · exact .inl rfl
  · exact .inr rfl
theorem wgt_begin {σ : Nat → Option Bool} {k : Nat} {v : Bool} (h : σ k = some v) : wgt σ ((2 * k : Nat) : Int) = if v = false then 1 else -1 := by
  unfold wgt col
  rw [Int.toNat_natCast, Nat.mul_div_cancel_left _ (by decide), h]
  have : bit (2 * k) = false := decide_eq_false (by omega)
  rw [this]
  cases v <;> rfl
theorem wgt_end {σ : Nat → Option Bool} {k : Nat} {v : Bool} (h : σ k = some v) : wgt σ ((2 * k + 1 : Nat) : Int) = if v = false then -1 else 1 := by
  unfold wgt col
  rw [Int.toNat_natCast, show (2 * k + 1) / 2 = k by omega, h]
  have : bit (2 * k + 1) = true := decide_eq_true (by omega)
  rw [this]
  cases v <;> rfl
def isF (σ : Nat → Option Bool) (k : Nat) : Bool := decide (σ k = some false)
def isT (σ : Nat → Option Bool) (k : Nat) : Bool := decide (σ k = some true)
theorem cov_diff (rs : List (Int × Int)) (σ : Nat → Option Bool) (j : Int) : ∀ (ps : List Int) (k : Nat), (∀ i, i < ps.length → σ (k + i) ≠ none) → (∀ p ∈ ps, (rs.getD p.toNat (0, 0)).1 < (rs.getD p.toNat (0, 0)).2) →
    covAt rs (pick (isF σ) k ps) j - covAt rs (pick (isT σ) k ps) j = sumW (wgt σ) j (endsFrom rs k ps)
  | [], _, _, _ => rfl
  | p :: ps, k, hs, hf => by
    have ih := cov_diff rs σ j ps (k + 1) (fun i hi => by have := hs (i + 1) (by rw [List.length_cons]; omega); rw [show k + (i + 1) = k + 1 + i by omega] at this; exact this) (fun q hq => hf q (List.mem_cons_of_mem _ hq))
    have h0 := hs 0 (by rw [List.length_cons]; omega)
    rw [Nat.add_zero] at h0
    have hlt := hf p List.mem_cons_self
    obtain ⟨v, hv⟩ : ∃ v, σ k = some v := by
      cases c : σ k with
      | none => exact absurd c h0
      | some v => exact ⟨v, rfl⟩
    show covAt rs (if isF σ k = true then p :: pick (isF σ) (k + 1) ps else pick (isF σ) (k + 1) ps) j - covAt rs (if isT σ k = true then p :: pick (isT σ) (k + 1) ps else pick (isT σ) (k + 1) ps) j = sumW (wgt σ) j (_ :: _ :: endsFrom rs (k + 1) ps)
    rw [sumW_cons, sumW_cons, ← ih]
    show _ = (if (rs.getD p.toNat (0, 0)).1 ≤ j then wgt σ ((2 * k : Nat) : Int) else 0) + ((if (rs.getD p.toNat (0, 0)).2 ≤ j then wgt σ ((2 * k + 1 : Nat) : Int) else 0) + _)
    rw [wgt_begin hv, wgt_end hv]
    cases v with
    | false =>
      have f1 : isF σ k = true := decide_eq_true hv
      have f2 : isT σ k = false := decide_eq_false (by rw [hv]; simp)
      rw [if_pos f1, if_neg (by rw [f2]; decide), covAt_cons]
      generalize rs.getD p.toNat (0, 0) = r at *
      simp only [if_true]
      split <;> split <;> split <;> omega
    | true =>
      have f1 : isT σ k = true := decide_eq_true hv
      have f2 : isF σ k = false := decide_eq_false (by rw [hv]; simp)
      rw [if_pos f1, if_neg (by rw [f2]; decide), covAt_cons]
      generalize rs.getD p.toNat (0, 0) = r at *
      simp only [Bool.true_eq_false, if_false]
      split <;> split <;> split <;> omega
theorem cov_even {rs : List (Int × Int)} {ps : List Int} {p : Nat → Nat} {es : List (Int × Int)} {σ : Nat → Option Bool} (hp : es.Perm (endsFrom rs 0 ps)) (hs : es.Pairwise fun a b => a.1 ≤ b.1) (hn : ∀ k, k < ps.length → p (nth es (2 * k)) = nth es (2 * k + 1))
    (C : Closed ps.length p σ) (hσ : ∀ k, k < ps.length → σ k ≠ none) (hf : ∀ p ∈ ps, (rs.getD p.toNat (0, 0)).1 < (rs.getD p.toNat (0, 0)).2) (j : Int) :
    -1 ≤ covAt rs (pick (isF σ) 0 ps) j - covAt rs (pick (isT σ) 0 ps) j ∧ covAt rs (pick (isF σ) 0 ps) j - covAt rs (pick (isT σ) 0 ps) j ≤ 1 := by
  rw [cov_diff rs σ j ps 0 (fun i hi => by rw [Nat.zero_add]; exact hσ i hi) hf, ← sumW_perm (wgt σ) j hp]
  have hl : es.length = 2 * ps.length := by rw [hp.length_eq, endsFrom_len]
  have N := num_of hp
  refine sumW_small (wgt σ) j (wgt_pm σ) ps.length es hl hs fun k hk a b ha hb => ?_
  have na : nth es (2 * k) = a.2.toNat := by unfold nth; rw [List.getD_eq_getElem?_getD, ha]; rfl
  have nb : nth es (2 * k + 1) = b.2.toNat := by unfold nth; rw [List.getD_eq_getElem?_getD, hb]; rfl
  have e := hn k hk
  have la := N.lt (2 * k) (by omega)
  rw [na] at e la
  rw [nb] at e
  unfold wgt
  obtain ⟨v, hv⟩ : ∃ v, col σ a.2.toNat = some v := by
    unfold col
    cases c : σ (a.2.toNat / 2) with
    | none => exact absurd c (hσ _ (by omega))
    | some v => exact ⟨_, rfl⟩
  cases v with
  | false =>
    have := C.b _ la hv
    rw [e] at this
    rw [hv, this, if_pos rfl, if_neg (by decide)]
    rfl
  | true =>
    have := C.a _ la hv
    rw [e] at this
    rw [hv, this, if_pos rfl, if_neg (by decide)]
    rfl
end K03


set_option Elab.async false
set_option linter.all false
set_option maxRecDepth 100000
set_option maxHeartbeats 4000000
/-! for a, b in zip(t, u), t a tuple and u a list. -/
namespace L2
open PySem PySem.Spec PyProof.Rows
def ItzX (K : PySem.W.Frag) (a b : Addr) : It :=
  ⟨fun i H => ∃ t u x y, SqT K H a t ∧ SqL K H b u ∧ t[i]? = some x ∧ u[i]? = some y,
   fun i H v H' => ∃ T x y, v = .ref T ∧ H T = none ∧ H' = upd H T (.tup [x, y]) ∧ (∀ t, SqT K H a t → t[i]? = some x) ∧ (∀ u, SqL K H b u → u[i]? = some y),
   fun i H => ∃ t u, SqT K H a t ∧ SqL K H b u ∧ i ≤ t.length ∧ i ≤ u.length ∧ (i = t.length ∨ i = u.length)⟩
def ZipAt (a b z TI TO i1 i2 : Addr) (i : Nat) (h : Heap) : Prop :=
  IsZip h z TI TO .none ∧ IsTupOf2 h TI (.ref i1) (.ref i2) ∧ (∃ x y, IsTupOf2 h TO x y) ∧ h.IsTupleIter i1 a i ∧ h.IsListIter i2 b i
theorem five {z TI TO i1 i2 c : Addr} {P : Addr → Prop} (h : c ∈ [z, TI, TO, i1, i2]) (p1 : P z) (p2 : P TI) (p3 : P TO) (p4 : P i1) (p5 : P i2) : P c := by
  simp only [List.mem_cons, List.not_mem_nil, or_false] at h
  rcases h with rfl | rfl | rfl | rfl | rfl <;> assumption
theorem turn_zipX {P : Program} {w : World} {K : PySem.W.Frag} {elts : List Expr} {kk : Nat} {tpos : Pos} {a b z TI TO i1 i2 : Addr} (S : ZipSep2 z TI TO i1 i2 [i1, a] [i2, b]) :
    Turn P w K (.Tuple elts kk tpos) (ItzX K a b) [z, TI, TO, i1, i2] z (ZipAt a b z TI TO i1 i2) where
  mem := List.mem_cons_self
  obj := by
    rintro i h ⟨hz, hI, ⟨x, y, hO⟩, ⟨o1, e1, _, d1⟩, ⟨o2, e2, _, d2⟩⟩ c hc
    refine five (P := fun c => ∃ o, h.get? c = some o ∧ ∀ v, o.data ≠ .cell v) hc ⟨_, hz, nofun⟩ ⟨_, hI, nofun⟩ ⟨_, hO, nofun⟩ ⟨o1, e1, ?_⟩ ⟨o2, e2, ?_⟩
    · rw [d1]; exact nofun
    · rw [d2]; exact nofun
  keep := by
    rintro i h h' ⟨hz, hI, ⟨x, y, hO⟩, q1, q2⟩ k
    have m : ∀ c, c ∈ [z, TI, TO, i1, i2] → ∀ o, h.get? c = some o → h'.get? c = some o := k
    exact ⟨m z (by simp) _ hz, m TI (by simp) _ hI, ⟨x, y, m TO (by simp) _ hO⟩, q1.at (m i1 (by simp)), q2.at (m i2 (by simp))⟩
  item := by
    rintro X rfl rfl rfl hc i pins s σ H E I hf ⟨hz, hI, ⟨x0, y0, hO⟩, q1, q2⟩ ⟨t, u, x, y, ht, hu, hx, hy⟩
    obtain ⟨ti, rt, pt, _⟩ := I.tuple ht
    obtain ⟨ui, ru, pu, _⟩ := I.list hu
    obtain ⟨vx, gx, rx⟩ := rt.get hx
    obtain ⟨vy, gy, ry⟩ := ru.get hy
    have hd : X.A.handled = none := I.ok.hd hc
    have na : a ≠ i1 := fun e => by
      obtain ⟨o, e1, c1, _⟩ := q1
      obtain ⟨o2, e2, c2, _⟩ := pt
      rw [e, e1] at e2
      cases e2
      exact absurd (Value.type.inj (c1.symm.trans c2)) (by decide)
    have nb : b ≠ i2 := fun e => by
      obtain ⟨o, e1, c1, _⟩ := q2
      obtain ⟨o2, e2, c2, _⟩ := pu.isList
      rw [e, e1] at e2
      cases e2
      exact absurd (Value.type.inj (c1.symm.trans c2)) (by decide)
    have l1 := (List.getElem?_eq_some_iff.mp gx).1
    have l2 := (List.getElem?_eq_some_iff.mp gy).1
    have zl : z < s.heap.objs.size := Heap.lt_size hz
    refine wpAny_pyNext_zipD2_item S (Draws.tuple (A := X.A.in1) hd i1 a na ti.toArray) (Draws.list (A := X.A.in1) hd i2 b nb ui.toArray) hz hI hO ⟨q1, pt⟩ ⟨q2, pu.isList⟩ (by simpa using l1) (by simpa using l2) ?_
    rintro x1 x2 h' tk p1 p2 hz' hO' ⟨q1', _⟩ ⟨q2', _⟩ hT hs hk
    have ex1 : x1 = vx := by
      have e : ti.toArray[i]? = some vx := by simpa using gx
      rw [e] at p1
      exact (Option.some.inj p1).symm
    have ex2 : x2 = vy := by
      have e : ui.toArray[i]? = some vy := by simpa using gy
      rw [e] at p2
      exact (Option.some.inj p2).symm
    subst ex1 ex2
    refine ⟨_, rfl, wpAny_letOwnedTupleGo_zip (s := { s with heap := h', toks := tk }) hz' fun h2 hz2 sb => ?_⟩
    have off : ∀ c o, c ≠ z → h'.get? c = some o → h2.get? c = some o := fun c o n e => (sb.2 c n).trans e
    have hT2 := off _ _ (Nat.ne_of_gt zl) hT
    have I2 : Inv X pins σ (upd H s.heap.objs.size (.tup [x, y])) { s with heap := h2, toks := tk } := by
      refine I.turnedNew (ch := [z, TI, TO, i1, i2]) (fun c o n e => ?_) hf (Nat.le_refl _) ⟨(by show 2 ≤ sizeLine; decide), [x1, x2], .cons rx (.cons ry .nil), ⟨_, hT2, rfl, _, rfl⟩⟩
      have nz : c ≠ z := fun q => n (by simp [q])
      exact off c o nz (hk c o nz (fun q => n (by simp [q])) (fun q => n (by simp [q])) (fun q => n (by simp [q])) e)
    have old : ∀ c, c ∈ [z, TI, TO, i1, i2] → c < s.heap.objs.size := fun c hcm =>
      five (P := fun c => c < s.heap.objs.size) hcm zl (Heap.lt_size hI) (Heap.lt_size hO) (let ⟨_, e, _⟩ := q1; Heap.lt_size e) (let ⟨_, e, _⟩ := q2; Heap.lt_size e)
    refine ⟨.ref s.heap.objs.size, _, I2, rfl, ⟨_, x, y, rfl, I.hok.fresh (Nat.le_refl _), rfl, fun t' h => ?_, fun u' h => ?_⟩, ⟨hz2, off _ _ S.TIz (hk _ _ S.TIz S.TITO S.TIi1 S.TIi2 hI), ⟨x1, x2, off _ _ S.TOz hO'⟩, q1'.at fun o e => off _ _ (Ne.symm S.zi1) e, q2'.at fun o e => off _ _ (Ne.symm S.zi2) e⟩, fun c hcm => ?_⟩
    · rw [I.tuple_inj h ht]; exact hx
    · rw [I.list_inj h hu]; exact hy
    · rw [upd_ne (Nat.ne_of_lt (old c hcm))]
      exact (hf c hcm).1
  done := by
    rintro X rfl rfl rfl hc i pins s σ H E I hf ⟨hz, hI, ⟨x0, y0, hO⟩, q1, q2⟩ ⟨t, u, ht, hu, c1, c2, c3⟩
    obtain ⟨ti, rt, pt, _⟩ := I.tuple ht
    obtain ⟨ui, ru, pu, _⟩ := I.list hu
    have hd : X.A.handled = none := I.ok.hd hc
    have n1 := rt.length
    have n2 := ru.length
    have na : a ≠ i1 := fun e => by
      obtain ⟨o, e1, c1, _⟩ := q1
      obtain ⟨o2, e2, c2, _⟩ := pt
      rw [e, e1] at e2
      cases e2
      exact absurd (Value.type.inj (c1.symm.trans c2)) (by decide)
    have nb : b ≠ i2 := fun e => by
      obtain ⟨o, e1, c1, _⟩ := q2
      obtain ⟨o2, e2, c2, _⟩ := pu.isList
      rw [e, e1] at e2
      cases e2
      exact absurd (Value.type.inj (c1.symm.trans c2)) (by decide)
    refine wpAny_pyNext_zipD2_end S (Draws.tuple (A := X.A.in1) hd i1 a na ti.toArray) (Draws.list (A := X.A.in1) hd i2 b nb ui.toArray) hz hI hO ⟨q1, pt⟩ ⟨q2, pu.isList⟩ (by simp; omega) (by simp; omega) (by simp; omega) ?_
    refine fun h' tk hk => ⟨rfl, I.turnedL (ch := [z, TI, TO, i1, i2]) (fun c o n e => ?_) hf⟩
    exact hk c o (fun q => n (by simp [q])) (fun q => n (by simp [q])) (fun q => n (by simp [q])) (fun q => n (by simp [q])) e
  self := fun A i s Q E st h => wpAny_pyIter_zip st.1 h
def iZipX (K : PySem.W.Frag) (ta : TA) : TI := fun σ H R => ta σ H fun vs H1 => ∃ a b t u, vs = [.ref a, .ref b] ∧ SqT K H1 a t ∧ SqL K H1 b u ∧ R (ItzX K a b) H1
theorem sep_new {n a b : Nat} (ha : a < n) (hb : b < n) : ZipSep2 (n + 4) (n + 2) (n + 3) n (n + 1) [n, a] [n + 1, b] := by
  have h : ∀ {x y : Nat}, x < y → x ≠ y := fun z => Nat.ne_of_lt z
  have g : ∀ {x y : Nat}, y < x → x ≠ y := fun z => Nat.ne_of_gt z
  have m : ∀ {x y z : Nat}, x ≠ y → x ≠ z → x ∉ [y, z] := fun p q r => by
    rcases List.mem_cons.mp r with e | r
    · exact p e
    · exact q (List.mem_singleton.mp r)
  exact ⟨h (by omega), h (by omega), h (by omega), g (by omega), List.mem_cons_self, m (g (by omega)) (g (by omega)), m (g (by omega)) (g (by omega)), g (by omega), List.mem_cons_self, m (g (by omega)) (g (by omega)), m (g (by omega)) (g (by omega)), m (h (by omega)) (g (by omega)), m (g (by omega)) (g (by omega))⟩
theorem pi_zipX {X : Cx} {e e2 : Expr} {ta : TA} {p pos tpos : Pos} {elts : List Expr} {kk : Nat} (hg : Gl X "zip") (hm : X.mg "zip" = none) (ha : PA X [e, e2] ta)
    (hs : starEach [e, e2] X.env = (false, eval e X.env) :: starEach [e2] X.env := by rfl) (hpl : (backTo pos (starEach [e2] X.env)).any (·.1) = false := by rfl) :
    PI X (.Tuple elts kk tpos) (.Call (.Name "zip" p) [e, e2] [] pos) (iZipX X.K ta) := by
  constructor
  intro pins s σ H R I h
  refine Call_ (ld_blt I hg hm PyProof.Rows.boot_zip (PyProof.Rows.callWith_type1 (thn (ha.run pos pins s σ H _ I h) ?_) hs hpl))
  rintro us s1 ⟨vs, H1, I1, r1, a, b, t, u, rfl, ht, hu, q⟩
  rcases r1 with _ | ⟨ra, r1⟩
  rcases r1 with _ | ⟨rb, r1⟩
  rcases r1 with _ | _
  cases ra
  cases rb
  obtain ⟨ti, rt, pt, _⟩ := I1.tuple ht
  obtain ⟨ui, ru, pu, _⟩ := I1.list hu
  have la : a < s1.heap.objs.size := let ⟨_, e, _⟩ := pt; Heap.lt_size e
  have lb : b < s1.heap.objs.size := pu.lt
  refine zip_begins2 (begins_tuple a ti.toArray) (begins_list b ui.toArray) pt pu.isList ?_
  intro h' hz hI hO h1 h2 _ hk
  have I2 : Inv X pins σ H1 { s1 with heap := h' } := I1.kept (t' := s1.toks) hk
  refine wpAny_pyIter_zip hz ⟨_, _, _, _, H1, rfl, I2, turn_zipX (sep_new la lb), ⟨hz, hI, ⟨_, _, hO⟩, ⟨_, h1, rfl, rfl⟩, ⟨_, h2, rfl, rfl⟩⟩, fun c hcm => ?_, q⟩
  have le : s1.heap.objs.size ≤ c := five (P := fun c => s1.heap.objs.size ≤ c) hcm (Nat.le_add_right _ _) (Nat.le_add_right _ _) (Nat.le_add_right _ _) (Nat.le_refl _) (Nat.le_add_right _ _)
  exact I1.fpOk le (I1.hok.fresh le)
theorem walk_zipX {K : PySem.W.Frag} {a b : Addr} {t u : List V} (hl : t.length = u.length) : Walk (ItzX K a b) t.length (fun H => SqT K H a t ∧ SqL K H b u) (YPair (fun i => t[i]?) (fun i => u[i]?)) := by
  constructor
  · intro i H hi q
    exact ⟨t, u, t[i], u[i]'(by omega), q.1, q.2, List.getElem?_eq_getElem hi, List.getElem?_eq_getElem (by omega)⟩
  · intro H q
    exact ⟨t, u, q.1, q.2, Nat.le_refl _, by omega, .inl rfl⟩
  · rintro i H v H' hi q ⟨T, x, y, e1, e2, e3, f1, f2⟩
    exact ⟨T, x, y, e1, e2, e3, f1 t q.1, f2 u q.2⟩
end L2


set_option Elab.async false
set_option linter.all false
set_option maxRecDepth 100000
set_option maxHeartbeats 4000000
namespace K03
open PySem PySem.Spec PyProof.Rows L2
open Evl (Ex)
open Half
section
variable {w : World} {K : PySem.W.Frag} {mg : Str → Option Value} {base : Heap}
def Even (rs : List (Int × Int)) (as bs : List Int) : Prop := ∀ j : Int, -1 ≤ covAt rs as j - covAt rs bs j ∧ covAt rs as j - covAt rs bs j ≤ 1
def spHalved (K : PySem.W.Frag) : Sp := fun vs H Q _ => ∃ (x c : Addr) (kd : Str) (s : Int) (us : List V) (rs : List (Int × Int)) (ns ps : List Int), vs = [.ref x, .ref c] ∧ Mkt K H x kd s us rs ns ∧ (∀ r ∈ rs, Fits s r) ∧ H c = some (.tup (ps.map V.int)) ∧ (∀ n ∈ ps, 0 ≤ n ∧ n < rs.length) ∧ ps.length < 60 ∧ ps.Nodup ∧
  ∀ as bs H' q qa qb, Split ps as bs → Even rs as bs → Ex H H' → H' q = some (.tup [.ref qa, .ref qb]) → H' qa = some (.tup (as.map V.int)) → H' qb = some (.tup (bs.map V.int)) → Q (.ref q) H'
theorem sc_halved : FnScope ["market", "chosen", "sides", "first", "second", "part", "side"] ["market", "chosen"] (defScope s_halved) := ⟨rfl, rfl, rfl, by decide +kernel, rfl, by decide +kernel, by decide +kernel⟩
theorem pick_next {σ : Nat → Option Bool} {ps : List Int} {i : Nat} {p : Int} (b : Nat → Bool) (h : ps[i]? = some p) : pick b 0 (ps.take (i + 1)) = pick b 0 (ps.take i) ++ if b i = true then [p] else [] := by
  have hl : i < ps.length := (List.getElem?_eq_some_iff.mp h).1
  rw [List.take_add_one, h]
  show pick b 0 (ps.take i ++ [p]) = _
  rw [pick_snoc, show 0 + (ps.take i).length = i by rw [List.length_take]; omega]
theorem has_halved (T : Ctx K mg) : Has w K mg base CX0 "halved" 2 ["market", "chosen"] (spHalved K) := by
  obtain ⟨f1, fd1, m1, kp1, F1, b1⟩ := has_sides_of (w := w) (base := base) T
  obtain ⟨f2, fd2, m2, kp2, F2, b2⟩ := has_partners (w := w) (base := base) T
  refine has_of (st := s_halved) (f := He.ga K "halved") T.d_halved T.g_halved (fun _ _ _ _ _ _ us hl => match us, hl with | [_, _], _ => rfl) fun fd F => ?_
  refine ok0 F sc_halved (fun vs H Q E h => ?_) (fun cdv A outer s0 H vs Q E hr h => ?_)
  · obtain ⟨x, c, kd, s, us, rs, ns, ps, rfl, _⟩ := h
    rfl
  · obtain ⟨x, c, kd, s, us, rs, ns, ps, rfl, M, hF, hc, inn, few, ndp, k⟩ := h
    have nd := sc_halved.nd
    refine ⟨_, pss_cons (ps_set (i := 2) nd rfl (.inl rfl) (pe_call F1 hr (by rfl) m1 kp1 b1 .nil pass0 (pa_cons (pe_call F2 hr (by rfl) m2 kp2 b2 .nil pass0 (pa_cons (pv 0) (pa_cons (pv 1) pa_nil))) pa_nil)))
      (pss_cons (ps_setLc (own := [("part", 5), ("side", 6)]) (i := 3) (g := gTup K 2 (gCons (gName 5) (gCons (gName 6) gNil))) rfl nd rfl rfl rfl (pi_zipX (by rfl) T.b_zip (pa_cons (pv 1) (pa_cons (pv 2) pa_nil))) (blkOk_by (own := [("part", 5), ("side", 6)]) (N := ["market", "chosen", "sides", "first", "second", "part", "side"]) (sc := defScope s_halved) (by decide +kernel))
          (fun _ _ _ _ _ => gTupK rfl (pg_tup (by rfl) (pgs_cons (pg_name (i := 5) nd rfl (.inl rfl)) (pgs_cons (pg_name (i := 6) nd rfl (.inl rfl)) pgs_nil))))
          (fun _ _ _ _ _ => pts_one (pt_cmpR op_eq (pv 6) pe_int (nomark _))) (fun _ _ _ _ _ => pv 5))
      (pss_cons (ps_setLc (own := [("part", 5), ("side", 6)]) (i := 4) (g := gTup K 2 (gCons (gName 5) (gCons (gName 6) gNil))) rfl nd rfl rfl rfl (pi_zipX (by rfl) T.b_zip (pa_cons (pv 1) (pa_cons (pv 2) pa_nil))) (blkOk_by (own := [("part", 5), ("side", 6)]) (N := ["market", "chosen", "sides", "first", "second", "part", "side"]) (sc := defScope s_halved) (by decide +kernel))
          (fun _ _ _ _ _ => gTupK rfl (pg_tup (by rfl) (pgs_cons (pg_name (i := 5) nd rfl (.inl rfl)) (pgs_cons (pg_name (i := 6) nd rfl (.inl rfl)) pgs_nil))))
          (fun _ _ _ _ _ => pts_one (pt_cmpR op_eq (pv 6) pe_int (nomark _))) (fun _ _ _ _ _ => pv 5))
      (pss_one (ps_ret (pe_tup (pa_cons (pe_callTy call_tuple_of (by rfl) T.b_tuple (by decide +kernel) (pa_cons (pv 3) pa_nil)) (pa_cons (pe_callTy call_tuple_of (by rfl) T.b_tuple (by decide +kernel) (pa_cons (pv 4) pa_nil)) pa_nil))))))), ?_⟩
    refine ⟨_, rfl, _, rfl, x, c, kd, s, us, rs, ns, ps, rfl, M, hc, inn, few, fun p es H1 q1 I hpm hst hnx e1 hq1 hl1 => ?_⟩
    refine ⟨q1, ps.length, p, rfl, few, I, hl1, fun σ H2 q2 C hσ e2 hq2 hl2 => ?_⟩
    have e12 := e1.trans e2
    have hlen : (ps.map V.int).length = (rowS ps.length σ).length := by rw [List.length_map, rowS_len]
    refine ⟨_, rfl, _, rfl, c, q2, _, _, rfl, SqT.of (e12 _ _ hc), SqL.of hl2, fun D1 hD1 => lc_it (walk_zipX hlen) (fun i H' => Ex H2 H' ∧ H' D1 = some (.lst ((pick (isF σ) 0 (ps.take i)).map V.int))) ⟨Ex.new hD1, upd_same⟩ (fun i H' _ z => ⟨SqT.of (z.1 _ _ (e12 _ _ hc)), SqL.of (z.1 _ _ hl2)⟩) ?_ ?_⟩
    · rintro i y H3 H4 hi ⟨e3, hD3⟩ ⟨t, x1, y1, rfl, ht, rfl, hx1, hy1⟩
      rw [List.length_map] at hi
      obtain ⟨z, hz, rfl⟩ := map_int_get hx1
      have hy2 : (rowS ps.length σ)[i]? = some y1 := hy1
      rw [rowS_get hi] at hy2
      cases hy2
      obtain ⟨v, hv⟩ : ∃ v, σ i = some v := by
        cases cc : σ i with
        | none => exact absurd cc (hσ i hi)
        | some v => exact ⟨v, rfl⟩
      have hsv : sv σ i = .int (if v then 1 else 0) := by unfold sv; rw [hv]
      have hpn := pick_next (isF σ) hz (σ := σ)
      have hle : ((pick (isF σ) 0 (ps.take i)).map V.int).length ≤ 1000 := by
        rw [List.length_map]
        have := (pick_sub (isF σ) (ps.take i) 0).length_le
        rw [List.length_take] at this
        omega
      rw [hsv]
      have e4 : Ex H2 (upd H3 t (.tup [.int z, .int (if v then 1 else 0)])) := e3.trans (Ex.new ht)
      have hD4 := (Ex.new (o := .tup [.int z, .int (if v then 1 else 0)]) ht) _ _ hD3
      refine ⟨t, _, rfl, SqT.of upd_same, rfl, _, _, rfl, _, _, rfl, rfl, rfl, _, rfl, rfl, _, rfl, ?_⟩
      cases v with
      | false =>
        have hb : isF σ i = true := decide_eq_true hv
        rw [if_pos hb] at hpn
        refine iteT ⟨_, rfl, _, hD4, small1000 hle, Evl.Ex.mut e4 hD1, ?_⟩
        rw [upd_same, hpn, List.map_append]
        rfl
      | true =>
        have hb : ¬ isF σ i = true := fun z => by
          have := of_decide_eq_true z
          rw [hv] at this
          cases this
        rw [if_neg hb, List.append_nil] at hpn
        refine iteF ⟨e4, ?_⟩
        rw [hpn]
        exact hD4
    rintro H3 ⟨e3, hD3⟩
    rw [List.length_map, List.take_length] at hD3
    have e13 := e12.trans e3
    refine ⟨_, rfl, _, rfl, c, q2, _, _, rfl, SqT.of (e13 _ _ hc), SqL.of (e3 _ _ hl2), fun D2 hD2 => lc_it (walk_zipX hlen) (fun i H' => Ex H3 H' ∧ H' D2 = some (.lst ((pick (isT σ) 0 (ps.take i)).map V.int))) ⟨Ex.new hD2, upd_same⟩ (fun i H' _ z => ⟨SqT.of (z.1 _ _ (e13 _ _ hc)), SqL.of (z.1 _ _ (e3 _ _ hl2))⟩) ?_ ?_⟩
    · rintro i y H4 H5 hi ⟨e3, hD3⟩ ⟨t, x1, y1, rfl, ht, rfl, hx1, hy1⟩
      rw [List.length_map] at hi
      obtain ⟨z, hz, rfl⟩ := map_int_get hx1
      have hy2 : (rowS ps.length σ)[i]? = some y1 := hy1
      rw [rowS_get hi] at hy2
      cases hy2
      obtain ⟨v, hv⟩ : ∃ v, σ i = some v := by
        cases cc : σ i with
        | none => exact absurd cc (hσ i hi)
        | some v => exact ⟨v, rfl⟩
      have hsv : sv σ i = .int (if v then 1 else 0) := by unfold sv; rw [hv]
      have hpn := pick_next (isT σ) hz (σ := σ)
      have hle : ((pick (isT σ) 0 (ps.take i)).map V.int).length ≤ 1000 := by
        rw [List.length_map]
        have := (pick_sub (isT σ) (ps.take i) 0).length_le
        rw [List.length_take] at this
        omega
      rw [hsv]
      have e4 : Ex H3 (upd H4 t (.tup [.int z, .int (if v then 1 else 0)])) := e3.trans (Ex.new ht)
      have hD4 := (Ex.new (o := .tup [.int z, .int (if v then 1 else 0)]) ht) _ _ hD3
      refine ⟨t, _, rfl, SqT.of upd_same, rfl, _, _, rfl, _, _, rfl, rfl, rfl, _, rfl, rfl, _, rfl, ?_⟩
      cases v with
      | true =>
        have hb : isT σ i = true := decide_eq_true hv
        rw [if_pos hb] at hpn
        refine iteT ⟨_, rfl, _, hD4, small1000 hle, Evl.Ex.mut e4 hD2, ?_⟩
        rw [upd_same, hpn, List.map_append]
        rfl
      | false =>
        have hb : ¬ isT σ i = true := fun z => by
          have := of_decide_eq_true z
          rw [hv] at this
          cases this
        rw [if_neg hb, List.append_nil] at hpn
        refine iteF ⟨e4, ?_⟩
        rw [hpn]
        exact hD4
    rintro H4 ⟨e4, hD4⟩
    rw [List.length_map, List.take_length] at hD4
    have e14 := e13.trans e4
    refine ⟨_, rfl, D1, _, rfl, .inl ⟨SqL.of (e4 _ _ hD3), fun qa hqa => ?_⟩⟩
    have e5 : Ex H4 (upd H4 qa (.tup ((pick (isF σ) 0 ps).map V.int))) := Ex.new hqa
    refine ⟨_, rfl, D2, _, rfl, .inl ⟨SqL.of (e5 _ _ hD4), fun qb hqb => ?_⟩⟩
    have e6 : Ex (upd H4 qa (.tup ((pick (isF σ) 0 ps).map V.int))) (upd (upd H4 qa (.tup ((pick (isF σ) 0 ps).map V.int))) qb (.tup ((pick (isT σ) 0 ps).map V.int))) := Ex.new hqb
    have ha : (upd (upd H4 qa (.tup ((pick (isF σ) 0 ps).map V.int))) qb (.tup ((pick (isT σ) 0 ps).map V.int))) qa = some (.tup ((pick (isF σ) 0 ps).map V.int)) := e6 _ _ upd_same
    have hb : (upd (upd H4 qa (.tup ((pick (isF σ) 0 ps).map V.int))) qb (.tup ((pick (isT σ) 0 ps).map V.int))) qb = some (.tup ((pick (isT σ) 0 ps).map V.int)) := upd_same
    have e16 := (e14.trans e5).trans e6
    generalize (upd (upd H4 qa (.tup ((pick (isF σ) 0 ps).map V.int))) qb (.tup ((pick (isT σ) 0 ps).map V.int))) = H6 at *
    refine ⟨(by show 2 ≤ sizeLine; decide), fun q hq => ?_⟩
    have e7 : Ex H6 (upd H6 q (.tup [.ref qa, .ref qb])) := Ex.new hq
    have hlt : ∀ p ∈ ps, (rs.getD p.toNat (0, 0)).1 < (rs.getD p.toNat (0, 0)).2 := fun p hp => by
      obtain ⟨p0, p1⟩ := inn p hp
      have hpn : p.toNat < rs.length := by omega
      rw [List.getD_eq_getElem?_getD, List.getElem?_eq_getElem hpn]
      exact (hF _ (List.getElem_mem hpn)).2.1
    refine k _ _ _ q qa qb ⟨pick_sub _ _ _, pick_sub _ _ _, pick_all ps 0 (fun i hi => ?_), pick_ap ps 0 ndp fun i z => ?_⟩ (cov_even hpm hst hnx C hσ hlt) (e16.trans e7) upd_same (e7 _ _ ha) (e7 _ _ hb)
    · rw [Nat.zero_add]
      cases cc : σ i with
      | none => exact absurd cc (hσ i hi)
      | some v =>
        cases v with
        | false => exact .inl (decide_eq_true cc)
        | true => exact .inr (decide_eq_true cc)
    · have z1 := of_decide_eq_true z.1
      have z2 := of_decide_eq_true z.2
      rw [z1] at z2
      cases z2
end
end K03


set_option Elab.async false
set_option linter.all false
set_option maxRecDepth 100000
set_option maxHeartbeats 4000000
namespace K03
open PySem PySem.Spec PyProof.Rows L2
open Evl (Ex)
section
variable {w : World} {K : PySem.W.Frag} {mg : Str → Option Value} {base : Heap}
theorem covAt_perm (rs : List (Int × Int)) {ps qs : List Int} (h : ps.Perm qs) (j : Int) : covAt rs ps j = covAt rs qs j := by
  unfold covAt
  rw [(h.filter _).length_eq]
theorem covAt_app (rs : List (Int × Int)) (ps qs : List Int) (j : Int) : covAt rs (ps ++ qs) j = covAt rs ps j + covAt rs qs j := by
  unfold covAt
  rw [List.filter_append, List.length_append]
  omega
theorem perm_or {as S l : List Int} (ha : as.Pairwise (· < ·)) (hS : S.Pairwise (· < ·)) (hl : l.Pairwise (· < ·)) (dj : ∀ p, p ∈ S → p ∉ l) (hm : ∀ p, p ∈ as ↔ p ∈ S ∨ p ∈ l) : as.Perm (S ++ l) := by
  refine (List.perm_ext_iff_of_nodup (asc_nodup ha) ?_).mpr fun p => ?_
  · rw [List.nodup_append]
    exact ⟨asc_nodup hS, asc_nodup hl, fun a h1 b h2 e => dj a h1 (by rw [e]; exact h2)⟩
  · rw [hm, List.mem_append]
/-- two sets with the same parts, of even covers -/
structure Remade (rs : List (Int × Int)) (ns ms as bs : List Int) : Prop where
  aa : as.Pairwise (· < ·)
  ab : bs.Pairwise (· < ·)
  cnt : ∀ p, ((if p ∈ as then 1 else 0) + (if p ∈ bs then 1 else 0) : Int) = (if p ∈ ns then 1 else 0) + (if p ∈ ms then 1 else 0)
  ev : Even rs as bs
def Wrong (H : Hp) (m : Int) (v : V) (n : Int) : Prop :=
  (∃ a ns y ys, v = .ref a ∧ H a = some (.lst (ns.map V.int ++ y :: ys)) ∧ Parts m ns ∧ (∀ z ∈ ys, Kd H z) ∧ Kd H y ∧ (inB y 0 (m - 1) = false ∨ ∃ n ∈ ns, y = .int n) ∧ n = ns.length) ∨ (v = .non ∧ n = -1)
theorem Wrong.alt {H H1 : Hp} {m : Int} {v : V} {n : Int} {E : XK} (h : Wrong H m v n) (e : Ex H H1) (hb : Bad K H1 E n) :
    (∃ a ns y ys, v = .ref a ∧ H1 a = some (.lst (ns.map V.int ++ y :: ys)) ∧ Parts m ns ∧ (∀ z ∈ ys, Kd H1 z) ∧ Kd H1 y ∧ (inB y 0 (m - 1) = false ∨ ∃ n ∈ ns, y = .int n) ∧ Bad K H1 E ns.length) ∨ (v = .non ∧ Bad K H1 E (-1)) := by
  rcases h with ⟨a, ns, y, ys, rfl, ha, P, hys, hy, hw, rfl⟩ | ⟨rfl, rfl⟩
  · exact .inl ⟨a, ns, y, ys, rfl, e _ _ ha, P, fun z hz => (hys z hz).ex e, hy.ex e, hw, hb⟩
  · exact .inr ⟨rfl, hb⟩
theorem len_sub : ∀ {l m : List Int}, l.Nodup → (∀ p ∈ l, p ∈ m) → l.length ≤ m.length
  | [], _, _, _ => Nat.zero_le _
  | a :: l, m, nd, h => by
    have nd' := List.nodup_cons.mp nd
    have ha := h a List.mem_cons_self
    have ih := len_sub (l := l) (m := m.erase a) nd'.2 fun p hp => (List.mem_erase_of_ne (fun z => nd'.1 (by rw [← z]; exact hp))).mpr (h p (List.mem_cons_of_mem _ hp))
    rw [List.length_erase_of_mem ha] at ih
    have := List.length_pos_of_mem ha
    rw [List.length_cons]
    omega
theorem filt_len (f : Int → Bool) : ∀ l : List Int, l.length = (l.filter f).length + (l.filter fun p => !f p).length
  | [] => rfl
  | a :: l => by
    have ih := filt_len f l
    rw [List.filter_cons, List.filter_cons, List.length_cons]
    cases f a with
    | true => simp only [if_true, Bool.not_true, Bool.false_eq_true, if_false, List.length_cons]; omega
    | false => simp only [if_true, Bool.not_false, Bool.false_eq_true, if_false, List.length_cons]; omega
theorem cnt_of {A B N M C L R : Prop} [Decidable A] [Decidable B] [Decidable N] [Decidable M] (ma : A ↔ C ∨ L) (mb : B ↔ C ∨ R) (mc : C ↔ N ∧ M) (hl : L → (N ∨ M) ∧ ¬ C) (hr : R → (N ∨ M) ∧ ¬ C) (all : (N ∨ M) ∧ ¬ C → L ∨ R) (ap : L → ¬ R) : ((if A then 1 else 0) + (if B then 1 else 0) : Int) = (if N then 1 else 0) + (if M then 1 else 0) := by
  by_cases n : N <;> by_cases m : M <;> by_cases l : L <;> by_cases r : R <;> simp_all
def spRemade (K : PySem.W.Frag) : Sp := fun vs H Q E => ∃ (x : Addr) (kd : Str) (s : Int) (us : List V) (rs : List (Int × Int)) (gs : List Int) (v1 v2 : V), vs = [.ref x, v1, v2] ∧ Mkt K H x kd s us rs gs ∧ (∀ r ∈ rs, Fits s r) ∧ us.length < 64 ∧
  ((∃ ns ms, RowI H v1 ns ∧ Parts us.length ns ∧ RowI H v2 ms ∧ Parts us.length ms ∧ ns.length + ms.length < 60 ∧
    ∀ as bs H' q qa qb, Remade rs ns ms as bs → Ex H H' → H' q = some (.tup [.ref qa, .ref qb]) → H' qa = some (.tup (as.map V.int)) → H' qb = some (.tup (bs.map V.int)) → Q (.ref q) H') ∨
   (∃ n, Wrong H us.length v1 n ∧ Bad K H E n) ∨
   (∃ ns n, RowI H v1 ns ∧ Parts us.length ns ∧ Wrong H us.length v2 n ∧ Bad K H E n))
theorem sc_remade : FnScope ["market", "one", "other", "first", "second", "shared", "left", "right"] ["market", "one", "other"] (defScope s_remade) := ⟨rfl, rfl, rfl, by decide +kernel, rfl, by decide +kernel, by decide +kernel⟩
theorem Ord.low {ns ms : List Int} {m : Int} (o : Ord ns ms) (P : Parts m ns) (h : m < 64) : Low ms := ⟨fun n hn => by have := o.inn P n hn; omega⟩
theorem has_remade (T : Ctx K mg) : Has w K mg base (L2.CX PP w) "remade" 4 ["market", "one", "other"] (spRemade K) := by
  obtain ⟨f1, fd1, m1, kp1, F1, b1⟩ := has_set (w := w) (base := base) T
  obtain ⟨f2, fd2, m2, kp2, F2, b2⟩ := has_common (w := w) (base := base) T
  obtain ⟨f3, fd3, m3, kp3, F3, b3⟩ := has_minus (w := w) (base := base) T
  obtain ⟨f4, fd4, m4, kp4, F4, b4⟩ := has_both (w := w) (base := base) T
  obtain ⟨f5, fd5, m5, kp5, F5, b5⟩ := has_halved (w := w) (base := base) T
  refine has_of (st := s_remade) (f := He.ga K "remade") T.d_remade T.g_remade (fun _ _ _ _ _ _ us hl => match us, hl with | [_, _, _], _ => rfl) fun fd F => ?_
  refine okX F sc_remade (fun vs H Q E h => ?_) (fun cdv A outer s0 H vs Q E hr h => ?_)
  · obtain ⟨x, kd, s, us, rs, gs, v1, v2, rfl, _⟩ := h
    rfl
  · obtain ⟨x, kd, s, us, rs, gs, v1, v2, rfl, M, hF, hm64, hcase⟩ := h
    have nd := sc_remade.nd
    have hr1 := hr.mono (show 1 ≤ 3 by decide)
    have hr2 := hr.mono (show 2 ≤ 3 by decide)
    refine ⟨_, pss_cons (ps_set (i := 3) nd rfl (.inl rfl) (pe_call F1 hr (by rfl) m1 kp1 b1 .nil (E := E) (passes_call (E := E) (takes_of rfl rfl rfl rfl) (fun _ _ _ _ h => h)) (pa_cons (pe_many T rfl rfl rfl rfl (pv 0) hr (by decide) rfl) (pa_cons (pv 1) pa_nil))))
      (pss_cons (ps_set (i := 4) nd rfl (.inl rfl) (pe_call F1 hr (by rfl) m1 kp1 b1 .nil (E := E) (passes_call (E := E) (takes_of rfl rfl rfl rfl) (fun _ _ _ _ h => h)) (pa_cons (pe_many T rfl rfl rfl rfl (pv 0) hr (by decide) rfl) (pa_cons (pv 2) pa_nil))))
      (pss_cons (ps_set (i := 5) nd rfl (.inl rfl) (pe_call F2 hr1 (by rfl) m2 kp2 b2 .nil pass0 (pa_cons (pv 3) (pa_cons (pv 4) pa_nil))))
      (pss_cons (ps_asg (pe_call F5 hr2 (by rfl) m5 kp5 b5 .nil pass0 (pa_cons (pv 0) (pa_cons (pe_call F3 hr1 (by rfl) m3 kp3 b3 .nil pass0 (pa_cons (pe_call F4 hr1 (by rfl) m4 kp4 b4 .nil pass0 (pa_cons (pv 3) (pa_cons (pv 4) pa_nil))) (pa_cons (pv 5) pa_nil))) pa_nil))) (pg_tup (by rfl) (pgs_cons (pg_name (i := 6) nd rfl (.inl rfl)) (pgs_cons (pg_name (i := 7) nd rfl (.inl rfl)) pgs_nil))))
      (pss_one (ps_ret (pe_tup (pa_cons (pe_call F4 hr1 (by rfl) m4 kp4 b4 .nil pass0 (pa_cons (pv 5) (pa_cons (pv 6) pa_nil))) (pa_cons (pe_call F4 hr1 (by rfl) m4 kp4 b4 .nil pass0 (pa_cons (pv 5) (pa_cons (pv 7) pa_nil))) pa_nil)))))))), ?_⟩
    have hul := M.runs.len
    refine ⟨_, rfl, x, kd, s, us, rs, gs, rfl, M, _, rfl, ?_⟩
    rcases hcase with ⟨ns, ms, hv1, P1, hv2, P2, hlen, k⟩ | ⟨n, hw, hb⟩ | ⟨ns, n, hv1, P1, hw, hb⟩
    · refine ⟨us.length, v1, rfl, by omega, .inl ⟨ns, hv1, P1, fun ss H1 q1 o1 e1 hq1 hl1 => ?_⟩⟩
      refine ⟨_, rfl, x, kd, s, us, rs, gs, rfl, M.ex e1, _, rfl, us.length, v2, rfl, by omega, .inl ⟨ms, hv2.ex e1, P2, fun tt H2 q2 o2 e2 hq2 hl2 => ?_⟩⟩
      have L1 := o1.low P1 (by omega)
      have L2 := o2.low P2 (by omega)
      have n1 := (o1.perm P1).length_eq
      have n2 := (o2.perm P2).length_eq
      have e12 := e1.trans e2
      refine ⟨_, rfl, _, rfl, q1, q2, ss, tt, rfl, e2 _ _ hl1, hl2, L1, L2, by omega, fun cs H3 q3 fc e3 hq3 hl3 => ?_⟩
      have e13 := e12.trans e3
      refine ⟨_, rfl, _, rfl, _, rfl, q1, q2, ss, tt, rfl, (e2.trans e3) _ _ hl1, e3 _ _ hl2, L1, L2, by omega, fun bs0 H4 q4 fb e4 hq4 hl4 => ?_⟩
      have mc : ∀ p, p ∈ cs ↔ p ∈ ns ∧ p ∈ ms := fun p => by
        rw [fc.2 p, Bool.and_eq_true, decide_eq_true_iff, decide_eq_true_iff, o1.mem, o2.mem]
      have mb : ∀ p, p ∈ bs0 ↔ p ∈ ns ∨ p ∈ ms := fun p => by
        rw [fb.2 p, Bool.or_eq_true, decide_eq_true_iff, decide_eq_true_iff, o1.mem, o2.mem]
      have inm : ∀ p, p ∈ ns ∨ p ∈ ms → 0 ≤ p ∧ p < us.length := fun p z => z.elim (P1.inn p) (P2.inn p)
      have LC : Low cs := ⟨fun p hp => by have := inm p (.inl ((mc p).mp hp).1); omega⟩
      have LB : Low bs0 := ⟨fun p hp => by have := inm p ((mb p).mp hp); omega⟩
      have lc1 : cs.length ≤ ns.length := by
        exact len_sub (asc_nodup fc.1) fun p hp => ((mc p).mp hp).1
      have lb1 : bs0.length + cs.length ≤ ns.length + ms.length := by
        have z1 : bs0.length ≤ (ns ++ ms.filter fun p => !decide (p ∈ ns)).length := len_sub (asc_nodup fb.1) fun p hp => by
          by_cases c : p ∈ ns
          · exact List.mem_append_left _ c
          · exact List.mem_append_right _ (List.mem_filter.mpr ⟨((mb p).mp hp).resolve_left c, by rw [decide_eq_false c]; rfl⟩)
        have z2 : cs.length ≤ (ms.filter fun p => decide (p ∈ ns)).length := len_sub (asc_nodup fc.1) fun p hp => List.mem_filter.mpr ⟨((mc p).mp hp).2, decide_eq_true ((mc p).mp hp).1⟩
        have z3 := filt_len (fun p => decide (p ∈ ns)) ms
        rw [List.length_append] at z1
        omega
      refine ⟨_, rfl, q4, q3, bs0, cs, rfl, hl4, e4 _ _ hl3, LB, LC, by omega, fun rest H5 q5 fr e5 hq5 hl5 => ?_⟩
      have mr : ∀ p, p ∈ rest ↔ p ∈ bs0 ∧ p ∉ cs := fun p => by
        rw [fr.2 p, Bool.and_eq_true, decide_eq_true_iff, Bool.not_eq_true', decide_eq_false_iff_not]
      have e15 := (e13.trans e4).trans e5
      have lr1 : rest.length ≤ bs0.length := len_sub (asc_nodup fr.1) fun p hp => ((mr p).mp hp).1
      refine ⟨x, q5, kd, s, us, rs, gs, rest, rfl, M.ex e15, hF, hl5, fun p hp => ?_, by omega, asc_nodup fr.1, fun ll rr H6 q6 qa qb sp ev e6 hq6 hqa hqb => ?_⟩
      · have := inm p ((mb p).mp ((mr p).mp hp).1)
        omega
      have asl := List.Pairwise.sublist sp.sa fr.1
      have asr := List.Pairwise.sublist sp.sb fr.1
      have inl : ∀ p, p ∈ ll → p ∈ rest := fun p hp => sp.sa.mem hp
      have inr : ∀ p, p ∈ rr → p ∈ rest := fun p hp => sp.sb.mem hp
      have LL : Low ll := ⟨fun p hp => LB.inn p ((mr p).mp (inl p hp)).1⟩
      have LR : Low rr := ⟨fun p hp => LB.inn p ((mr p).mp (inr p hp)).1⟩
      have sll := sp.sa.length_le
      have srr := sp.sb.length_le
      have lcr : cs.length + rest.length ≤ bs0.length + cs.length := by omega
      have h3 : H6 q3 = some (.tup (cs.map V.int)) := ((e4.trans e5).trans e6) _ _ hl3
      refine ⟨q6, _, rfl, .of hq6, rfl, _, _, rfl, _, _, rfl, rfl, ?_⟩
      refine ⟨_, rfl, _, rfl, q3, qa, cs, ll, rfl, h3, hqa, LC, LL, by omega, fun as H7 q7 f7 e7 hq7 hl7 => ?_⟩
      refine ⟨_, rfl, _, rfl, q3, qb, cs, rr, rfl, e7 _ _ h3, e7 _ _ hqb, LC, LR, by omega, fun bs H8 q8 f8 e8 hq8 hl8 => ?_⟩
      refine ⟨(by show 2 ≤ sizeLine; decide), fun q9 hq9 => ?_⟩
      have e9 : Ex H8 (upd H8 q9 (.tup [.ref q7, .ref q8])) := Ex.new hq9
      have ma : ∀ p, p ∈ as ↔ p ∈ cs ∨ p ∈ ll := fun p => by
        rw [f7.2 p, Bool.or_eq_true, decide_eq_true_iff, decide_eq_true_iff]
      have mbb : ∀ p, p ∈ bs ↔ p ∈ cs ∨ p ∈ rr := fun p => by
        rw [f8.2 p, Bool.or_eq_true, decide_eq_true_iff, decide_eq_true_iff]
      refine k as bs _ q9 q7 q8 ⟨f7.1, f8.1, fun p => ?_, fun j => ?_⟩ (((e15.trans e6).trans (e7.trans e8)).trans e9) upd_same (e9 _ _ (e8 _ _ hl7)) (e9 _ _ hl8)
      · exact cnt_of (ma p) (mbb p) (mc p) (fun z => ⟨(mb p).mp ((mr p).mp (inl p z)).1, ((mr p).mp (inl p z)).2⟩) (fun z => ⟨(mb p).mp ((mr p).mp (inr p z)).1, ((mr p).mp (inr p z)).2⟩) (fun z => sp.all p ((mr p).mpr ⟨(mb p).mpr z.1, z.2⟩)) (sp.ap p)
      · rw [covAt_perm rs (perm_or f7.1 fc.1 asl (fun p hp hp2 => ((mr p).mp (inl p hp2)).2 hp) ma), covAt_perm rs (perm_or f8.1 fc.1 asr (fun p hp hp2 => ((mr p).mp (inr p hp2)).2 hp) mbb), covAt_app, covAt_app]
        have := ev j
        omega
    · exact ⟨us.length, v1, rfl, by omega, .inr (hw.alt (fun _ _ z => z) hb)⟩
    · refine ⟨us.length, v1, rfl, by omega, .inl ⟨ns, hv1, P1, fun ss H1 q1 o1 e1 hq1 hl1 => ?_⟩⟩
      refine ⟨_, rfl, x, kd, s, us, rs, gs, rfl, M.ex e1, _, rfl, ?_⟩
      exact ⟨us.length, v2, rfl, by omega, .inr (hw.alt e1 (hb.ex e1))⟩
end
end K03


set_option Elab.async false
set_option linter.all false
set_option maxRecDepth 100000
set_option maxHeartbeats 4000000
namespace K03
open PySem PySem.Spec PyProof.Rows L2
open Evl (Ex)
section
variable {w : World} {K : PySem.W.Frag} {mg : Str → Option Value} {base : Heap}
def spLCoverT : Sp := fun vs H Q _ => ∃ (s : Nat) (R A : Addr) (us : List V) (rs : List (Int × Int)) (ps : List Int), vs = [.int s, .ref R, .ref A] ∧ s ≤ 50 ∧ H R = some (.lst us) ∧ Runs H us rs ∧ (∀ r ∈ rs, Fits s r) ∧ H A = some (.tup (ps.map V.int)) ∧ (∀ n ∈ ps, 0 ≤ n ∧ n < rs.length) ∧
  ∀ H' q, Ex H H' → H q = none → H' q = some (.lst ((covL s rs ps).map V.int)) → Q (.ref q) H'
theorem sc_lcoverT : FnScope ["_law_size", "_law_runs", "_law_parts_here", "_law_covers", "_law_place", "_law_part"] ["_law_size", "_law_runs", "_law_parts_here"] (defScope s__law_cover) := ⟨rfl, rfl, rfl, by decide +kernel, rfl, by decide +kernel, by decide +kernel⟩
theorem has_lcoverT (T : Ctx K mg) : Has w K mg base CX0 "_law_cover" 1 ["_law_size", "_law_runs", "_law_parts_here"] spLCoverT := by
  refine has_of (st := s__law_cover) (f := He.ga K "_law_cover") T.d__law_cover T.g__law_cover (fun _ _ _ _ _ _ us hl => match us, hl with | [_, _, _], _ => rfl) fun fd F => ?_
  refine ok0 F sc_lcoverT (fun vs H Q E h => ?_) (fun cdv A outer s0 H vs Q E hr h => ?_)
  · obtain ⟨s, R, A, us, rs, ps, rfl, _⟩ := h
    rfl
  · obtain ⟨s, R, A, us, rs, ps, rfl, hs50, hR, RR, hF, hA, inn, k⟩ := h
    have nd := sc_lcoverT.nd
    refine ⟨_, pss_cons (ps_setLc (own := [("_law_place", 4)]) (i := 3) (g := gName 4) (tt := tYes) rfl nd rfl rfl rfl (pi_range1 (by rfl) T.b_range (pa_cons (pv 0) pa_nil)) (blkOk_by (own := [("_law_place", 4)]) (N := ["_law_size", "_law_runs", "_law_parts_here", "_law_covers", "_law_place", "_law_part"]) (sc := defScope s__law_cover) (by decide +kernel)) (fun _ _ _ _ _ => pg_name (i := 4) nd rfl (Or.inl rfl)) (fun _ _ _ _ _ => pts_nil) (fun _ _ _ _ _ => pe_int))
      (pss_cons (ps_for PassesOwn.never rfl (pi_tup (pv 2)) (pg_name (i := 5) nd rfl (.inl rfl))
        (pss_one (ps_for PassesOwn.never rfl (pi_range2 (by rfl) T.b_range (pa_cons (pe_ix ix_tup (pe_ix ix_list (pv 1) (pv 5) (fun _ _ => rfl)) pe_int (fun _ _ => rfl)) (pa_cons (pe_ix ix_tup (pe_ix ix_list (pv 1) (pv 5) (fun _ _ => rfl)) pe_int (fun _ _ => rfl)) pa_nil))) (pg_name (i := 4) nd rfl (.inl rfl))
          (pss_one (ps_augL (pv 3) (pv 4) pe_int)))))
      (pss_one (ps_ret (pv 3)))), ?_⟩
    refine ⟨_, rfl, _, rfl, ?_, ?_, fun q hq => lc_it walk_range (fun i H' => Ex H H' ∧ H' q = some (.lst ((List.replicate i (0 : Int)).map V.int))) ⟨Ex.new hq, upd_same⟩ (fun _ _ _ _ => trivial) ?_ ?_⟩
    · omega
    · omega
    · rintro i x H2 H3 hi ⟨e2, hq2⟩ ⟨rfl, rfl⟩
      have hi50 : i < 100 := by omega
      refine ⟨rfl, tYesI ⟨_, hq2, by rw [List.length_map, List.length_replicate]; exact small1000 (by omega), Evl.Ex.mut e2 hq, ?_⟩⟩
      rw [upd_same, List.replicate_succ', List.map_append]
      rfl
    rintro H1 ⟨e1, hq1⟩
    have hrow0 : List.replicate ((s : Int).toNat) (0 : Int) = covL s rs [] := by
      unfold covL rowOf
      rw [Int.toNat_natCast]
      apply List.ext_getElem?
      intro n
      by_cases hn : n < s
      · rw [List.getElem?_map, List.getElem?_range hn, List.getElem?_replicate, if_pos hn]
        rfl
      · rw [List.getElem?_eq_none (by simp; omega), List.getElem?_eq_none (by simp; omega)]
    rw [hrow0] at hq1
    have hRq : R ≠ q := ne_of_none hR hq
    have hAq : A ≠ q := ne_of_none hA hq
    refine ⟨_, rfl, A, rfl, ⟨_, SqT.of (e1 _ _ hA)⟩, for_it walk_tup (fun i σ H' => ∃ v4 v5 : Option V, σ = [some (.int s), some (.ref R), some (.ref A), some (.ref q), v4, v5] ∧ Ex H H' ∧ H' q = some (.lst ((covL s rs (ps.take i)).map V.int))) ⟨_, _, rfl, e1, hq1⟩ (fun i σ H' _ ⟨_, _, _, e, _⟩ => SqT.of (e _ _ hA)) ?_ ?_⟩
    · rintro i x σ H2 H3 hi ⟨v4, v5, rfl, e2, hq2⟩ ⟨rfl, hx⟩
      obtain ⟨p, hp, rfl⟩ : ∃ p, ps[i]? = some p ∧ x = V.int p := by
        have hx2 : (ps.map V.int)[i]? = some x := hx
        rw [List.getElem?_map] at hx2
        cases c : ps[i]? with
        | none => rw [c] at hx2; cases hx2
        | some p => rw [c] at hx2; cases hx2; exact ⟨p, rfl, rfl⟩
      obtain ⟨hp0, hp1⟩ := inn p (List.mem_of_getElem? hp)
      obtain ⟨n, rfl⟩ : ∃ n : Nat, p = (n : Int) := ⟨p.toNat, by omega⟩
      have hn : n < rs.length := by omega
      obtain ⟨t, ht, htt⟩ := (RR.ex e2).at_ n _ (List.getElem?_eq_getElem hn)
      have hf := hF _ (List.getElem_mem hn)
      have hgd : rs.getD (n : Int).toNat (0, 0) = rs[n] := by
        rw [Int.toNat_natCast, List.getD_eq_getElem?_getD, List.getElem?_eq_getElem hn]
        rfl
      generalize rs[n] = r at *
      obtain ⟨f0, f1, f2⟩ := hf
      have hix : atI us (n : Int) = some (.ref t) := atI_nat ht
      refine ⟨_, rfl, _, rfl, R, us, _, _, rfl, rfl, SqL.of (e2 _ _ hR), hix, t, _, 0, _, rfl, rfl, SqT.of htt, atI_nat (j := 0) rfl, ?_⟩
      refine ⟨_, rfl, _, rfl, R, us, _, _, rfl, rfl, SqL.of (e2 _ _ hR), hix, t, _, 1, _, rfl, rfl, SqT.of htt, atI_nat (j := 1) rfl, ?_⟩
      refine ⟨_, _, rfl, ⟨by omega, by omega, by omega, by omega⟩, for_it walk_range (fun j σ H' => ∃ v4 v5 : Option V, σ = [some (.int s), some (.ref R), some (.ref A), some (.ref q), v4, v5] ∧ Ex H H' ∧ H' q = some (.lst ((rowOf s (bump (covAt rs (ps.take i)) r.1 j)).map V.int))) ⟨_, _, rfl, e2, ?_⟩ (fun _ _ _ _ _ => trivial) ?_ ?_⟩
      · rw [hq2]
        unfold covL
        rw [row_congr (g := bump (covAt rs (ps.take i)) r.1 0) fun z _ => ?_]
        unfold bump
        rw [if_neg (by omega)]
        omega
      · rintro j x σ H4 H5 hj ⟨v4, v5, rfl, e4, hq4⟩ ⟨rfl, rfl⟩
        obtain ⟨b, hb⟩ : ∃ b : Nat, r.1 = (b : Int) := ⟨r.1.toNat, by omega⟩
        have hbj : b + j < s := by omega
        have ebj : r.1 + (j : Int) = ((b + j : Nat) : Int) := by omega
        refine ⟨_, rfl, _, rfl, q, _, b + j, .int (bump (covAt rs (ps.take i)) r.1 j ((b + j : Nat) : Int)), rfl, ?_, SqL.of hq4, ?_, _, _, rfl, rfl, q, _, r.1 + (j : Int), b + j, rfl, rfl, hq4, ?_, _, _, rfl, Evl.Ex.mut e4 hq, ?_⟩
        · exact congrArg V.int ebj
        · rw [List.getElem?_map, row_get hbj]
          rfl
        · unfold ixN
          rw [List.length_map, row_len, if_pos (by omega), if_pos (by omega), ebj, Int.toNat_natCast]
        · rw [upd_same]
          show some (HO.lst (((rowOf s (bump (covAt rs (ps.take i)) r.1 j)).map V.int).set (b + j) (V.int (bump (covAt rs (ps.take i)) r.1 j ((b + j : Nat) : Int) + 1)))) = _
          rw [← List.map_set, row_set (g := bump (covAt rs (ps.take i)) r.1 (j + 1)) hbj ?_ fun z hz hne => ?_]
          · unfold bump
            rw [if_pos (by omega), if_neg (by omega)]
            omega
          · unfold bump
            by_cases c : r.1 ≤ (z : Int) ∧ (z : Int) < r.1 + (j : Int)
            · rw [if_pos c, if_pos (by omega)]
            · rw [if_neg c, if_neg (by omega)]
      · rintro σ H4 ⟨v4, v5, rfl, e4, hq4⟩
        refine ⟨_, _, rfl, e4, ?_⟩
        rw [hq4, List.take_add_one, hp]
        unfold covL
        rw [row_congr (g := covAt rs (ps.take i ++ [(n : Int)])) fun z _ => ?_]
        · rfl
        · rw [covAt_snoc, hgd]
          unfold bump
          have e3 : r.1 + ((r.2 - r.1).toNat : Int) = r.2 := by omega
          rw [e3]
    · rintro σ H2 ⟨v4, v5, rfl, e2, hq2⟩
      refine ⟨_, rfl, k _ _ e2 hq ?_⟩
      rw [hq2, List.length_map, List.take_length]
def spLInt : Sp := fun vs H Q _ => ∃ n : Int, vs = [.int n] ∧ Q (.bl true) H
theorem sc_lint : FnScope ["_law_value"] ["_law_value"] (defScope s__law_int) := ⟨rfl, rfl, rfl, by decide +kernel, rfl, by decide +kernel, by decide +kernel⟩
theorem has_lint (T : Ctx K mg) : Has w K mg base CX0 "_law_int" 1 ["_law_value"] spLInt := by
  refine has_of (st := s__law_int) (f := He.ga K "_law_int") T.d__law_int T.g__law_int (fun _ _ _ _ _ _ us hl => match us, hl with | [_], _ => rfl) fun fd F => ?_
  refine ok0 F sc_lint (fun vs H Q E h => ?_) (fun cdv A outer s H vs Q E hr h => ?_)
  · obtain ⟨n, rfl, _⟩ := h
    rfl
  · obtain ⟨n, rfl, k⟩ := h
    refine ⟨_, pss_one (ps_ret (pe_and (pe_callB call_isi (by rfl) T.b_isinstance (by decide +kernel) (pa_cons (pv 0) (pa_cons (pe_bltn (by rfl) T.b_int (by decide +kernel) (v := .ty "int") rfl) pa_nil)))
      (pe_one (pe_not (pe_callB call_isi (by rfl) T.b_isinstance (by decide +kernel) (pa_cons (pv 0) (pa_cons (pe_bltn (by rfl) T.b_bool (by decide +kernel) (v := .ty "bool") rfl) pa_nil))))))), ?_⟩
    refine ⟨_, rfl, _, _, _, _, true, rfl, .ty "int", .base (.int n), kit_ty (by decide +kernel), true, rfl, iteT ?_⟩
    exact ⟨_, rfl, _, _, _, _, false, rfl, .ty "bool", .base (.int n), kit_ty (by decide +kernel), false, rfl, k⟩
def spLSet : Sp := fun vs H Q _ => ∃ (a : Addr) (m : Int) (ps : List Int), vs = [.ref a, .int m] ∧ H a = some (.tup (ps.map V.int)) ∧ ps.Pairwise (· < ·) ∧ (∀ p ∈ ps, 0 ≤ p ∧ p < m) ∧ Q (.bl true) H
theorem sc_lset : FnScope ["_law_value", "_law_many", "_law_last", "_law_part"] ["_law_value", "_law_many"] (defScope s__law_set) := ⟨rfl, rfl, rfl, by decide +kernel, rfl, by decide +kernel, by decide +kernel⟩
theorem has_lset (T : Ctx K mg) : Has w K mg base CX0 "_law_set" 2 ["_law_value", "_law_many"] spLSet := by
  obtain ⟨f1, fd1, m1, kp1, F1, b1⟩ := has_lint (w := w) (base := base) T
  refine has_of (st := s__law_set) (f := He.ga K "_law_set") T.d__law_set T.g__law_set (fun _ _ _ _ _ _ us hl => match us, hl with | [_, _], _ => rfl) fun fd F => ?_
  refine ok0 F sc_lset (fun vs H Q E h => ?_) (fun cdv A outer s H vs Q E hr h => ?_)
  · obtain ⟨a, m, ps, rfl, _⟩ := h
    rfl
  · obtain ⟨a, m, ps, rfl, ha, hp, inn, k⟩ := h
    have nd := sc_lset.nd
    refine ⟨_, pss_cons (ps_if (pt_not (pt_val (pe_callB call_isi (by rfl) T.b_isinstance (by decide +kernel) (pa_cons (pv 0) (pa_cons (pe_bltn (by rfl) T.b_tuple (by decide +kernel) (v := .ty "tuple") rfl) pa_nil))))) (pss_one (ps_ret pe_bl)) pss_nil)
      (pss_cons (ps_set (i := 2) nd rfl (.inl rfl) (pe_un un_neg pe_int))
      (pss_cons (ps_for PassesOwn.never rfl (pi_tup (pv 0)) (pg_name (i := 3) nd rfl (.inl rfl))
        (pss_cons (ps_if (PW.pt (pw_or (pt_not (pt_val (pe_call F1 hr (by rfl) m1 kp1 b1 .nil pass0 (pa_cons (pv 3) pa_nil)))) (pw_or (pt_cmpR op_le (pv 3) (pv 2) (nomark _)) (pw_or1 (pt_cmpR op_ge (pv 3) (pv 1) (nomark _)))))) (pss_one (ps_ret pe_bl)) pss_nil)
        (pss_one (ps_set (i := 2) nd rfl (.inl rfl) (pv 3)))))
      (pss_one (ps_ret pe_bl)))), ?_⟩
    refine ⟨_, rfl, _, _, _, _, true, rfl, .ty "tuple", .base (.tup ha), kit_ty (by decide +kernel), true, rfl, iteF ?_⟩
    refine ⟨_, rfl, _, rfl, a, rfl, ⟨_, SqT.of ha⟩, for_it walk_tup (fun i σ H' => ∃ (v3 : Option V) (l : Int), σ = [some (.ref a), some (.int m), some (.int l), v3] ∧ H' = H ∧ (∀ j p, i ≤ j → ps[j]? = some p → l < p)) ⟨none, -1, rfl, rfl, fun j p _ h => (by have := inn p (List.mem_of_getElem? h); omega)⟩ (fun i σ H' _ ⟨_, _, _, e, _⟩ => by rw [e]; exact SqT.of ha) ?_ ?_⟩
    · rintro i v σ H2 H3 hi ⟨v3, l, rfl, rfl, hl⟩ ⟨rfl, hx⟩
      obtain ⟨p, hpi, rfl⟩ := map_int_get hx
      obtain ⟨p0, p1⟩ := inn p (List.mem_of_getElem? hpi)
      have lp := hl i p (Nat.le_refl _) hpi
      refine ⟨_, rfl, p, rfl, true, rfl, iteF ?_⟩
      refine ⟨_, rfl, _, rfl, _, _, rfl, rfl, _, rfl, iteF' (decide_eq_false (by omega)) ?_⟩
      refine ⟨_, rfl, _, rfl, _, _, rfl, rfl, _, rfl, iteF' (decide_eq_false (by omega)) ?_⟩
      refine ⟨_, rfl, _, p, rfl, rfl, fun j q hj hq => ?_⟩
      obtain ⟨h1, h2⟩ := List.getElem?_eq_some_iff.mp hpi
      obtain ⟨h3, h4⟩ := List.getElem?_eq_some_iff.mp hq
      have := List.pairwise_iff_getElem.mp hp i j h1 h3 (by omega)
      rw [h2, h4] at this
      exact this
    · rintro σ H2 ⟨v3, l, rfl, rfl, hl⟩
      exact k
end
end K03


set_option Elab.async false
set_option linter.all false
set_option maxRecDepth 100000
set_option maxHeartbeats 4000000
namespace K03
open PySem PySem.Spec PyProof.Rows L2
open Evl (Ex)
section
variable {w : World} {K : PySem.W.Frag} {mg : Str → Option Value} {base : Heap}
theorem Remade.inn {rs : List (Int × Int)} {ns ms as bs : List Int} {m : Int} (h : Remade rs ns ms as bs) (hn : ∀ n ∈ ns, 0 ≤ n ∧ n < m) (hm : ∀ n ∈ ms, 0 ≤ n ∧ n < m) : (∀ p ∈ as, 0 ≤ p ∧ p < m) ∧ (∀ p ∈ bs, 0 ≤ p ∧ p < m) := by
  have key : ∀ p, p ∈ as ∨ p ∈ bs → 0 ≤ p ∧ p < m := fun p z => by
    have c := h.cnt p
    by_cases c1 : p ∈ ns
    · exact hn p c1
    by_cases c2 : p ∈ ms
    · exact hm p c2
    rw [if_neg c1, if_neg c2] at c
    rcases z with z | z
    · rw [if_pos z] at c
      split at c <;> omega
    · rw [if_pos z] at c
      split at c <;> omega
  exact ⟨fun p hp => key p (.inl hp), fun p hp => key p (.inr hp)⟩
def spRight : Sp := fun vs H Q _ => ∃ (s : Nat) (R t A B qa qb : Addr) (us : List V) (rs : List (Int × Int)) (ns ms as bs : List Int), vs = [.int s, .ref R, .ref t, .ref A, .ref B] ∧ s ≤ 50 ∧ H R = some (.lst us) ∧ Runs H us rs ∧ (∀ r ∈ rs, Fits s r) ∧ us.length < 64 ∧
  H t = some (.tup [.ref qa, .ref qb]) ∧ H qa = some (.tup (as.map V.int)) ∧ H qb = some (.tup (bs.map V.int)) ∧ H A = some (.lst (ns.map V.int)) ∧ H B = some (.lst (ms.map V.int)) ∧ (∀ n ∈ ns, 0 ≤ n ∧ n < rs.length) ∧ (∀ n ∈ ms, 0 ≤ n ∧ n < rs.length) ∧ Remade rs ns ms as bs ∧
  ∀ H', Ex H H' → Q (.bl true) H'
theorem sc_right : FnScope ["_law_size", "_law_runs", "_law_told", "_law_one", "_law_other", "_law_many", "_law_part", "_law_before", "_law_first", "_law_second", "_law_place"] ["_law_size", "_law_runs", "_law_told", "_law_one", "_law_other"] (defScope s__law_remade_right) := ⟨rfl, rfl, rfl, by decide +kernel, rfl, by decide +kernel, by decide +kernel⟩
theorem has_right (T : Ctx K mg) : Has w K mg base CX0 "_law_remade_right" 3 ["_law_size", "_law_runs", "_law_told", "_law_one", "_law_other"] spRight := by
  obtain ⟨f1, fd1, m1, kp1, F1, b1⟩ := has_lset (w := w) (base := base) T
  obtain ⟨f2, fd2, m2, kp2, F2, b2⟩ := has_lcoverT (w := w) (base := base) T
  refine has_of (st := s__law_remade_right) (f := He.ga K "_law_remade_right") T.d__law_remade_right T.g__law_remade_right (fun _ _ _ _ _ _ us hl => match us, hl with | [_, _, _, _, _], _ => rfl) fun fd F => ?_
  refine ok0 F sc_right (fun vs H Q E h => ?_) (fun cdv A0 outer s0 H vs Q E hr h => ?_)
  · obtain ⟨s, R, t, A, B, qa, qb, us, rs, ns, ms, as, bs, rfl, _⟩ := h
    rfl
  · obtain ⟨s, R, t, A, B, qa, qb, us, rs, ns, ms, as, bs, rfl, hs50, hR, RR, hF, hfew, ht, hqa, hqb, hA, hB, inn, inm, hRm, k⟩ := h
    have nd := sc_right.nd
    have hr1 := hr.mono (show 1 ≤ 2 by decide)
    refine ⟨_, pss_cons (ps_if (PW.pt (pw_or (pt_not (pt_val (pe_callB call_isi (by rfl) T.b_isinstance (by decide +kernel) (pa_cons (pv 2) (pa_cons (pe_bltn (by rfl) T.b_tuple (by decide +kernel) (v := .ty "tuple") rfl) pa_nil))))) (pw_or1 (pt_cmpR op_ne (pe_callB call_len_seq (by rfl) T.b_len PySem.boot_len (pa_cons (pv 2) pa_nil)) pe_int (nomark _))))) (pss_one (ps_ret pe_bl)) pss_nil)
      (pss_cons (ps_set (i := 5) nd rfl (.inl rfl) (pe_callB call_len_seq (by rfl) T.b_len PySem.boot_len (pa_cons (pv 1) pa_nil)))
      (pss_cons (ps_if (PW.pt (pw_or (pt_not (pt_val (pe_call F1 hr (by rfl) m1 kp1 b1 .nil pass0 (pa_cons (pe_ix ix_tup (pv 2) pe_int (fun _ _ => rfl)) (pa_cons (pv 5) pa_nil))))) (pw_or1 (pt_not (pt_val (pe_call F1 hr (by rfl) m1 kp1 b1 .nil pass0 (pa_cons (pe_ix ix_tup (pv 2) pe_int (fun _ _ => rfl)) (pa_cons (pv 5) pa_nil)))))))) (pss_one (ps_ret pe_bl)) pss_nil)
      (pss_cons (ps_for PassesOwn.never rfl (pi_range1 (by rfl) T.b_range (pa_cons (pv 5) pa_nil)) (pg_name (i := 6) nd rfl (.inl rfl))
        (pss_cons (ps_set (i := 7) nd rfl (.inl rfl) (pe_op op_add (pe_callTy call_int1 (by rfl) T.b_int (by decide +kernel) (pa_cons (pe_cmpR op_in_seq (pv 6) (pv 3) (by rfl)) pa_nil)) (pe_callTy call_int1 (by rfl) T.b_int (by decide +kernel) (pa_cons (pe_cmpR op_in_seq (pv 6) (pv 4) (by rfl)) pa_nil))))
        (pss_one (ps_if (pt_cmpR op_ne (pe_op op_add (pe_callTy call_int1 (by rfl) T.b_int (by decide +kernel) (pa_cons (pe_cmpR op_in_seq (pv 6) (pe_ix ix_tup (pv 2) pe_int (fun _ _ => rfl)) (by rfl)) pa_nil)) (pe_callTy call_int1 (by rfl) T.b_int (by decide +kernel) (pa_cons (pe_cmpR op_in_seq (pv 6) (pe_ix ix_tup (pv 2) pe_int (fun _ _ => rfl)) (by rfl)) pa_nil))) (pv 7) (nomark _)) (pss_one (ps_ret pe_bl)) pss_nil))))
      (pss_cons (ps_set (i := 8) nd rfl (.inl rfl) (pe_call F2 hr1 (by rfl) m2 kp2 b2 .nil pass0 (pa_cons (pv 0) (pa_cons (pv 1) (pa_cons (pe_ix ix_tup (pv 2) pe_int (fun _ _ => rfl)) pa_nil)))))
      (pss_cons (ps_set (i := 9) nd rfl (.inl rfl) (pe_call F2 hr1 (by rfl) m2 kp2 b2 .nil pass0 (pa_cons (pv 0) (pa_cons (pv 1) (pa_cons (pe_ix ix_tup (pv 2) pe_int (fun _ _ => rfl)) pa_nil)))))
      (pss_cons (ps_for PassesOwn.never rfl (pi_range1 (by rfl) T.b_range (pa_cons (pv 0) pa_nil)) (pg_name (i := 10) nd rfl (.inl rfl))
        (pss_one (ps_if (pt_cmpR op_gt (pe_callB call_abs (by rfl) T.b_abs (by decide +kernel) (pa_cons (pe_op op_sub (pe_ix ix_list (pv 8) (pv 10) (fun _ _ => rfl)) (pe_ix ix_list (pv 9) (pv 10) (fun _ _ => rfl))) pa_nil)) pe_int (nomark _)) (pss_one (ps_ret pe_bl)) pss_nil)))
      (pss_one (ps_ret pe_bl)))))))), ?_⟩
    obtain ⟨ina, inb⟩ := hRm.inn inn inm
    have hul := RR.len
    refine ⟨_, rfl, _, _, _, _, true, rfl, .ty "tuple", .base (.tup ht), kit_ty (by decide +kernel), true, rfl, iteF ?_⟩
    refine ⟨_, rfl, t, _, rfl, .inr (SqT.of ht), rfl, _, rfl, iteF ?_⟩
    refine ⟨_, rfl, R, _, rfl, .inl (SqL.of hR), ?_⟩
    refine ⟨_, rfl, t, _, 0, _, rfl, rfl, SqT.of ht, atI_nat (j := 0) rfl, _, rfl, qa, _, as, rfl, hqa, hRm.aa, fun p hp => (by have := ina p hp; omega), true, rfl, iteF ?_⟩
    refine ⟨_, rfl, t, _, 1, _, rfl, rfl, SqT.of ht, atI_nat (j := 1) rfl, _, rfl, qb, _, bs, rfl, hqb, hRm.ab, fun p hp => (by have := inb p hp; omega), true, rfl, iteF ?_⟩
    refine ⟨_, rfl, _, rfl, by omega, by omega, for_it walk_range (fun i σ H' => ∃ v6 v7 : Option V, σ = [some (.int s), some (.ref R), some (.ref t), some (.ref A), some (.ref B), some (.int us.length), v6, v7, none, none, none] ∧ H' = H) ⟨_, _, rfl, rfl⟩ (fun _ _ _ _ _ => trivial) ?_ ?_⟩
    · rintro i v σ H2 H3 hi ⟨v6, v7, rfl, rfl⟩ ⟨rfl, rfl⟩
      have hc := hRm.cnt (0 + (i : Int))
      have hc' : ((if decide ((0 + (i : Int)) ∈ as) = true then 1 else 0) + (if decide ((0 + (i : Int)) ∈ bs) = true then 1 else 0) : Int) = (if decide ((0 + (i : Int)) ∈ ns) = true then 1 else 0) + (if decide ((0 + (i : Int)) ∈ ms) = true then 1 else 0) := by
        simp only [decide_eq_true_eq]
        exact hc
      refine ⟨_, rfl, _, rfl, A, _, rfl, .inl (SqL.of hA), rfl, flat_ints ns, ?_⟩
      rw [inV_ints]
      refine .inr ⟨_, rfl, _, rfl, _, rfl, B, _, rfl, .inl (SqL.of hB), rfl, flat_ints ms, ?_⟩
      rw [inV_ints]
      refine .inr ⟨_, rfl, _, _, rfl, rfl, ?_⟩
      refine ⟨_, rfl, _, rfl, t, _, 0, _, rfl, rfl, SqT.of ht, atI_nat (j := 0) rfl, qa, _, rfl, .inr (SqT.of hqa), rfl, flat_ints as, ?_⟩
      rw [inV_ints]
      refine .inr ⟨_, rfl, _, rfl, _, rfl, t, _, 1, _, rfl, rfl, SqT.of ht, atI_nat (j := 1) rfl, qb, _, rfl, .inr (SqT.of hqb), rfl, flat_ints bs, ?_⟩
      rw [inV_ints]
      refine .inr ⟨_, rfl, _, _, rfl, rfl, ?_⟩
      refine ⟨_, rfl, rfl, _, rfl, iteF' ?_ ⟨_, _, rfl, rfl⟩⟩
      show (!decide (V.int ((if decide ((0 + (i : Int)) ∈ as) = true then 1 else 0) + (if decide ((0 + (i : Int)) ∈ bs) = true then 1 else 0)) = V.int ((if decide ((0 + (i : Int)) ∈ ns) = true then 1 else 0) + (if decide ((0 + (i : Int)) ∈ ms) = true then 1 else 0)))) = false
      rw [hc', decide_eq_true rfl]
      rfl
    · rintro σ H2 ⟨v6, v7, rfl, rfl⟩
      refine ⟨_, rfl, _, rfl, _, rfl, t, _, 0, _, rfl, rfl, SqT.of ht, atI_nat (j := 0) rfl, s, R, qa, us, rs, as, rfl, hs50, hR, RR, hF, hqa, ina, fun H3 q3 e3 hq3 hl3 => ?_⟩
      refine ⟨_, rfl, _, rfl, _, rfl, t, _, 1, _, rfl, rfl, SqT.of (e3 _ _ ht), atI_nat (j := 1) rfl, s, R, qb, us, rs, bs, rfl, hs50, e3 _ _ hR, RR.ex e3, hF, e3 _ _ hqb, inb, fun H4 q4 e4 hq4 hl4 => ?_⟩
      refine ⟨_, rfl, _, rfl, by omega, by omega, for_it walk_range (fun i σ H' => ∃ v6 v7 v10 : Option V, σ = [some (.int s), some (.ref R), some (.ref t), some (.ref A), some (.ref B), some (.int us.length), v6, v7, some (.ref q3), some (.ref q4), v10] ∧ H' = H4) ⟨_, _, _, rfl, rfl⟩ (fun _ _ _ _ _ => trivial) ?_ ?_⟩
      · rintro i v σ H5 H6 hi ⟨v6, v7, v10, rfl, rfl⟩ ⟨rfl, rfl⟩
        have his : i < s := by omega
        have z0 : (0 : Int) + ((i : Nat) : Int) = ((i : Nat) : Int) := by omega
        have g3 : atI ((covL s rs as).map V.int) (0 + ((i : Nat) : Int)) = some (.int (covAt rs as (i : Int))) := by
          rw [z0]
          refine atI_nat ?_
          rw [List.getElem?_map]
          unfold covL
          rw [row_get his]
          rfl
        have g4 : atI ((covL s rs bs).map V.int) (0 + ((i : Nat) : Int)) = some (.int (covAt rs bs (i : Int))) := by
          rw [z0]
          refine atI_nat ?_
          rw [List.getElem?_map]
          unfold covL
          rw [row_get his]
          rfl
        have ev := hRm.ev (i : Int)
        refine ⟨_, rfl, _, rfl, q3, _, _, _, rfl, rfl, SqL.of (e4 _ _ hl3), g3, _, rfl, _, rfl, q4, _, _, _, rfl, rfl, SqL.of hl4, g4, _, _, rfl, rfl, _, rfl, _, _, rfl, rfl, _, rfl, iteF' (decide_eq_false ?_) ⟨_, _, _, rfl, rfl⟩⟩
        split <;> omega
      · rintro σ H5 ⟨v6, v7, v10, rfl, rfl⟩
        exact k _ (e3.trans e4)
end
end K03


set_option Elab.async false
set_option linter.all false
set_option maxRecDepth 100000
set_option maxHeartbeats 4000000
/-! isinstance of a caught error that has a dict of its own: the library asks for none -/
namespace IsE
open PySem PySem.Spec PySem.Calls PyProof.Rows L2
section
variable {pr : Program} {wd : World} {Ar : Around} {Er : Value → Shared → Prop} {F : PySem.W.Frag} {e T : Addr} {oe : Obj} {dct : Option Obj}
/-- the class's own «__class__», whatever the error's dict holds -/
theorem class_found (Z : ExcC F T) : PySem.W.findObj F T dct "__class__" = some (.bind (.builtin "getset_descriptor.__get__") (.builtin "object.__class__")) := by
  obtain ⟨cd, isC, _⟩ := PySem.W.any_some Z.hd
  unfold PySem.W.findObj
  rw [isC, Option.bind_some, Z.ha, Option.bind_some] <;> simp [Z.hn, Z.ht]
/-- e.__class__ of such an error -/
theorem class_asked (Z : ExcC F T) {st : Shared} {G : Option Value → Shared → Prop} (XI : F.In st.heap) (at_ : PySem.W.InstAt st.heap e oe T dct) (fin : G (some (.ref T)) { st with toks := st.toks + 1 }) :
    wpAny (model pr wd) Ar (getAttr? (.ref e) "__class__") G Er st := by
  obtain ⟨hh, gg, dd, tt, oo⟩ := st
  have isT := at_.type (M := model pr wd)
  have own := PySem.W.looks_find (M := model pr wd) XI at_ (class_found Z)
  have noB : (Value.builtin "BaseException.__getattribute__" == Value.builtin "object.__getattribute__") = false := by decide +kernel
  unfold getAttr? getAttrBy? getAttrBy
  refine wpAny_bind (wpAny_mkText (wpAny_bind (wpAny_attempt (wpAny_holding (wpAny_bind (isT.at (wpAny_bind ((PySem.W.looks_findIn (M := model pr wd) XI Z.hg).at ?_))))))))
  show wpAny _ _ (ite ((onTheHeap (Value.ref T) && Value.builtin "BaseException.__getattribute__" == Value.builtin "object.__getattribute__") = true) _ _) _ _ _
  rw [show (onTheHeap (Value.ref T) && Value.builtin "BaseException.__getattribute__" == Value.builtin "object.__getattribute__") = false from by rw [noB]; rfl, if_neg Bool.false_ne_true]
  unfold getAttrByItsOwn hookBefore
  refine wpAny_bind (by
    rw [if_pos (show onTheHeap (Value.ref T) = true from rfl)]
    exact (PySem.W.looks_findIn (M := model pr wd) XI Z.hk).at (wpAny_bind (wpAny_attempt (wpAny_holding (by
      unfold callGetattribute
      rw [show (false && onTheHeap (Value.builtin "BaseException.__getattribute__")) = false from rfl, if_neg Bool.false_ne_true]
      unfold boundAndCalled
      rw [PySem.F.excAttr_ValueError.ga.bind (.ref e)]
      refine wpAny_bind (wpAny_pure (wpAny_call (codeAny_call_builtin PySem.F.excAttr_ValueError.ga.plain PySem.F.entry_bexc_ga ?_)))
      refine @PySem.W.check_slot (model pr wd) _ _ ⟨hh, gg, dd, tt + 1, oo⟩ "BaseException.__getattribute__" "BaseException" "__getattribute__" (.ref e) [.str "__class__" tt] [] _ (by decide +kernel) (by decide +kernel) (isT.andThen (PySem.W.looks_subIn XI Z.hs)) (PySem.F.args_bexc_ga (.ref e) (.str "__class__" tt)) ?_
      unfold Builtin.«object.__getattribute__»
      refine wpAny_bind (wpAny_of_eq (a := ((Value.ref e : Value), [Value.str "__class__" tt])) (by first | rfl | (simp only [slotArgs] <;> rfl)) (wpAny_bind (wpAny_pure (wpAny_bind (isT.at (wpAny_bind (own.at ?_)))))))
      refine wpAny_bind (wpAny_holding (wpAny_call (PySem.W.class_get (s := ⟨hh, gg, dd, tt + 1, oo⟩) (ox := oe) (od := dct) XI at_ Z.hm (wpAny_pure ?_))))
      show wpAny _ _ (handedOut (.ref T)) _ _ _
      rw [PySem.W.handedOut_of (v := .ref T) rfl]
      first
        | exact wpAny_pure (wpAny_pure fin)
        | exact wpAny_pure (wpAny_bind (wpAny_pure (wpAny_pure fin)))
        | exact wpAny_pure fin)))))
theorem kit_err (Z : ExcC F T) : PySem.W.KitX F (.ref e) (.ref T) (fun h => PySem.W.InstAt h e oe T dct) := by
  obtain ⟨cd, isC, _⟩ := PySem.W.any_some Z.hd
  obtain ⟨ob, hob, hcl⟩ : ∃ ob, F.lookup T = some ob ∧ ob.data = .cls cd := by
    unfold PySem.W.clsIn at isC
    split at isC
    · rename_i q
      cases isC
      exact ⟨_, q, rfl⟩
    · cases isC
  obtain ⟨oc, od', odt, osl⟩ := ob
  cases hcl
  refine ⟨fun _ _ _ I => I.type, fun _ _ X _ A' Q' E' s' k q => ?_, fun h tp d its n sl X htp => Bool.eq_false_iff.mpr fun q => ?_, fun X I k => class_asked Z X I k⟩
  · unfold isType loadHead
    exact wpAny_bind (wpAny_loadPart (k _ _ (X _ _ hob)) (wpAny_pure q))
  · obtain rfl : T = tp := Value.ref.inj (beq_iff_eq.mp q)
    cases (X _ _ hob).symm.trans htp
end
end IsE
namespace IsE
open PySem PySem.Spec PyProof.Rows L2
/-- isinstance(e, c), e the exception that the suite holds, with a dict of its own -/
def rIsO (K : PySem.W.Frag) (D a : Addr) (cls : Value) (d : Option Addr) : List V → Hp → VK → Prop := fun xs H Q => ∃ (c : V) (cv : Value) (b : Bool) (dd : Addr) (fs : List (Str × V)), xs = [.ref a, c] ∧ cls = .ref D ∧ d = some dd ∧ H dd = some (.xd fs) ∧ (∀ u, RelV c u → u = cv) ∧ PySem.W.kitOne K (.ref D) cv = some b ∧ Q (.bl b) H
theorem call_isO {X : Cx} {a D : Addr} {oe : Obj} {cls : Value} {d : Option Addr} {pn : List (Addr × Obj)} (C : ExcC X.K D) (hz : Zc cls d oe) (hf : ∃ vs, oe.data = .fields vs) : CallR (X.suite a ((a, oe) :: pn)) (.builtin "isinstance") (rIsO X.K D a cls d) := by
  intro pins s σ H xs us Q I r h
  obtain ⟨c, cv, b, dd, fs, rfl, rfl, rfl, ea, hcv, e, q⟩ := h
  cases r with
  | cons rx rr =>
    cases rr with
    | cons rt rr =>
      cases rr
      cases rx
      have ec := hcv _ rt
      subst ec
      obtain ⟨hget, _⟩ := I.pin (a, oe) (List.mem_append.mpr (.inl List.mem_cons_self))
      obtain ⟨vs, hv⟩ := hf
      have hx : ObjOk X.prog X.w H s.heap dd (.xd fs) := I.hok dd _ ea
      obtain ⟨mA, hns, hr⟩ := hx
      obtain ⟨od, ho, hl⟩ := lookIn_ns hns
      have J : PySem.W.InstAt s.heap a oe D (some od) := ⟨hget, hz.1, by unfold PySem.W.notCls; rw [hv] <;> rfl, by rw [hz.2]; exact ho⟩
      exact PySem.W.kia_one (kit_err C) I.kIn J e (fun z => nomatch z) fun tk => ⟨.bl b, H, I.kept (t' := tk) fun _ _ z => z, rfl, q⟩
end IsE


set_option Elab.async false
set_option linter.all false
set_option maxRecDepth 100000
set_option maxHeartbeats 4000000
namespace K03
open PySem PySem.Spec PyProof.Rows L2
open Evl (Ex)
open IsE
section
variable {w : World} {K : PySem.W.Frag} {mg : Str → Option Value} {base : Heap}
theorem Ctx.ec (T : Ctx K mg) : ExcC K (He.ga K "BadSet") := ⟨T.xga_BadSet, T.xgg_BadSet, T.xs_BadSet, T.xd_BadSet, T.xcc_BadSet, T.gs, T.tk, T.xo_BadSet⟩
theorem Ctx.xf (T : Ctx K mg) : XfC K (He.ga K "BadSet") := ⟨T.xga_BadSet, T.xgg_BadSet, T.xs_BadSet, T.xd_BadSet⟩
def spRefused (K : PySem.W.Frag) : Sp := fun vs H Q _ => ∃ (x : Addr) (kd : Str) (s : Int) (us : List V) (rs : List (Int × Int)) (gs : List Int) (v1 v2 : V) (n : Int), vs = [.ref x, v1, v2] ∧ Mkt K H x kd s us rs gs ∧ (∀ r ∈ rs, Fits s r) ∧ us.length < 64 ∧
  (Wrong H us.length v1 n ∨ ∃ ns, RowI H v1 ns ∧ Parts us.length ns ∧ Wrong H us.length v2 n) ∧
  ∀ H' p, Ex H H' → H p = none → H' p = some (.lst [.int n, .bl true]) → Q (.ref p) H'
theorem sc_refused : FnScope ["_law_market_here", "_law_one", "_law_other", "_law_told", "error"] ["_law_market_here", "_law_one", "_law_other"] (defScope s__law_refused) := ⟨rfl, rfl, rfl, by decide +kernel, rfl, by decide +kernel, by decide +kernel⟩
theorem okZ {x : Str} {st : Stmt} {f : Addr} {fd : FuncData} {N ps : List Str} {k : Nat} {sp : Sp} {dvs : List V} {kws : List (Str × V)} {qual : Str} (F : FunD K x qual (defArgs st) (defBody st) (defScope st) dvs kws f fd) (S : FnScope N ps (defScope st)) (len : ∀ vs H Q E, sp vs H Q E → vs.length = ps.length)
    (hbody : ∀ (cdv : Value) (A : Around) (outer : List Env) (s : Shared) (H : Hp) (vs : List V) (Q : VK) (E : XK), Room k (A.deeper (envOfC qual (defScope st) s.heap.objs.size f cdv)) → sp vs H Q E →
      ∃ t, PSs (cxOf CX0 PP w K mg base N qual (defScope st) f cdv A outer s H E) (defBody st) t ∧ t { nx := fun _ H' => Q .non H', rt := Q } (start N vs) H) : FnOk PP w K mg base CX0 (k + 1) f fd ps sp := F.ok S len hbody
theorem Wrong.ex {H H1 : Hp} {m : Int} {v : V} {n : Int} (h : Wrong H m v n) (e : Ex H H1) : Wrong H1 m v n := by
  rcases h with ⟨a, ns, y, ys, rfl, ha, P, hys, hy, hw, rfl⟩ | ⟨rfl, rfl⟩
  · exact .inl ⟨a, ns, y, ys, rfl, e _ _ ha, P, fun z hz => (hys z hz).ex e, hy.ex e, hw, rfl⟩
  · exact .inr ⟨rfl, rfl⟩
theorem rem_wrong {x : Addr} {kd : Str} {s : Int} {us : List V} {rs : List (Int × Int)} {gs : List Int} {v1 v2 : V} {n : Int} {H H1 : Hp} {Q : VK} {E : XK} (M : Mkt K H x kd s us rs gs) (hF : ∀ r ∈ rs, Fits s r) (hfew : us.length < 64)
    (hw : Wrong H us.length v1 n ∨ ∃ ns, RowI H v1 ns ∧ Parts us.length ns ∧ Wrong H us.length v2 n) (e : Ex H H1) (hb : Bad K H1 E n) : spRemade K [.ref x, v1, v2] H1 Q E := by
  refine ⟨x, kd, s, us, rs, gs, v1, v2, rfl, M.ex e, hF, hfew, ?_⟩
  rcases hw with hw | ⟨ns, hv1, P1, hw⟩
  · exact .inr (.inl ⟨n, hw.ex e, hb⟩)
  · exact .inr (.inr ⟨ns, n, hv1.ex e, P1, hw.ex e, hb⟩)
theorem has_refused (T : Ctx K mg) : Has w K mg base CX0 "_law_refused" 5 ["_law_market_here", "_law_one", "_law_other"] (spRefused K) := by
  obtain ⟨f1, fd1, m1, kp1, F1, b1⟩ := has_remade (w := w) (base := base) T
  refine has_of (st := s__law_refused) (f := He.ga K "_law_refused") T.d__law_refused T.g__law_refused (fun _ _ _ _ _ _ us hl => match us, hl with | [_, _, _], _ => rfl) fun fd F => ?_
  refine okZ F sc_refused (fun vs H Q E h => ?_) (fun cdv A outer s0 H vs Q E hr h => ?_)
  · obtain ⟨x, kd, s, us, rs, gs, v1, v2, n, rfl, _⟩ := h
    rfl
  · obtain ⟨x, kd, s, us, rs, gs, v1, v2, n, rfl, M, hF, hfew, hw, k⟩ := h
    have nd := sc_refused.nd
    refine ⟨_, pss_cons (ps_set (i := 3) nd rfl (.inl rfl) (pe_lst (pa_cons (pe_un un_neg pe_int) (pa_cons pe_bl pa_nil))))
      (pss_cons (ps_try_as (i := 4) (c := .ref (He.ga K "BadSet")) (Wout := fun _ _ _ _ => False) rfl rfl nd rfl rfl ⟨by rfl, by decide, .inl T.g_BadSet⟩ takes0
        (fun W pn xe tk hp => pss_one (ps_expr (pe_callS F1 hr (by rfl) m1 kp1 b1 (fun σ => passAt tk σ) (pa_cons (pv 0) (pa_cons (pv 1) (pa_cons (pv 2) pa_nil))))))
        (fun a oe cls d pn hz hf => pss_one (ps_set (i := 3) nd rfl (.inl rfl) (pe_lst (pa_cons (pe_xf T.xf T.xnn_BadSet hz hf (pv 4)) (pa_cons (pe_callB (call_isO T.ec hz hf) (by rfl) T.b_isinstance (by decide +kernel) (pa_cons (pv 4) (pa_cons (pe_glob (v := .ref (He.ga K "PartsError")) rfl T.g_PartsError rfl) pa_nil))) pa_nil))))))
      (pss_one (ps_ret (pv 3)))), ?_⟩
    refine ⟨_, rfl, (by show 2 ≤ sizeLine; decide), fun p hp => ?_⟩
    have e1 := Ex.new (o := .lst [V.int (-7), V.bl false]) hp
    refine ⟨_, rfl, _, rfl, _, rfl, ?_⟩
    simp only [tNil]
    refine rem_wrong M hF hfew hw e1 ?_
    rintro H' d e' hd hq
    refine ⟨true, T.te_BadSet, fun _ a0 ha0 => ?_, fun q => Bool.noConfusion q⟩
    refine ⟨_, rfl, rfl, rfl, d, _, .int n, rfl, hq, rfl, ?_⟩
    refine ⟨_, rfl, _, _, true, d, _, rfl, rfl, rfl, hq, fun u r => r, T.ki_BadSet_PartsError, ?_⟩
    refine ⟨(by show 2 ≤ sizeLine; decide), fun p2 hp2 => ⟨_, rfl, ?_⟩⟩
    exact k _ p2 ((e1.trans e').trans (Ex.new hp2)) (Evl.fresh_back (e1.trans e') hp2) upd_same
end
end K03


set_option Elab.async false
set_option linter.all false
set_option maxRecDepth 100000
set_option maxHeartbeats 4000000
namespace K03
open PySem PySem.Spec PyProof.Rows L2
open Evl (Ex)
/-- how many of these runs hold the place -/
def cntR (rs : List (Int × Int)) (j : Int) : Int := ((rs.filter fun r => decide (r.1 ≤ j ∧ j < r.2)).length : Int)
theorem cntR_app (rs qs : List (Int × Int)) (j : Int) : cntR (rs ++ qs) j = cntR rs j + cntR qs j := by
  unfold cntR
  rw [List.filter_append, List.length_append]
  omega
theorem cntR_one (r : Int × Int) (j : Int) : cntR [r] j = if r.1 ≤ j ∧ j < r.2 then 1 else 0 := by
  unfold cntR
  by_cases c : r.1 ≤ j ∧ j < r.2
  · rw [if_pos c, List.filter_cons_of_pos (by simpa using c)]
    rfl
  · rw [if_neg c, List.filter_cons_of_neg (by simpa using c)]
    rfl
/-- a list of these runs under work, at R -/
structure LC (D R : Addr) (H : Hp) (rs : List (Int × Int)) (H' : Hp) : Prop where
  kp : Kp D H H'
  dr : Dr D H'
  li : ∃ us, H' R = some (.lst us) ∧ Runs H' us rs
theorem LC.go {D R : Addr} {H : Hp} {rs : List (Int × Int)} {H1 H2 : Hp} (h : LC D R H rs H1) (hR : R ≠ D) (k : Kp D H1 H2) (d : Dr D H2) : LC D R H rs H2 := by
  obtain ⟨us, a1, a2⟩ := h.li
  exact ⟨h.kp.trans k, d, us, k _ _ hR a1, k.runs h.dr a2⟩
theorem LC.app {D R : Addr} {H : Hp} {rs : List (Int × Int)} {H1 : Hp} {x y : Int} (h : LC D R H rs H1) (hR : R ≠ D) (hR0 : H R = none) (hl : rs.length ≤ 1000) {t : Addr} (ht : H1 t = none) :
    ∃ us, upd H1 t (.tup [.int x, .int y]) R = some (.lst us) ∧ us.length < sizeLine ∧ LC D R H (rs ++ [(x, y)]) (upd (upd H1 t (.tup [.int x, .int y])) R (.lst (us ++ [.ref t]))) := by
  obtain ⟨us, a1, a2⟩ := h.li
  have e1 : Ex H1 (upd H1 t (.tup [.int x, .int y])) := Ex.new ht
  have l := a2.len
  refine ⟨us, e1 _ _ a1, small1000 (by omega), ⟨(h.kp.trans (Kp.of e1)).mut hR0, ?_, us ++ [.ref t], upd_same, runs_app a2 a1 ht⟩⟩
  obtain ⟨ms, hms⟩ := h.dr
  exact ⟨ms, by rw [upd_ne (Ne.symm hR)]; exact e1 _ _ hms⟩
/-- a chain from b to e: each place once -/
structure Chn (s b e : Int) (rs : List (Int × Int)) : Prop where
  fit : ∀ r ∈ rs, Fits s r
  few : rs.length ≤ (e - b).toNat
  cov : ∀ j, cntR rs j = if b ≤ j ∧ j < e then 1 else 0
theorem Chn.nil {s b : Int} : Chn s b b [] := ⟨(fun r h => nomatch h), Nat.zero_le _, fun j => by rw [if_neg (by omega)]; rfl⟩
theorem Chn.snoc {s b e f : Int} {rs : List (Int × Int)} (h : Chn s b e rs) (h0 : 0 ≤ e) (hb : b ≤ e) (hf : e < f) (hs : f ≤ s) : Chn s b f (rs ++ [(e, f)]) := by
  refine ⟨fun r hr => ?_, ?_, fun j => ?_⟩
  · rcases List.mem_append.mp hr with hr | hr
    · exact h.fit r hr
    · rw [List.mem_singleton.mp hr]
      exact ⟨h0, hf, hs⟩
  · have := h.few
    rw [List.length_append, List.length_singleton]
    omega
  · rw [cntR_app, cntR_one, h.cov]
    show (if b ≤ j ∧ j < e then 1 else 0) + (if e ≤ j ∧ j < f then 1 else 0) = (if b ≤ j ∧ j < f then 1 else 0 : Int)
    split <;> split <;> split <;> omega
section
variable {w : World} {K : PySem.W.Frag} {mg : Str → Option Value} {base : Heap}
def spChain : Sp := fun vs H Q _ => ∃ (D : Addr) (s b e : Int), vs = [.ref D, .int s, .int b, .int e] ∧ Dr D H ∧ 1 ≤ s ∧ s ≤ 8 ∧ 0 ≤ b ∧ b ≤ e ∧ e ≤ s ∧
  ∀ R us rs H', Kp D H H' → Dr D H' → H R = none → H' R = some (.lst us) → Runs H' us rs → Chn s b e rs → Q (.ref R) H'
theorem sc_chain : FnScope ["_law_draws_here", "_law_size", "_law_first", "_law_last", "_law_runs", "_law_start", "_law_k", "_law_stop"] ["_law_draws_here", "_law_size", "_law_first", "_law_last"] (defScope s__law_chain) := ⟨rfl, rfl, rfl, by decide +kernel, rfl, by decide +kernel, by decide +kernel⟩
theorem has_chain (T : Ctx K mg) : Has w K mg base CX0 "_law_chain" 2 ["_law_draws_here", "_law_size", "_law_first", "_law_last"] spChain := by
  obtain ⟨f1, fd1, m1, kp1, F1, b1⟩ := has_take (w := w) (base := base) T
  refine has_of (st := s__law_chain) (f := He.ga K "_law_chain") T.d__law_chain T.g__law_chain (fun _ _ _ _ _ _ us hl => match us, hl with | [_, _, _, _], _ => rfl) fun fd F => ?_
  refine ok0 F sc_chain (fun vs H Q E h => ?_) (fun cdv A outer s0 H vs Q E hr h => ?_)
  · obtain ⟨D, s, b, e, rfl, _⟩ := h
    rfl
  · obtain ⟨D, s, b, e, rfl, hD, hs1, hs8, hb0, hbe, hes, k⟩ := h
    have nd := sc_chain.nd
    refine ⟨_, pss_cons (ps_set (i := 4) nd rfl (.inl rfl) (pe_lst pa_nil))
      (pss_cons (ps_set (i := 5) nd rfl (.inl rfl) (pv 2))
      (pss_cons (ps_for PassesOwn.never rfl (pi_range1 (by rfl) T.b_range (pa_cons (pv 1) pa_nil)) (pg_name (i := 6) nd rfl (.inl rfl))
        (pss_one (ps_if (pt_cmpR op_lt (pv 5) (pv 3) (nomark _))
            (pss_cons (ps_set (i := 7) nd rfl (.inl rfl) (pe_callB (call_min2 rfl) (by rfl) T.b_min (by decide +kernel) (pa_cons (pv 3) (pa_cons (pe_op op_add (pe_op op_add (pv 5) pe_int) (pe_call F1 hr (by rfl) m1 kp1 b1 .nil pass0 (pa_cons (pv 0) (pa_cons (pv 1) pa_nil)))) pa_nil))))
            (pss_cons (ps_expr (pe_bm PySem.F.plainAttrs_list PySem.F.slot_list_append PySem.F.type_list_append mt_append (pv 4) (pa_cons (pe_tup (pa_cons (pv 5) (pa_cons (pv 7) pa_nil))) pa_nil)))
            (pss_one (ps_set (i := 5) nd rfl (.inl rfl) (pv 7))))) pss_nil)))
      (pss_one (ps_ret (pv 4))))), ?_⟩
    refine ⟨(by show 0 ≤ sizeLine; decide), fun R hR0 => ?_⟩
    have hRD : R ≠ D := Kp.ne hD hR0
    have L0 : LC D R H [] (upd H R (.lst [])) := ⟨Kp.of (Ex.new hR0), hD.ex (Ex.new hR0), [], upd_same, Runs.nil⟩
    generalize upd H R (.lst []) = H1 at *
    refine ⟨_, rfl, _, rfl, _, rfl, by omega, by omega, for_it walk_range (fun i σ H' => ∃ (v6 v7 : Option V) (st : Int) (rs : List (Int × Int)), σ = [some (.ref D), some (.int s), some (.int b), some (.int e), some (.ref R), some (.int st), v6, v7] ∧ b ≤ st ∧ st ≤ e ∧ (b + i ≤ st ∨ st = e) ∧ Chn s b st rs ∧ LC D R H rs H') ⟨_, _, b, [], rfl, Int.le_refl _, hbe, .inl (by omega), Chn.nil, L0⟩ (fun _ _ _ _ _ => trivial) ?_ ?_⟩
    · rintro i v σ H5 H6 hi ⟨v6, v7, st, rs, rfl, h1, h2, h3, C, L5⟩ ⟨rfl, rfl⟩
      refine ⟨_, rfl, _, rfl, _, _, rfl, rfl, _, rfl, ?_⟩
      by_cases c : st < e
      rotate_left
      · exact iteF' (decide_eq_false c) ⟨_, _, st, rs, rfl, h1, h2, .inr (by omega), C, L5⟩
      refine iteT' (decide_eq_true c) ⟨_, rfl, _, rfl, _, _, rfl, rfl, _, rfl, _, rfl, D, s, rfl, L5.dr, by omega, fun r H7 r0 r1 k7 d7 => ⟨_, _, rfl, rfl, _, _, rfl, ?_⟩⟩
      have L7 := L5.go hRD k7 d7
      have hstop : st < (if (st + 1 + r : Int) < e then st + 1 + r else e) ∧ (if (st + 1 + r : Int) < e then st + 1 + r else e) ≤ e := by split <;> omega
      generalize hse : (if (st + 1 + r : Int) < e then st + 1 + r else e) = sp at *
      have hfew := C.few
      refine ⟨_, rfl, .inl ⟨rfl, ?_⟩, _, rfl, _, rfl, (by show 2 ≤ sizeLine; decide), fun t ht => ?_⟩
      · obtain ⟨us, a1, _⟩ := L7.li
        exact ⟨_, SqL.of a1⟩
      · obtain ⟨us, q1, q2, L8⟩ := L7.app (x := st) (y := sp) hRD hR0 (by omega) ht
        exact ⟨R, us, .ref t, rfl, rfl, q1, q2, _, rfl, _, _, sp, _, rfl, by omega, by omega, .inl (by omega), C.snoc (by omega) h1 hstop.1 (by omega), L8⟩
    · rintro σ H5 ⟨v6, v7, st, rs, rfl, h1, h2, h3, C, L5⟩
      have : st = e := by omega
      subst this
      obtain ⟨us, a1, a2⟩ := L5.li
      exact ⟨_, rfl, k R us rs _ L5.kp L5.dr hR0 a1 a2 C⟩
end
end K03


set_option Elab.async false
set_option linter.all false
set_option maxRecDepth 100000
set_option maxHeartbeats 4000000
namespace K03
open PySem PySem.Spec PyProof.Rows L2
open Evl (Ex)
def ran (a b : Int) : List Int := (List.range (b - a).toNat).map fun i => a + (i : Nat)
theorem rgV_ran (a b : Int) : rgV a b = (ran a b).map V.int := by
  unfold rgV ran
  rw [List.map_map]
  rfl
theorem ran_len (a b : Int) : (ran a b).length = (b - a).toNat := by unfold ran; simp
theorem ran_mem {a b n : Int} : n ∈ ran a b ↔ a ≤ n ∧ n < b := by
  unfold ran
  rw [List.mem_map]
  refine ⟨fun ⟨i, hi, e⟩ => ?_, fun ⟨h1, h2⟩ => ⟨(n - a).toNat, List.mem_range.mpr (by omega), by omega⟩⟩
  have := List.mem_range.mp hi
  omega
theorem ran_asc (a b : Int) : (ran a b).Pairwise (· < ·) := by
  unfold ran
  refine List.pairwise_map.mpr (List.Pairwise.imp (fun {x y} z => ?_) (List.pairwise_lt_range (n := (b - a).toNat)))
  omega
theorem cov_map (rs : List (Int × Int)) (ps : List Int) (j : Int) : covAt rs ps j = cntR (ps.map fun p => rs.getD p.toNat (0, 0)) j := by
  unfold covAt cntR
  rw [List.filter_map, List.length_map]
  rfl
theorem map_ran (A B C : List (Int × Int)) : (ran A.length (A.length + B.length)).map (fun p => (A ++ B ++ C).getD p.toNat (0, 0)) = B := by
  have e : ((A.length : Int) + B.length - A.length).toNat = B.length := by omega
  unfold ran
  rw [e, List.map_map]
  apply List.ext_getElem?
  intro i
  rw [List.getElem?_map]
  by_cases h : i < B.length
  · rw [List.getElem?_range h, List.getElem?_eq_getElem h]
    show some ((A ++ B ++ C).getD ((A.length : Int) + (i : Nat)).toNat (0, 0)) = _
    rw [show ((A.length : Int) + (i : Nat)).toNat = A.length + i by omega, List.getD_eq_getElem?_getD, List.append_assoc, List.getElem?_append_right (by omega), Nat.add_sub_cancel_left, List.getElem?_append_left h, List.getElem?_eq_getElem h]
    rfl
  · rw [List.getElem?_eq_none (by rw [List.length_range]; omega), List.getElem?_eq_none (by omega)]
    rfl
theorem cov_ran (A B C : List (Int × Int)) (j : Int) : covAt (A ++ B ++ C) (ran A.length (A.length + B.length)) j = cntR B j := by rw [cov_map, map_ran]
theorem stock_true {kd : Str} {s : Nat} {rs : List (Int × Int)} {D ms : List Int} (hD : D.length = s) (h : ∀ (j : Nat) (d : Int), j < s → D[j]? = some d → okAt kd (covAt rs ms j) d = true) : stockB kd s rs [] D ms = true := by
  have hc : (covL s rs ms).length = s := by unfold covL; exact row_len _ _
  unfold stockB
  have a1 : (ms.any fun p => decide (p ∈ ([] : List Int))) = false := by
    rw [List.any_eq_false]
    intro x _
    simp
  rw [a1, List.all_eq_true.mpr fun x hx => ?_]
  · rfl
  · obtain ⟨i, hi⟩ := List.mem_iff_getElem?.mp hx
    have hl := (List.getElem?_eq_some_iff.mp hi).1
    rw [okRow_len kd _ _ (by rw [hc, hD]), hc] at hl
    have d1 : D[i]? = some (D[i]'(by omega)) := List.getElem?_eq_getElem (by omega)
    have c1 : (covL s rs ms)[i]? = some (covAt rs ms i) := by unfold covL; exact row_get hl
    rw [okRow_get kd _ _ i _ _ c1 d1] at hi
    cases hi
    exact h i _ hl d1
theorem sum_cov {rs : List (Int × Int)} {ns ms as bs : List Int} (h : Remade rs ns ms as bs) (hn : ns.Nodup) (hm : ms.Nodup) (j : Int) : covAt rs as j + covAt rs bs j = covAt rs ns j + covAt rs ms j := by
  rw [← covAt_app, ← covAt_app]
  refine covAt_perm rs (List.perm_iff_count.mpr fun p => ?_) j
  rw [List.count_append, List.count_append, (asc_nodup h.aa).count, (asc_nodup h.ab).count, hn.count, hm.count]
  have := h.cnt p
  split <;> split <;> split <;> split <;> simp_all
theorem both_ok {kd : Str} {n a b : Int} (h1 : -1 ≤ a - b) (h2 : a - b ≤ 1) (h3 : kd = "lap" → 2 * n ≤ a + b) (h4 : kd ≠ "lap" → a + b = 2 * n) : okAt kd a n = true ∧ okAt kd b n = true := by
  unfold okAt
  by_cases c : kd = "lap"
  · have := h3 c
    rw [if_pos c, if_pos c]
    exact ⟨decide_eq_true (by omega), decide_eq_true (by omega)⟩
  · have := h4 c
    rw [if_neg c, if_neg c]
    exact ⟨decide_eq_true (by omega), decide_eq_true (by omega)⟩
end K03


set_option Elab.async false
set_option linter.all false
set_option maxRecDepth 100000
set_option maxHeartbeats 4000000
namespace K03
open PySem PySem.Spec PyProof.Rows L2
open Evl (Ex)
theorem Ord.cov {ns ms : List Int} (o : Ord ns ms) (nd : ns.Nodup) (rs : List (Int × Int)) (j : Int) : covAt rs ms j = covAt rs ns j :=
  covAt_perm rs ((List.perm_ext_iff_of_nodup (asc_nodup o.asc) nd).mpr o.mem) j
def inR (r : Int × Int) (j : Int) : Int := if r.1 ≤ j ∧ j < r.2 then 1 else 0
def oneOf (a b : Nat) : List Int := ran 0 (a + b)
def otherOf (a b c : Nat) : List Int := ran 0 a ++ ran (a + b) (a + b + c)
theorem one_asc (a b : Nat) : (oneOf a b).Pairwise (· < ·) := ran_asc _ _
theorem other_asc (a b c : Nat) : (otherOf a b c).Pairwise (· < ·) := by
  unfold otherOf
  rw [List.pairwise_append]
  refine ⟨ran_asc _ _, ran_asc _ _, fun x hx y hy => ?_⟩
  have := ran_mem.mp hx
  have := ran_mem.mp hy
  omega
theorem one_mem {a b : Nat} {n : Int} (h : n ∈ oneOf a b) : 0 ≤ n ∧ n < a + b := ran_mem.mp h
theorem other_mem {a b c : Nat} {n : Int} (h : n ∈ otherOf a b c) : 0 ≤ n ∧ n < a + b + c := by
  rcases List.mem_append.mp h with h | h
  · have := ran_mem.mp h
    omega
  · have := ran_mem.mp h
    omega
theorem one_len (a b : Nat) : (oneOf a b).length = a + b := by unfold oneOf; rw [ran_len]; omega
theorem other_len (a b c : Nat) : (otherOf a b c).length = a + c := by unfold otherOf; rw [List.length_append, ran_len, ran_len]; omega
/-- what the three pieces cover -/
structure Two (kd : Str) (s : Nat) (c e : Int) (r : Int × Int) (S U L : List (Int × Int)) : Prop where
  s_ : ∀ j : Int, 0 ≤ j → j < s → cntR S j = c
  u_ : ∀ j : Int, 0 ≤ j → j < s → cntR U j = 1 + inR r j + e
  l_ : ∀ j : Int, 0 ≤ j → j < s → cntR L j = 1 - inR r j
  ek : e = 0 ∨ (e = 1 ∧ kd = "lap")
section
variable {kd : Str} {s : Nat} {c e : Int} {r : Int × Int} {S U L : List (Int × Int)}
theorem Two.one (h : Two kd s c e r S U L) {j : Int} (h0 : 0 ≤ j) (h1 : j < s) : covAt (S ++ U ++ L) (oneOf S.length U.length) j = c + (1 + inR r j + e) := by
  have z := cov_ran [] (S ++ U) L j
  rw [List.nil_append, List.length_append, cntR_app, h.s_ j h0 h1, h.u_ j h0 h1] at z
  unfold oneOf
  have e1 : ((([] : List (Int × Int)).length : Nat) : Int) = 0 := rfl
  rw [e1, Int.zero_add, Int.natCast_add] at z
  exact z
theorem Two.other (h : Two kd s c e r S U L) {j : Int} (h0 : 0 ≤ j) (h1 : j < s) : covAt (S ++ U ++ L) (otherOf S.length U.length L.length) j = c + (1 - inR r j) := by
  have z1 := cov_ran [] S (U ++ L) j
  have z2 := cov_ran (S ++ U) L [] j
  have e1 : ((([] : List (Int × Int)).length : Nat) : Int) = 0 := rfl
  rw [List.nil_append, e1, Int.zero_add, h.s_ j h0 h1, ← List.append_assoc] at z1
  rw [List.append_nil, List.length_append, Int.natCast_add, h.l_ j h0 h1] at z2
  unfold otherOf
  rw [covAt_app, z1, z2]
theorem inR_01 (r : Int × Int) (j : Int) : inR r j = 0 ∨ inR r j = 1 := by
  unfold inR
  split
  · exact .inr rfl
  · exact .inl rfl
theorem shift_get {n : Int} {r : Int × Int} {b d : Int} {j : Nat} (hj : j < s) (h : (shiftRow (List.replicate s n) r b)[j]? = some d) : d = n + inR r j * b := by
  unfold shiftRow at h
  rw [List.length_replicate, List.getElem?_map, List.getElem?_range hj] at h
  have h2 := Option.some.inj h
  have h3 : (List.replicate s n).getD j 0 = n := by
    rw [List.getD_eq_getElem?_getD, List.getElem?_replicate, if_pos hj]
    rfl
  have h4 : (List.replicate s n).getD j 0 + (if r.1 ≤ (j : Int) ∧ (j : Int) < r.2 then b else 0) = d := h2
  rw [h3] at h4
  rw [← h4]
  unfold inR
  split <;> omega
theorem shift_len {n : Int} {r : Int × Int} {b : Int} : (shiftRow (List.replicate s n) r b).length = s := by unfold shiftRow; simp
theorem okAt_ge {a d : Int} (h : d ≤ a) (hk : kd = "lap" ∨ a = d) : okAt kd a d = true := by
  unfold okAt
  by_cases k : kd = "lap"
  · rw [if_pos k]; exact decide_eq_true h
  · rw [if_neg k]; exact decide_eq_true (hk.resolve_left k)
theorem Two.hi (h : Two kd s c e r S U L) {ms : List Int} (o : Ord (oneOf S.length U.length) ms) : stockB kd s (S ++ U ++ L) [] (shiftRow (List.replicate s (1 + c)) r 1) ms = true := by
  refine stock_true shift_len fun j d hj hd => ?_
  rw [shift_get hj hd, o.cov (asc_nodup (one_asc _ _)), h.one (by omega) (by omega)]
  rcases h.ek with e0 | ⟨e1, k⟩
  · exact okAt_ge (by omega) (.inr (by omega))
  · exact okAt_ge (by omega) (.inl k)
theorem Two.lo (h : Two kd s c e r S U L) {ms : List Int} (o : Ord (otherOf S.length U.length L.length) ms) : stockB kd s (S ++ U ++ L) [] (shiftRow (List.replicate s (1 + c)) r (-1)) ms = true := by
  refine stock_true shift_len fun j d hj hd => ?_
  rw [shift_get hj hd, o.cov (asc_nodup (other_asc _ _ _)), h.other (by omega) (by omega)]
  exact okAt_ge (by omega) (.inr (by omega))
theorem Two.mid (h : Two kd s c e r S U L) {as bs ms : List Int} (R : Remade (S ++ U ++ L) (oneOf S.length U.length) (otherOf S.length U.length L.length) as bs) (o : Ord as ms ∨ Ord bs ms) : stockB kd s (S ++ U ++ L) [] (List.replicate s (1 + c)) ms = true := by
  refine stock_true List.length_replicate fun j d hj hd => ?_
  rw [List.getElem?_replicate, if_pos hj] at hd
  cases hd
  have sc := sum_cov R (asc_nodup (one_asc _ _)) (asc_nodup (other_asc _ _ _)) j
  rw [h.one (by omega) (by omega), h.other (by omega) (by omega)] at sc
  have ev := R.ev j
  have two := both_ok (kd := kd) (n := 1 + c) ev.1 ev.2 (fun k => by rcases h.ek with e0 | ⟨e1, _⟩ <;> omega) (fun k => h.ek.elim (fun e0 => by omega) fun z => absurd z.2 k)
  rcases o with o | o
  · rw [o.cov (asc_nodup R.aa)]
    exact two.1
  · rw [o.cov (asc_nodup R.ab)]
    exact two.2
end
theorem Remade.swap {rs : List (Int × Int)} {ns ms as bs : List Int} (h : Remade rs ns ms as bs) : Remade rs ms ns as bs := ⟨h.aa, h.ab, fun p => by have := h.cnt p; omega, h.ev⟩
end K03


set_option Elab.async false
set_option linter.all false
set_option maxRecDepth 100000
set_option maxHeartbeats 4000000
namespace K03
open PySem PySem.Spec PyProof.Rows L2
open Evl (Ex)
theorem _root_.L2.PS.nrm {X : Cx} {st : Stmt} {t : TS} (h : PS X st t) : PS X st (fun D σ H => ∃ σ', σ = σ' ∧ t D σ' H) := h.imp fun D σ H ⟨σ', e, q⟩ => by
  subst e
  exact q
section
variable {w : World} {K : PySem.W.Frag} {mg : Str → Option Value} {base : Heap}
/-- all else stands, but at D and at p -/
def Kq (D p : Addr) (H H' : Hp) : Prop := ∀ b o, b ≠ D → b ≠ p → H b = some o → H' b = some o
def spTwo : Sp := fun vs H Q _ => ∃ (D : Addr) (kd : Str) (s : Nat), vs = [.ref D, .str kd, .int s] ∧ Dr D H ∧ (kd = "join" ∨ kd = "lap") ∧ 1 ≤ s ∧ s ≤ 8 ∧ ∀ H', Q (.bl true) H'
theorem sc_two : FnScope ["_law_draws_here", "_law_kind_here", "_law_size", "_law_number", "_law_run_here", "_law_shared", "_law_copy", "_law_upper", "_law_lower", "_law_runs", "_law_market_here", "_law_one", "_law_other", "_law_higher", "_law_less", "_law_told", "_law_turned", "_law_chosen"] ["_law_draws_here", "_law_kind_here", "_law_size"] (defScope s__law_two_stocks) := ⟨rfl, rfl, rfl, by decide +kernel, rfl, by decide +kernel, by decide +kernel⟩
theorem has_two (T : Ctx K mg) : Has w K mg base CX0 "_law_two_stocks" 9 ["_law_draws_here", "_law_kind_here", "_law_size"] spTwo := by
  obtain ⟨f1, fd1, m1, kp1, F1, b1⟩ := has_take (w := w) (base := base) T
  obtain ⟨f2, fd2, m2, kp2, F2, b2⟩ := has_runD (w := w) (base := base) T
  obtain ⟨f3, fd3, m3, kp3, F3, b3⟩ := has_chain (w := w) (base := base) T
  obtain ⟨f4, fd4, m4, kp4, F4, b4⟩ := has_built (w := w) (base := base) T
  obtain ⟨f5, fd5, m5, kp5, F5, b5⟩ := has_changed (w := w) (base := base) T
  obtain ⟨f6, fd6, m6, kp6, F6, b6⟩ := has_is_stock (w := w) (base := base) T
  obtain ⟨f7, fd7, m7, kp7, F7, b7⟩ := has_remade (w := w) (base := base) T
  obtain ⟨f8, fd8, m8, kp8, F8, b8⟩ := has_right (w := w) (base := base) T
  refine has_of (st := s__law_two_stocks) (f := He.ga K "_law_two_stocks") T.d__law_two_stocks T.g__law_two_stocks (fun _ _ _ _ _ _ us hl => match us, hl with | [_, _, _], _ => rfl) fun fd F => ?_
  refine ok0 F sc_two (fun vs H Q E h => ?_) (fun cdv A0 outer s0 H vs Q E hr h => ?_)
  · obtain ⟨D, kd, s, rfl, _⟩ := h
    rfl
  · obtain ⟨D, kd, s, rfl, hD, hkd, hs1, hs8, k⟩ := h
    have nd := sc_two.nd
    have hr1 := hr.mono (show 1 ≤ 8 by decide)
    have hr2 := hr.mono (show 2 ≤ 8 by decide)
    have hr3 := hr.mono (show 3 ≤ 8 by decide)
    have hr4 := hr.mono (show 4 ≤ 8 by decide)
    have hr5 := hr.mono (show 5 ≤ 8 by decide)
    refine ⟨_, pss_cons (ps_set (i := 3) nd rfl (.inl rfl) (pe_op op_add pe_int (pe_call F1 hr1 (by rfl) m1 kp1 b1 .nil pass0 (pa_cons (pv 0) (pa_cons pe_int pa_nil)))))
      (pss_cons (ps_set (i := 4) nd rfl (.inl rfl) (pe_call F2 hr2 (by rfl) m2 kp2 b2 .nil pass0 (pa_cons (pv 0) (pa_cons (pv 2) pa_nil))))
      (pss_cons (ps_set (i := 5) nd rfl (.inl rfl) (pe_lst pa_nil))
      (pss_cons (ps_for PassesOwn.never rfl (pi_range1 (by rfl) T.b_range (pa_cons (pe_op op_sub (pv 3) pe_int) pa_nil)) (pg_name (i := 6) nd rfl (.inl rfl))
        (pss_one (ps_set (i := 5) nd rfl (.inl rfl) (pe_op op_cat (pv 5) (pe_call F3 hr2 (by rfl) m3 kp3 b3 .nil pass0 (pa_cons (pv 0) (pa_cons (pv 2) (pa_cons pe_int (pa_cons (pv 2) pa_nil)))))))))
      (pss_cons (ps_set (i := 7) nd rfl (.inl rfl) (pe_op op_cat (pe_call F3 hr2 (by rfl) m3 kp3 b3 .nil pass0 (pa_cons (pv 0) (pa_cons (pv 2) (pa_cons pe_int (pa_cons (pv 2) pa_nil))))) (pe_call F3 hr2 (by rfl) m3 kp3 b3 .nil pass0 (pa_cons (pv 0) (pa_cons (pv 2) (pa_cons (pe_ix ix_tup (pv 4) pe_int (fun _ _ => rfl)) (pa_cons (pe_ix ix_tup (pv 4) pe_int (fun _ _ => rfl)) pa_nil)))))))
      (pss_cons (ps_set (i := 8) nd rfl (.inl rfl) (pe_op op_cat (pe_call F3 hr2 (by rfl) m3 kp3 b3 .nil pass0 (pa_cons (pv 0) (pa_cons (pv 2) (pa_cons pe_int (pa_cons (pe_ix ix_tup (pv 4) pe_int (fun _ _ => rfl)) pa_nil))))) (pe_call F3 hr2 (by rfl) m3 kp3 b3 .nil pass0 (pa_cons (pv 0) (pa_cons (pv 2) (pa_cons (pe_ix ix_tup (pv 4) pe_int (fun _ _ => rfl)) (pa_cons (pv 2) pa_nil)))))))
      (pss_cons ((ps_if (PW.pt (pw_and (pt_cmpR op_eq (pv 1) pe_str (nomark _)) (pw_and1 (pt_cmpR op_eq (pe_call F1 hr1 (by rfl) m1 kp1 b1 .nil pass0 (pa_cons (pv 0) (pa_cons pe_int pa_nil))) pe_int (nomark _)))))
          (pss_one (ps_expr (pe_bm PySem.F.plainAttrs_list PySem.F.slot_list_append PySem.F.type_list_append mt_append (pv 7) (pa_cons (pe_tup (pa_cons pe_int (pa_cons (pv 2) pa_nil))) pa_nil)))) pss_nil).imp
            (t' := fun De σ H => ∃ v3 v4 v5 v6 v8 v9 vA vB vC vD vE vF vG vH p us U, σ = [some (.ref D), some (.str kd), some (.int s), v3, v4, v5, v6, some (.ref p), v8, v9, vA, vB, vC, vD, vE, vF, vG, vH] ∧ Dr D H ∧ p ≠ D ∧ H p = some (.lst us) ∧ Runs H us U ∧ U.length ≤ 900 ∧
              ∀ us' U' H', Kq D p H H' → Dr D H' → H' p = some (.lst us') → Runs H' us' U' → (U' = U ∨ (kd = "lap" ∧ U' = U ++ [(0, (s : Int))])) → De.nx [some (.ref D), some (.str kd), some (.int s), v3, v4, v5, v6, some (.ref p), v8, v9, vA, vB, vC, vD, vE, vF, vG, vH] H') ?c1)
      (pss_cons (ps_set (i := 9) nd rfl (.inl rfl) (pe_op op_cat (pe_op op_cat (pv 5) (pv 7)) (pv 8)))
      (pss_cons (PS.nrm (ps_set (i := 10) nd rfl (.inl rfl) (pe_call F4 hr (by rfl) m4 kp4 b4 .nil pass0 (pa_cons (pv 1) (pa_cons (pv 2) (pa_cons (pv 9) (pa_cons (pe_lst pa_nil) pa_nil)))))))
      (pss_cons (PS.nrm (ps_set (i := 11) nd rfl (.inl rfl) (pe_listRg rfl (by rfl) T.b_list (prg_1 (by rfl) T.b_range (pe_op op_add (pe_callB call_len_seq (by rfl) T.b_len PySem.boot_len (pa_cons (pv 5) pa_nil)) (pe_callB call_len_seq (by rfl) T.b_len PySem.boot_len (pa_cons (pv 7) pa_nil)))))))
      (pss_cons (PS.nrm (ps_set (i := 12) nd rfl (.inl rfl) (pe_op op_cat (pe_listRg rfl (by rfl) T.b_list (prg_1 (by rfl) T.b_range (pe_callB call_len_seq (by rfl) T.b_len PySem.boot_len (pa_cons (pv 5) pa_nil)))) (pe_listRg rfl (by rfl) T.b_list (prg_2 (by rfl) T.b_range (pe_op op_add (pe_callB call_len_seq (by rfl) T.b_len PySem.boot_len (pa_cons (pv 5) pa_nil)) (pe_callB call_len_seq (by rfl) T.b_len PySem.boot_len (pa_cons (pv 7) pa_nil))) (pe_callB call_len_seq (by rfl) T.b_len PySem.boot_len (pa_cons (pv 9) pa_nil)))))))
      (pss_cons (PS.nrm (ps_set (i := 13) nd rfl (.inl rfl) (pe_call F5 hr5 (by rfl) m5 kp5 b5 .nil pass0 (pa_cons (pv 10) (pa_cons (pv 3) (pa_cons (pv 4) (pa_cons pe_int pa_nil)))))))
      (pss_cons (PS.nrm (ps_set (i := 14) nd rfl (.inl rfl) (pe_call F5 hr5 (by rfl) m5 kp5 b5 .nil pass0 (pa_cons (pv 10) (pa_cons (pv 3) (pa_cons (pv 4) (pa_cons (pe_un un_neg pe_int) pa_nil)))))))
      (pss_cons (PS.nrm (ps_if (PW.pt (pw_or (pt_not (pt_val (pe_call F6 hr5 (by rfl) m6 kp6 b6 .nil pass0 (pa_cons (pv 10) (pa_cons (pv 13) (pa_cons (pv 11) pa_nil)))))) (pw_or1 (pt_not (pt_val (pe_call F6 hr5 (by rfl) m6 kp6 b6 .nil pass0 (pa_cons (pv 10) (pa_cons (pv 14) (pa_cons (pv 12) pa_nil))))))))) (pss_one (ps_ret pe_bl)) pss_nil))
      (pss_cons (PS.nrm (ps_set (i := 15) nd rfl (.inl rfl) (pe_call F7 hr4 (by rfl) m7 kp7 b7 .nil (E := E0) (pass_none rfl rfl) (pa_cons (pv 10) (pa_cons (pv 11) (pa_cons (pv 12) pa_nil))))))
      (pss_cons (PS.nrm (ps_if (pt_not (pt_val (pe_call F8 hr3 (by rfl) m8 kp8 b8 .nil pass0 (pa_cons (pv 2) (pa_cons (pv 9) (pa_cons (pv 15) (pa_cons (pv 11) (pa_cons (pv 12) pa_nil)))))))) (pss_one (ps_ret pe_bl)) pss_nil))
      (pss_cons (PS.nrm (ps_set (i := 16) nd rfl (.inl rfl) (pe_call F7 hr4 (by rfl) m7 kp7 b7 .nil (E := E0) (pass_none rfl rfl) (pa_cons (pv 10) (pa_cons (pe_callTy call_tuple_of (by rfl) T.b_tuple (by decide +kernel) (pa_cons (pv 12) pa_nil)) (pa_cons (pe_callTy call_tuple_of (by rfl) T.b_tuple (by decide +kernel) (pa_cons (pv 11) pa_nil)) pa_nil))))))
      (pss_cons (PS.nrm (ps_if (pt_not (pt_val (pe_call F8 hr3 (by rfl) m8 kp8 b8 .nil pass0 (pa_cons (pv 2) (pa_cons (pv 9) (pa_cons (pv 16) (pa_cons (pv 11) (pa_cons (pv 12) pa_nil)))))))) (pss_one (ps_ret pe_bl)) pss_nil))
      (pss_cons (PS.nrm (ps_for PassesOwn.never rfl (pi_list (pe_lst (pa_cons (pe_ix ix_tup (pv 15) pe_int (fun _ _ => rfl)) (pa_cons (pe_ix ix_tup (pv 15) pe_int (fun _ _ => rfl)) (pa_cons (pe_ix ix_tup (pv 16) pe_int (fun _ _ => rfl)) (pa_cons (pe_ix ix_tup (pv 16) pe_int (fun _ _ => rfl)) pa_nil)))))) (pg_name (i := 17) nd rfl (.inl rfl))
        (pss_one (ps_if (pt_not (pt_val (pe_call F6 hr5 (by rfl) m6 kp6 b6 .nil pass0 (pa_cons (pv 10) (pa_cons (pv 3) (pa_cons (pv 17) pa_nil)))))) (pss_one (ps_ret pe_bl)) pss_nil))))
      (pss_one (ps_ret pe_bl)))))))))))))))))))), ?_⟩
    case c1 =>
      rintro De σ H ⟨v3, v4, v5, v6, v8, v9, vA, vB, vC, vD, vE, vF, vG, vH, p, us, U, rfl, hD, hpD, hp, RU, hU, k⟩
      have hul := RU.len
      have kq0 : ∀ H1, Kp D H H1 → Kq D p H H1 := fun H1 k1 b o n1 _ h => k1 b o n1 h
      refine ⟨_, rfl, rfl, _, rfl, ?_⟩
      by_cases c : kd = "lap"
      · refine iteT' (by rw [c]; rfl) ⟨_, rfl, D, 2, rfl, hD, by decide, fun q H1 h0 h1 k1 d1 => ⟨rfl, _, rfl, ?_⟩⟩
        have hp1 := k1 _ _ hpD hp
        have R1 := k1.runs hD RU
        by_cases c2 : V.int q = V.int 1
        · refine iteT' (decide_eq_true c2) ⟨_, rfl, .inl ⟨rfl, _, SqL.of hp1⟩, _, rfl, (by show 2 ≤ sizeLine; decide), fun t ht => ⟨p, us, .ref t, rfl, rfl, (Ex.new ht) _ _ hp1, small1000 (by omega), ?_⟩⟩
          refine k _ (U ++ [(0, (s : Int))]) _ (fun b o n1 n2 h => ?_) ?_ upd_same (runs_app R1 hp1 ht) (.inr ⟨c, rfl⟩)
          · rw [upd_ne n2]
            exact (Ex.new ht) _ _ (k1 _ _ n1 h)
          · obtain ⟨ns, hns⟩ := d1
            exact ⟨ns, by rw [upd_ne (Ne.symm hpD)]; exact (Ex.new ht) _ _ hns⟩
        · exact iteF' (decide_eq_false c2) (k us U H1 (kq0 _ k1) d1 hp1 R1 (.inl rfl))
      · refine iteF' (decide_eq_false fun z => c ?_) (k us U H (fun _ _ _ _ h => h) hD hp RU (.inl rfl))
        injection z
    refine ⟨_, rfl, D, 2, rfl, hD, by decide, fun c H1 h0 h1 k1 d1 => ⟨_, _, rfl, rfl, ?_⟩⟩
    refine ⟨_, rfl, _, rfl, D, s, rfl, d1, by omega, fun t r H2 hr2' k2 d2 ht0 ht => ?_⟩
    refine ⟨(by show 0 ≤ sizeLine; decide), fun p5 hp5 => ?_⟩
    have e3 : Ex H2 (upd H2 p5 (.lst [])) := Ex.new hp5
    have ht3 := e3 _ _ ht
    have d3 := d2.ex e3
    have hp5D : p5 ≠ D := Kp.ne d2 hp5
    have hp53 : upd H2 p5 (.lst []) p5 = some (.lst []) := upd_same
    generalize upd H2 p5 (.lst []) = H3 at *
    refine ⟨_, rfl, _, _, rfl, rfl, _, rfl, ?_, ?_, for_it walk_range (fun i σ H' => ∃ (v6 : Option V) (p : Addr) (us : List V) (S : List (Int × Int)), σ = [some (.ref D), some (.str kd), some (.int s), some (.int (1 + c)), some (.ref t), some (.ref p), v6, none, none, none, none, none, none, none, none, none, none, none] ∧ Dr D H' ∧ H' t = some (.tup [.int r.1, .int r.2]) ∧ p ≠ D ∧ H' p = some (.lst us) ∧ Runs H' us S ∧ (∀ x ∈ S, Fits s x) ∧ S.length ≤ 8 * i ∧ ∀ j : Int, 0 ≤ j → j < s → cntR S j = i)
      ⟨none, p5, [], [], rfl, d3, ht3, hp5D, hp53, Runs.nil, (fun x h => nomatch h), Nat.le_refl _, fun j _ _ => rfl⟩ (fun _ _ _ _ _ => trivial) ?_ ?_⟩
    · omega
    · omega
    · rintro i v σ H4 H5 hi ⟨v6, p, us, S, rfl, d4, ht4, hpD, hp4, R4, F4, l4, c4⟩ ⟨rfl, rfl⟩
      have hi1 : i < 1 := by omega
      have hul := R4.len
      refine ⟨_, rfl, _, rfl, _, rfl, _, rfl, D, s, 0, s, rfl, d4, by omega, by omega, by omega, by omega, by omega, fun R us' rs' H6 k6 d6 hR hR6 RR C => ?_⟩
      have hul' := RR.len
      have cf := C.few
      refine ⟨p, R, us, us', rfl, rfl, k6 _ _ hpD hp4, hR6, Nat.le_trans (show us.length + us'.length ≤ 1000 by omega) (by decide), fun p' hp' => ?_⟩
      have e7 : Ex H6 (upd H6 p' (.lst (us ++ us'))) := Ex.new hp'
      refine ⟨_, p', us ++ us', S ++ rs', rfl, d6.ex e7, e7 _ _ (k6.tup d4 ht4), Kp.ne d6 hp', upd_same, ((k6.runs d4 R4).ex e7).app (RR.ex e7), fun x hx => ?_, ?_, fun j j0 j1 => ?_⟩
      · rcases List.mem_append.mp hx with hx | hx
        · exact F4 x hx
        · exact C.fit x hx
      · rw [List.length_append]
        omega
      · rw [cntR_app, c4 j j0 j1, C.cov, if_pos ⟨j0, j1⟩]
        omega
    rintro σ H4 ⟨v6, p, us, S, rfl, d4, ht4, hpD, hp4, R4, F4, l4, c4⟩
    have l4' : S.length ≤ 8 := by omega
    have c4' : ∀ j : Int, 0 ≤ j → j < s → cntR S j = c := fun j j0 j1 => by rw [c4 j j0 j1]; omega
    obtain ⟨r0, r1, r2⟩ := hr2'
    refine ⟨_, rfl, _, rfl, _, rfl, D, s, 0, s, rfl, d4, by omega, by omega, by omega, by omega, by omega, fun Ra ua qa H5 k5 d5 hRa hRa5 RRa Ca => ?_⟩
    have ht5 := k5.tup d4 ht4
    have hRaD : Ra ≠ D := Kp.ne d4 hRa
    refine ⟨_, rfl, _, rfl, _, rfl, t, _, 0, _, rfl, rfl, SqT.of ht5, atI_nat (j := 0) rfl, _, rfl, t, _, 1, _, rfl, rfl, SqT.of ht5, atI_nat (j := 1) rfl, D, s, r.1, r.2, rfl, d5, by omega, by omega, by omega, by omega, by omega, fun Rb ub qb H6 k6 d6 hRb hRb6 RRb Cb => ?_⟩
    have la := RRa.len
    have lb := RRb.len
    have fa := Ca.few
    have fb := Cb.few
    refine ⟨Ra, Rb, ua, ub, rfl, rfl, k6 _ _ hRaD hRa5, hRb6, Nat.le_trans (show ua.length + ub.length ≤ 1000 by omega) (by decide), fun p7 hp7 => ?_⟩
    have e7 : Ex H6 (upd H6 p7 (.lst (ua ++ ub))) := Ex.new hp7
    have hp7l : upd H6 p7 (.lst (ua ++ ub)) p7 = some (.lst (ua ++ ub)) := upd_same
    have hp7D : p7 ≠ D := Kp.ne d6 hp7
    have d7 := d6.ex e7
    have k47 : Kp D H4 (upd H6 p7 (.lst (ua ++ ub))) := (k5.trans k6).trans (Kp.of e7)
    have RU7 := ((k6.runs d5 RRa).ex e7).app (RRb.ex e7)
    have p7p : p7 ≠ p := fun z => by
      have := (k5.trans k6) _ _ hpD hp4
      rw [← z, hp7] at this
      cases this
    generalize upd H6 p7 (.lst (ua ++ ub)) = H7 at *
    have ht7 := k47.tup d4 ht4
    refine ⟨_, rfl, _, rfl, _, rfl, t, _, 0, _, rfl, rfl, SqT.of ht7, atI_nat (j := 0) rfl, D, s, 0, r.1, rfl, d7, by omega, by omega, by omega, by omega, by omega, fun Rc uc qc H8 k8 d8 hRc hRc8 RRc Cc => ?_⟩
    have ht8 := k8.tup d7 ht7
    have hRcD : Rc ≠ D := Kp.ne d7 hRc
    refine ⟨_, rfl, _, rfl, _, rfl, t, _, 1, _, rfl, rfl, SqT.of ht8, atI_nat (j := 1) rfl, _, rfl, D, s, r.2, s, rfl, d8, by omega, by omega, by omega, by omega, by omega, fun Rd ud qd H9 k9 d9 hRd hRd9 RRd Cd => ?_⟩
    have lc := RRc.len
    have ld := RRd.len
    have fc := Cc.few
    have fd' := Cd.few
    refine ⟨Rc, Rd, uc, ud, rfl, rfl, k9 _ _ hRcD hRc8, hRd9, Nat.le_trans (show uc.length + ud.length ≤ 1000 by omega) (by decide), fun p8 hp8 => ?_⟩
    have e10 : Ex H9 (upd H9 p8 (.lst (uc ++ ud))) := Ex.new hp8
    have hp8l : upd H9 p8 (.lst (uc ++ ud)) p8 = some (.lst (uc ++ ud)) := upd_same
    have hp8D : p8 ≠ D := Kp.ne d9 hp8
    have d10 := d9.ex e10
    have k710 : Kp D H7 (upd H9 p8 (.lst (uc ++ ud))) := (k8.trans k9).trans (Kp.of e10)
    have RL10 := ((k9.runs d8 RRc).ex e10).app (RRd.ex e10)
    have p78 : p7 ≠ p8 := fun z => by
      have := (k8.trans k9) _ _ hp7D hp7l
      rw [z, hp8] at this
      cases this
    generalize upd H9 p8 (.lst (uc ++ ud)) = H10 at *
    have hp710 := k710 _ _ hp7D hp7l
    have ht10 := k710.tup d7 ht7
    have hp10 := (k47.trans k710) _ _ hpD hp4
    have R10 := (k47.trans k710).runs d4 R4
    refine ⟨_, _, _, _, _, _, _, _, _, _, _, _, _, _, p7, ua ++ ub, qa ++ qb, rfl, d10, hp7D, hp710, k710.runs d7 RU7, (by rw [List.length_append]; omega), fun u7 U H11 kq d11 hp711 RU11 hU => ?_⟩
    have ht11 : H11 t = some (.tup [.int r.1, .int r.2]) := kq _ _ (d10.elim fun _ z => ne_of ht10 z (by intro y; cases y)) (ne_of ht10 hp710 (by intro y; cases y)) ht10
    have hp11 := kq _ _ hpD (Ne.symm p7p) hp10
    have hp811 := kq _ _ hp8D (Ne.symm p78) hp8l
    have keepR : ∀ {us : List V} {rs : List (Int × Int)}, Runs H10 us rs → Runs H11 us rs := fun h => h.mono fun x xs hx => kq _ _ (d10.elim fun _ z => ne_of hx z (by intro y; cases y)) (ne_of hx hp710 (by intro y; cases y)) hx
    have R11 := keepR R10
    have RL11 := keepR RL10
    have two : ∃ e : Int, Two kd s c e r S U (qc ++ qd) := by
      have cu : ∀ j : Int, 0 ≤ j → j < s → cntR (qa ++ qb) j = 1 + inR r j := fun j j0 j1 => by
        rw [cntR_app, Ca.cov, Cb.cov, if_pos ⟨j0, j1⟩]
        rfl
      have cl : ∀ j : Int, 0 ≤ j → j < s → cntR (qc ++ qd) j = 1 - inR r j := fun j j0 j1 => by
        rw [cntR_app, Cc.cov, Cd.cov]
        unfold inR
        split <;> split <;> split <;> omega
      rcases hU with rfl | ⟨hk, rfl⟩
      · exact ⟨0, c4', fun j j0 j1 => by rw [cu j j0 j1]; omega, cl, .inl rfl⟩
      · refine ⟨1, c4', fun j j0 j1 => ?_, cl, .inr ⟨rfl, hk⟩⟩
        rw [cntR_app, cu j j0 j1, cntR_one, if_pos ⟨j0, j1⟩]
    obtain ⟨e, two⟩ := two
    have fitU : ∀ x ∈ U, Fits s x := by
      have f0 : ∀ x ∈ qa ++ qb, Fits s x := fun x hx => (List.mem_append.mp hx).elim (Ca.fit x) (Cb.fit x)
      rcases hU with rfl | ⟨_, rfl⟩
      · exact f0
      · intro x hx
        rcases List.mem_append.mp hx with hx | hx
        · exact f0 x hx
        · rw [List.mem_singleton.mp hx]
          exact ⟨Int.le_refl _, (by show (0 : Int) < s; omega), Int.le_refl _⟩
    have lenU : U.length ≤ 17 := by
      rcases hU with rfl | ⟨_, rfl⟩
      · rw [List.length_append]; omega
      · rw [List.length_append, List.length_append, List.length_singleton]; omega
    have fitL : ∀ x ∈ qc ++ qd, Fits s x := fun x hx => (List.mem_append.mp hx).elim (Cc.fit x) (Cd.fit x)
    have lenL : (qc ++ qd).length ≤ 8 := by rw [List.length_append]; omega
    generalize qc ++ qd = L at *
    generalize uc ++ ud = ul at *
    clear k47 k710 kq keepR hU hp7l hp8l hp10 R10 RL10 RU7 hp710 ht10 ht8 ht7 ht5 hRa5 RRa Ca hRb6 RRb Cb hRc8 RRc Cc hRd9 RRd Cd fa fb fc fd' la lb lc ld
    have lS := R11.len
    have lU := RU11.len
    have lL := RL11.len
    refine ⟨_, rfl, _, rfl, p, p7, us, u7, rfl, rfl, hp11, hp711, Nat.le_trans (show us.length + u7.length ≤ 1000 by omega) (by decide), fun q hq => ?_⟩
    have e12 : Ex H11 (upd H11 q (.lst (us ++ u7))) := Ex.new hq
    refine ⟨_, rfl, q, p8, _, ul, rfl, rfl, upd_same, e12 _ _ hp811, Nat.le_trans (show (us ++ u7).length + ul.length ≤ 1000 by rw [List.length_append]; omega) (by decide), fun p9 hp9 => ?_⟩
    have e13 := e12.trans (Ex.new (o := .lst (us ++ u7 ++ ul)) hp9)
    have hp9l : upd (upd H11 q (.lst (us ++ u7))) p9 (.lst (us ++ u7 ++ ul)) p9 = some (.lst (us ++ u7 ++ ul)) := upd_same
    generalize upd (upd H11 q (.lst (us ++ u7))) p9 (.lst (us ++ u7 ++ ul)) = H13 at *
    have RR := ((R11.app RU11).app RL11).ex e13
    have hp := e13 _ _ hp11
    have hp7' := e13 _ _ hp711
    have ht' := e13 _ _ ht11
    have fitA : ∀ x ∈ S ++ U ++ L, Fits s x := fun x hx => by
      rcases List.mem_append.mp hx with hx | hx
      · exact (List.mem_append.mp hx).elim (F4 x) (fitU x)
      · exact fitL x hx
    have lenA : (us ++ u7 ++ ul).length = S.length + U.length + L.length := by rw [List.length_append, List.length_append]; omega
    clear e12 e13 R11 RU11 RL11 hp11 hp711 hp811 ht11 d11 fitU fitL
    generalize huu : us ++ u7 ++ ul = uu at *
    refine ⟨[some (.ref D), some (.str kd), some (.int s), some (.int (1 + c)), some (.ref t), some (.ref p), v6, some (.ref p7), some (.ref p8), some (.ref p9), none, none, none, none, none, none, none, none], rfl, ?_⟩
    refine ⟨_, rfl, _, rfl, _, rfl, (by show 0 ≤ sizeLine; decide), fun g hg => ?_⟩
    have e14 : Ex H13 (upd H13 g (.lst [])) := Ex.new hg
    refine ⟨kd, s, p9, g, uu, S ++ U ++ L, [], rfl, hkd, ⟨e14 _ _ hp9l, RR.ex e14, fitA, by omega, upd_same, List.Pairwise.nil, (fun n h => nomatch h), ⟨by omega, by omega⟩⟩, fun x H15 e15 hx M => ?_⟩
    have eB := e14.trans e15
    have hp' := eB _ _ hp
    have hp7'' := eB _ _ hp7'
    have ht'' := eB _ _ ht'
    have hp9' := eB _ _ hp9l
    have RR' := RR.ex eB
    clear e14 e15 eB hp hp7' ht' hp9l RR
    refine ⟨[some (.ref D), some (.str kd), some (.int s), some (.int (1 + c)), some (.ref t), some (.ref p), v6, some (.ref p7), some (.ref p8), some (.ref p9), some (.ref x), none, none, none, none, none, none, none], rfl, ?_⟩
    refine ⟨_, rfl, p, _, rfl, .inl (SqL.of hp'), _, rfl, p7, _, rfl, .inl (SqL.of hp7''), _, _, rfl, rfl, _, rfl, RgOk.of_le (by omega) (by omega) (by omega) (by omega), fun A hA => ?_⟩
    have hone : rgV 0 ((us.length : Int) + u7.length) = (oneOf S.length U.length).map V.int := by rw [rgV_ran, lS, lU]; rfl
    show gName 11 (.ref A) _ (upd H15 A (.lst (rgV 0 ((us.length : Int) + u7.length)))) _
    rw [hone]
    have e16 : Ex H15 (upd H15 A (.lst ((oneOf S.length U.length).map V.int))) := Ex.new hA
    have hA16 : upd H15 A (.lst ((oneOf S.length U.length).map V.int)) A = some (.lst ((oneOf S.length U.length).map V.int)) := upd_same
    generalize upd H15 A (.lst ((oneOf S.length U.length).map V.int)) = H16 at *
    refine ⟨[some (.ref D), some (.str kd), some (.int s), some (.int (1 + c)), some (.ref t), some (.ref p), v6, some (.ref p7), some (.ref p8), some (.ref p9), some (.ref x), some (.ref A), none, none, none, none, none, none], rfl, ?_⟩
    refine ⟨_, rfl, p, _, rfl, .inl (SqL.of (e16 _ _ hp')), _, rfl, RgOk.of_le (by omega) (by omega) (by omega) (by omega), fun q1 hq1 => ?_⟩
    have e17 := e16.trans (Ex.new (o := .lst (rgV 0 (us.length : Int))) hq1)
    refine ⟨_, rfl, p, _, rfl, .inl (SqL.of (e17 _ _ hp')), _, rfl, p7, _, rfl, .inl (SqL.of (e17 _ _ hp7'')), _, _, rfl, rfl, _, rfl, p9, _, rfl, .inl (SqL.of (e17 _ _ hp9')), _, _, rfl, rfl, RgOk.of_le (by omega) (by omega) (by omega) (by omega), fun q2 hq2 => ?_⟩
    have e18 := e17.trans (Ex.new (o := .lst (rgV ((us.length : Int) + u7.length) (uu.length : Int))) hq2)
    have h1 := (Ex.new (o := .lst (rgV ((us.length : Int) + u7.length) (uu.length : Int))) hq2) q1 _ upd_same
    refine ⟨q1, q2, _, _, rfl, rfl, h1, upd_same, Nat.le_trans (show (rgV 0 (us.length : Int)).length + (rgV ((us.length : Int) + u7.length) (uu.length : Int)).length ≤ 1000 by rw [rgV_length, rgV_length]; omega) (by decide), fun B hB => ?_⟩
    have e19 := e18.trans (Ex.new (o := .lst (rgV 0 (us.length : Int) ++ rgV ((us.length : Int) + u7.length) (uu.length : Int))) hB)
    have hoth : rgV 0 (us.length : Int) ++ rgV ((us.length : Int) + u7.length) (uu.length : Int) = (otherOf S.length U.length L.length).map V.int := by
      rw [rgV_ran, rgV_ran, lS, lU, lenA, ← List.map_append, Int.natCast_add, Int.natCast_add]
      rfl
    have hB19 : upd (upd (upd H16 q1 (.lst (rgV 0 (us.length : Int)))) q2 (.lst (rgV ((us.length : Int) + u7.length) (uu.length : Int)))) B (.lst (rgV 0 (us.length : Int) ++ rgV ((us.length : Int) + u7.length) (uu.length : Int))) B = some (.lst ((otherOf S.length U.length L.length).map V.int)) := by rw [upd_same, hoth]
    have hA19 := (((Ex.new (o := .lst (rgV 0 (us.length : Int))) hq1).trans (Ex.new (o := .lst (rgV ((us.length : Int) + u7.length) (uu.length : Int))) hq2)).trans (Ex.new (o := .lst (rgV 0 (us.length : Int) ++ rgV ((us.length : Int) + u7.length) (uu.length : Int))) hB)) _ _ hA16
    generalize upd (upd (upd H16 q1 (.lst (rgV 0 (us.length : Int)))) q2 (.lst (rgV ((us.length : Int) + u7.length) (uu.length : Int)))) B (.lst (rgV 0 (us.length : Int) ++ rgV ((us.length : Int) + u7.length) (uu.length : Int))) = H19 at *
    have M19 := M.ex e19
    have ht19 := e19 _ _ ht''
    have hp19 := e19 _ _ hp9'
    have RR19 := RR'.ex e19
    clear e16 e17 e18 e19 h1 hA16 M ht'' hp9' RR' hp' hp7'' hone hoth
    have hrr : (S ++ U ++ L).length = S.length + U.length + L.length := by rw [List.length_append, List.length_append]
    have innA : ∀ n ∈ oneOf S.length U.length, 0 ≤ n ∧ n < ((S ++ U ++ L).length : Nat) := fun n h => by have := one_mem h; omega
    have innB : ∀ n ∈ otherOf S.length U.length L.length, 0 ≤ n ∧ n < ((S ++ U ++ L).length : Nat) := fun n h => by have := other_mem h; omega
    have lA := one_len S.length U.length
    have lB := other_len S.length U.length L.length
    have nA := asc_nodup (one_asc S.length U.length)
    have nB := asc_nodup (other_asc S.length U.length L.length)
    have PA : Parts (uu.length : Nat) (oneOf S.length U.length) := ⟨nA, fun n h => by have := innA n h; omega, by omega⟩
    have PB : Parts (uu.length : Nat) (otherOf S.length U.length L.length) := ⟨nB, fun n h => by have := innB n h; omega, by omega⟩
    have hi := fun ms (o : Ord (oneOf S.length U.length) ms) => two.hi o
    have lo := fun ms (o : Ord (otherOf S.length U.length L.length) ms) => two.lo o
    have mid := fun as bs ms (R : Remade (S ++ U ++ L) (oneOf S.length U.length) (otherOf S.length U.length L.length) as bs) (o : Ord as ms ∨ Ord bs ms) => two.mid R o
    clear two
    generalize oneOf S.length U.length = AA at *
    generalize otherOf S.length U.length L.length = BB at *
    have hm41 : uu.length ≤ 41 := by omega
    have hsum : AA.length + BB.length < 60 := by omega
    have hru := RR19.len
    clear c4' l4' F4 lenA lenU lenL lS lU lL lA lB
    generalize S ++ U ++ L = rr at *
    have hs50 : s ≤ 50 := by omega
    have PO : ∀ {as bs : List Int}, Remade rr AA BB as bs → Parts (uu.length : Nat) as ∧ Parts (uu.length : Nat) bs := fun {as bs} R => by
      obtain ⟨ia, ib⟩ := R.inn innA innB
      have l1 := asc_few R.aa ia (by omega)
      have l2 := asc_few R.ab ib (by omega)
      exact ⟨⟨asc_nodup R.aa, fun n h => by have := ia n h; omega, by omega⟩, ⟨asc_nodup R.ab, fun n h => by have := ib n h; omega, by omega⟩⟩
    refine ⟨[some (.ref D), some (.str kd), some (.int s), some (.int (1 + c)), some (.ref t), some (.ref p), v6, some (.ref p7), some (.ref p8), some (.ref p9), some (.ref x), some (.ref A), some (.ref B), none, none, none, none, none], rfl, ?_⟩
    refine ⟨_, rfl, _, rfl, _, rfl, x, t, kd, s, uu, rr, [], .int (1 + c), List.replicate s (1 + c), r, 1, rfl, M19, hs50, .inl ⟨_, rfl, rfl⟩, ht19, ⟨r0, r1, r2⟩, fun H20 q13 e20 hq13 hl13 => ?_⟩
    refine ⟨[some (.ref D), some (.str kd), some (.int s), some (.int (1 + c)), some (.ref t), some (.ref p), v6, some (.ref p7), some (.ref p8), some (.ref p9), some (.ref x), some (.ref A), some (.ref B), some (.ref q13), none, none, none, none], rfl, ?_⟩
    refine ⟨_, rfl, _, rfl, _, rfl, _, rfl, x, t, kd, s, uu, rr, [], .int (1 + c), List.replicate s (1 + c), r, -1, rfl, M19.ex e20, hs50, .inl ⟨_, rfl, rfl⟩, e20 _ _ ht19, ⟨r0, r1, r2⟩, fun H21 q14 e21 hq14 hl14 => ?_⟩
    have e22 := e20.trans e21
    have M21 := M19.ex e22
    have hA21 := e22 _ _ hA19
    have hB21 := e22 _ _ hB19
    have hp21 := e22 _ _ hp19
    have RR21 := RR19.ex e22
    have hl13' := e21 _ _ hl13
    clear e20 e21 e22 M19 hA19 hB19 hp19 RR19 ht19 hl13
    refine ⟨[some (.ref D), some (.str kd), some (.int s), some (.int (1 + c)), some (.ref t), some (.ref p), v6, some (.ref p7), some (.ref p8), some (.ref p9), some (.ref x), some (.ref A), some (.ref B), some (.ref q13), some (.ref q14), none, none, none], rfl, ?_⟩
    refine ⟨_, rfl, _, rfl, _, rfl, x, kd, s, uu, rr, [], _, AA, _, _, rfl, M21, hs50, fitA, .inr ⟨⟨q13, rfl, .inr hl13'⟩, shift_len⟩, ⟨A, rfl, .inl hA21⟩, PA, fun ms H22 o e22 => ⟨_, rfl, ?_⟩⟩
    rw [hi ms o]
    refine iteF ?_
    refine ⟨_, rfl, _, rfl, _, rfl, x, kd, s, uu, rr, [], _, BB, _, _, rfl, M21.ex e22, hs50, fitA, .inr ⟨⟨q14, rfl, .inr (e22 _ _ hl14)⟩, shift_len⟩, ⟨B, rfl, .inl (e22 _ _ hB21)⟩, PB, fun ms2 H23 o2 e23 => ⟨_, rfl, ?_⟩⟩
    rw [lo ms2 o2]
    refine iteF ?_
    have e24 := e22.trans e23
    have M23 := M21.ex e24
    have hA23 := e24 _ _ hA21
    have hB23 := e24 _ _ hB21
    have hp23 := e24 _ _ hp21
    have RR23 := RR21.ex e24
    clear e22 e23 e24 M21 hA21 hB21 hp21 RR21 hl13' hl14 o o2
    refine ⟨[some (.ref D), some (.str kd), some (.int s), some (.int (1 + c)), some (.ref t), some (.ref p), v6, some (.ref p7), some (.ref p8), some (.ref p9), some (.ref x), some (.ref A), some (.ref B), some (.ref q13), some (.ref q14), none, none, none], rfl, ?_⟩
    refine ⟨_, rfl, _, rfl, _, rfl, x, kd, s, uu, rr, [], _, _, rfl, M23, fitA, by omega, .inl ⟨AA, BB, ⟨A, rfl, .inl hA23⟩, PA, ⟨B, rfl, .inl hB23⟩, PB, hsum, fun as bs H24 q15 qa1 qb1 Rm1 e24 h15 ha1 hb1 => ?_⟩⟩
    refine ⟨[some (.ref D), some (.str kd), some (.int s), some (.int (1 + c)), some (.ref t), some (.ref p), v6, some (.ref p7), some (.ref p8), some (.ref p9), some (.ref x), some (.ref A), some (.ref B), some (.ref q13), some (.ref q14), some (.ref q15), none, none], rfl, ?_⟩
    refine ⟨_, rfl, _, rfl, _, rfl, _, rfl, _, rfl, s, p9, q15, A, B, qa1, qb1, uu, rr, AA, BB, as, bs, rfl, hs50, e24 _ _ hp23, RR23.ex e24, fitA, by omega, h15, ha1, hb1, e24 _ _ hA23, e24 _ _ hB23, innA, innB, Rm1, fun H25 e25 => ⟨true, rfl, iteF ?_⟩⟩
    refine ⟨[some (.ref D), some (.str kd), some (.int s), some (.int (1 + c)), some (.ref t), some (.ref p), v6, some (.ref p7), some (.ref p8), some (.ref p9), some (.ref x), some (.ref A), some (.ref B), some (.ref q13), some (.ref q14), some (.ref q15), none, none], rfl, ?_⟩
    have e26 := e24.trans e25
    refine ⟨_, rfl, _, rfl, B, _, rfl, .inl ⟨SqL.of (e26 _ _ hB23), fun tb htb => ?_⟩⟩
    have e27 := e26.trans (Ex.new (o := .tup (BB.map V.int)) htb)
    have htb1 : upd H25 tb (.tup (BB.map V.int)) tb = some (.tup (BB.map V.int)) := upd_same
    have e25b := e25.trans (Ex.new (o := .tup (BB.map V.int)) htb)
    generalize upd H25 tb (.tup (BB.map V.int)) = H26 at *
    refine ⟨_, rfl, A, _, rfl, .inl ⟨SqL.of (e27 _ _ hA23), fun ta hta => ?_⟩⟩
    have e28 := e27.trans (Ex.new (o := .tup (AA.map V.int)) hta)
    have e25c := e25b.trans (Ex.new (o := .tup (AA.map V.int)) hta)
    have hta1 : upd H26 ta (.tup (AA.map V.int)) ta = some (.tup (AA.map V.int)) := upd_same
    have htb2 : upd H26 ta (.tup (AA.map V.int)) tb = some (.tup (BB.map V.int)) := (Ex.new (o := .tup (AA.map V.int)) hta) _ _ htb1
    generalize upd H26 ta (.tup (AA.map V.int)) = H27 at *
    refine ⟨x, kd, s, uu, rr, [], _, _, rfl, M23.ex e28, fitA, by omega, .inl ⟨BB, AA, ⟨tb, rfl, .inr htb2⟩, PB, ⟨ta, rfl, .inr hta1⟩, PA, by omega, fun cs ds H28 q16 qa2 qb2 Rm2 e29 h16 ha2 hb2 => ?_⟩⟩
    have e30 := e28.trans e29
    have e31 := e25c.trans e29
    refine ⟨[some (.ref D), some (.str kd), some (.int s), some (.int (1 + c)), some (.ref t), some (.ref p), v6, some (.ref p7), some (.ref p8), some (.ref p9), some (.ref x), some (.ref A), some (.ref B), some (.ref q13), some (.ref q14), some (.ref q15), some (.ref q16), none], rfl, ?_⟩
    refine ⟨_, rfl, _, rfl, _, rfl, _, rfl, _, rfl, s, p9, q16, A, B, qa2, qb2, uu, rr, AA, BB, cs, ds, rfl, hs50, e30 _ _ hp23, RR23.ex e30, fitA, by omega, h16, ha2, hb2, e30 _ _ hA23, e30 _ _ hB23, innA, innB, Rm2.swap, fun H29 e32 => ⟨true, rfl, iteF ?_⟩⟩
    have e33 := e30.trans e32
    have e34 := e31.trans e32
    refine ⟨[some (.ref D), some (.str kd), some (.int s), some (.int (1 + c)), some (.ref t), some (.ref p), v6, some (.ref p7), some (.ref p8), some (.ref p9), some (.ref x), some (.ref A), some (.ref B), some (.ref q13), some (.ref q14), some (.ref q15), some (.ref q16), none], rfl, ?_⟩
    refine ⟨_, rfl, q15, _, 0, _, rfl, rfl, SqT.of (e34 _ _ h15), atI_nat (j := 0) rfl, _, rfl, q15, _, 1, _, rfl, rfl, SqT.of (e34 _ _ h15), atI_nat (j := 1) rfl, _, rfl, q16, _, 0, _, rfl, rfl, SqT.of (e32 _ _ h16), atI_nat (j := 0) rfl, _, rfl, q16, _, 1, _, rfl, rfl, SqT.of (e32 _ _ h16), atI_nat (j := 1) rfl, (by show 4 ≤ sizeLine; decide), fun l hl => ?_⟩
    have e35 : Ex H29 (upd H29 l (.lst [V.ref qa1, V.ref qb1, V.ref qa2, V.ref qb2])) := Ex.new hl
    have hl1 : upd H29 l (.lst [V.ref qa1, V.ref qb1, V.ref qa2, V.ref qb2]) l = some (.lst [V.ref qa1, V.ref qb1, V.ref qa2, V.ref qb2]) := upd_same
    have M30 := M23.ex (e33.trans e35)
    have z1 := (e34.trans e35) _ _ ha1
    have z2 := (e34.trans e35) _ _ hb1
    have z3 := (e32.trans e35) _ _ ha2
    have z4 := (e32.trans e35) _ _ hb2
    generalize upd H29 l (.lst [V.ref qa1, V.ref qb1, V.ref qa2, V.ref qb2]) = H30 at *
    refine ⟨l, rfl, ⟨_, SqL.of hl1⟩, for_it walk_list (fun i σ H' => ∃ v17 : Option V, σ = [some (.ref D), some (.str kd), some (.int s), some (.int (1 + c)), some (.ref t), some (.ref p), v6, some (.ref p7), some (.ref p8), some (.ref p9), some (.ref x), some (.ref A), some (.ref B), some (.ref q13), some (.ref q14), some (.ref q15), some (.ref q16), v17] ∧ Ex H30 H') ⟨_, rfl, fun _ _ h => h⟩ (fun i σ H' _ ⟨_, _, e⟩ => SqL.of (e _ _ hl1)) ?_ ?_⟩
    · rintro i v σ H31 H32 hi ⟨v17, rfl, e36⟩ ⟨rfl, hv⟩
      have one : ∀ (a : Addr) (ps : List Int), v = .ref a → H30 a = some (.tup (ps.map V.int)) → Parts (uu.length : Nat) ps → (∀ ms, Ord ps ms → stockB kd s rr [] (List.replicate s (1 + c)) ms = true) → RowI H30 v ps ∧ Parts (uu.length : Nat) ps ∧ (∀ ms, Ord ps ms → stockB kd s rr [] (List.replicate s (1 + c)) ms = true) := fun a ps e h P z => ⟨⟨a, e, .inr h⟩, P, z⟩
      have fin : ∃ ps, RowI H30 v ps ∧ Parts (uu.length : Nat) ps ∧ (∀ ms, Ord ps ms → stockB kd s rr [] (List.replicate s (1 + c)) ms = true) := by
        have hv2 : [V.ref qa1, V.ref qb1, V.ref qa2, V.ref qb2][i]? = some v := hv
        match i, hv2 with
        | 0, h => exact ⟨as, one qa1 as (Option.some.inj h).symm z1 (PO Rm1).1 fun ms o => mid as bs ms Rm1 (.inl o)⟩
        | 1, h => exact ⟨bs, one qb1 bs (Option.some.inj h).symm z2 (PO Rm1).2 fun ms o => mid as bs ms Rm1 (.inr o)⟩
        | 2, h => exact ⟨cs, one qa2 cs (Option.some.inj h).symm z3 (PO Rm2.swap).1 fun ms o => mid cs ds ms Rm2.swap (.inl o)⟩
        | 3, h => exact ⟨ds, one qb2 ds (Option.some.inj h).symm z4 (PO Rm2.swap).2 fun ms o => mid cs ds ms Rm2.swap (.inr o)⟩
        | n + 4, h => exact nomatch h
      obtain ⟨ps, hrow, hP, hst⟩ := fin
      refine ⟨_, rfl, _, rfl, _, rfl, x, kd, s, uu, rr, [], List.replicate s (1 + c), ps, _, _, rfl, M30.ex e36, hs50, fitA, .inl ⟨_, rfl, rfl⟩, hrow.ex e36, hP, fun ms H33 o e37 => ⟨_, rfl, ?_⟩⟩
      rw [hst ms o]
      exact iteF ⟨_, rfl, e36.trans e37⟩
    · rintro σ H31 ⟨v17, rfl, e36⟩
      exact k _
end
end K03


set_option Elab.async false
set_option linter.all false
set_option maxRecDepth 100000
set_option maxHeartbeats 4000000
namespace K03
open PySem PySem.Spec PyProof.Rows L2
open Evl (Ex)
theorem eqvAll_map {α : Type} [DecidableEq α] (f : α → PyData) (hf : ∀ a b, PyData.eqv (f a) (f b) = decide (a = b)) : ∀ xs ys : List α, PyData.eqvAll (xs.map f) (ys.map f) = decide (xs = ys)
  | [], [] => rfl
  | [], y :: ys => by simp [PyData.eqvAll]
  | x :: xs, [] => by simp [PyData.eqvAll]
  | x :: xs, y :: ys => by
    rw [List.map_cons, List.map_cons, PyData.eqvAll, hf, eqvAll_map f hf xs ys]
    by_cases h1 : x = y <;> by_cases h2 : xs = ys <;> simp [h1, h2]
theorem canLayAll_map {α : Type} (f : α → PyData) (hf : ∀ a, (f a).canLay0 = true) : ∀ xs : List α, PyData.canLayAll0 (xs.map f) = true
  | [] => by simp [PyData.canLayAll0]
  | x :: xs => by
    rw [List.map_cons, PyData.canLayAll0, hf, canLayAll_map f hf xs]
    rfl
theorem depthAll_map {α : Type} (f : α → PyData) (k : Nat) (hf : ∀ a, (f a).depth ≤ k) : ∀ xs : List α, PyData.depthAll (xs.map f) ≤ k
  | [] => by simp [PyData.depthAll]
  | x :: xs => by
    rw [List.map_cons, PyData.depthAll]
    have := hf x
    have := depthAll_map f k hf xs
    omega
theorem eqv_int (a b : Int) : PyData.eqv (.int a) (.int b) = decide (a = b) := by
  rw [PyData.eqv]
  by_cases h : a = b <;> simp [h]
theorem dp_ints {K : PySem.W.Frag} {H : Hp} : ∀ ns : List Int, DpAll K H (ns.map V.int) (ns.map PyData.int)
  | [] => .nil
  | n :: ns => .cons (.int n) (dp_ints ns)
def ilD (ns : List Int) : PyData := .list (ns.map PyData.int)
def itD (ns : List Int) : PyData := .tuple (ns.map PyData.int)
theorem eqv_il (a : List Int) : PyData.eqv (ilD a) (ilD a) = true := by
  unfold ilD
  rw [PyData.eqv, eqvAll_map PyData.int eqv_int]
  simp
theorem eqv_it (a : List Int) : PyData.eqv (itD a) (itD a) = true := by
  unfold itD
  rw [PyData.eqv, eqvAll_map PyData.int eqv_int]
  simp
def llD (a b : List Int) : PyData := .list [ilD a, ilD b]
def ttD (a b : List Int) : PyData := .tuple [itD a, itD b]
def nbD (n : Int) (b : Bool) : PyData := .list [.int n, .bool b]
theorem eqv_ll (a b : List Int) : PyData.eqv (llD a b) (llD a b) = true := by
  unfold llD
  rw [PyData.eqv, PyData.eqvAll, PyData.eqvAll, PyData.eqvAll, eqv_il, eqv_il]
  rfl
theorem eqv_tt (a b : List Int) : PyData.eqv (ttD a b) (ttD a b) = true := by
  unfold ttD
  rw [PyData.eqv, PyData.eqvAll, PyData.eqvAll, PyData.eqvAll, eqv_it, eqv_it]
  rfl
theorem eqv_nb (n : Int) (b : Bool) : PyData.eqv (nbD n b) (nbD n b) = true := by
  unfold nbD
  rw [PyData.eqv, PyData.eqvAll, PyData.eqvAll, PyData.eqvAll, eqv_int]
  cases b <;> simp [PyData.eqv]
theorem shaped_ll (a b : List Int) : SeqAt.shaped (llD a b) = true := by
  have h1 := fun c : List Int => canLayAll_map PyData.int (fun _ => by simp [PyData.canLay0]) c
  have d1 := depthAll_map PyData.int 0 (fun _ => by simp [PyData.depth]) a
  have d2 := depthAll_map PyData.int 0 (fun _ => by simp [PyData.depth]) b
  unfold SeqAt.shaped llD ilD
  simp only [PyData.canLay0, PyData.canLayAll0, h1, PyData.depth, PyData.depthAll]
  simp; omega
theorem shaped_tt (a b : List Int) : SeqAt.shaped (ttD a b) = true := by
  have h1 := fun c : List Int => canLayAll_map PyData.int (fun _ => by simp [PyData.canLay0]) c
  have d1 := depthAll_map PyData.int 0 (fun _ => by simp [PyData.depth]) a
  have d2 := depthAll_map PyData.int 0 (fun _ => by simp [PyData.depth]) b
  unfold SeqAt.shaped ttD itD
  simp only [PyData.canLay0, PyData.canLayAll0, h1, PyData.depth, PyData.depthAll]
  simp; omega
theorem shaped_nb (n : Int) (b : Bool) : SeqAt.shaped (nbD n b) = true := by
  unfold SeqAt.shaped nbD
  simp [PyData.canLay0, PyData.canLayAll0, PyData.depth, PyData.depthAll]
theorem dp_il {K : PySem.W.Frag} {H : Hp} {p : Addr} {ns : List Int} (hp : H p = some (.lst (ns.map V.int))) : Dp K H (.ref p) (ilD ns) := .lst (SqL.of hp) (dp_ints ns)
theorem dp_it {K : PySem.W.Frag} {H : Hp} {p : Addr} {ns : List Int} (hp : H p = some (.tup (ns.map V.int))) : Dp K H (.ref p) (itD ns) := .tup (SqT.of hp) (dp_ints ns)
theorem dp_ll {K : PySem.W.Frag} {H : Hp} {l p q : Addr} {a b : List Int} (hl : H l = some (.lst [.ref p, .ref q])) (hp : H p = some (.lst (a.map V.int))) (hq : H q = some (.lst (b.map V.int))) : Dp K H (.ref l) (llD a b) := .lst (SqL.of hl) (.cons (dp_il hp) (.cons (dp_il hq) .nil))
theorem dp_tt {K : PySem.W.Frag} {H : Hp} {l p q : Addr} {a b : List Int} (hl : H l = some (.tup [.ref p, .ref q])) (hp : H p = some (.tup (a.map V.int))) (hq : H q = some (.tup (b.map V.int))) : Dp K H (.ref l) (ttD a b) := .tup (SqT.of hl) (.cons (dp_it hp) (.cons (dp_it hq) .nil))
theorem dp_nb {K : PySem.W.Frag} {H : Hp} {l : Addr} {n : Int} {b : Bool} (hl : H l = some (.lst [.int n, .bl b])) : Dp K H (.ref l) (nbD n b) := .lst (SqL.of hl) (.cons (.int n) (.cons (.bl b) .nil))
theorem Remade.same {rs : List (Int × Int)} {ns as bs : List Int} (h : Remade rs ns ns as bs) (hn : ns.Pairwise (· < ·)) : as = ns ∧ bs = ns := by
  have key : ∀ p, (p ∈ as ↔ p ∈ ns) ∧ (p ∈ bs ↔ p ∈ ns) := fun p => by
    have := h.cnt p
    by_cases c1 : p ∈ as <;> by_cases c2 : p ∈ bs <;> by_cases c3 : p ∈ ns <;> simp_all
  exact ⟨asc_eq h.aa hn fun p => (key p).1, asc_eq h.ab hn fun p => (key p).2⟩
theorem Mkt.kp {K : PySem.W.Frag} {D : Addr} {H H' : Hp} {x : Addr} {kind : Str} {s : Int} {us : List V} {rs : List (Int × Int)} {ns : List Int} (h : Mkt K H x kind s us rs ns) (k : Kp D H H') (d : Dr D H) : Mkt K H' x kind s us rs ns := by
  obtain ⟨C, dx, pr, pg, a, b, c, e⟩ := h.ob
  obtain ⟨ms, hms⟩ := d
  exact ⟨⟨C, dx, pr, pg, a, k _ _ (ne_of b hms (by intro z; cases z)) b, k.tup ⟨ms, hms⟩ c, k.tup ⟨ms, hms⟩ e⟩, k.runs ⟨ms, hms⟩ h.runs⟩
end K03


set_option Elab.async false
set_option linter.all false
set_option maxRecDepth 100000
set_option maxHeartbeats 4000000
namespace K03
open PySem PySem.Spec PyProof.Rows L2
open Evl (Ex)
section
variable {w : World} {K : PySem.W.Frag} {mg : Str → Option Value} {base : Heap}
theorem ix_listK {X : Cx} (h : X.K = K) : IxR X (rIxL K) := by
  subst h
  exact ix_list
def AscIn (m : Nat) (ns : List Int) : Prop := ns.Pairwise (· < ·) ∧ ∀ n ∈ ns, 0 ≤ n ∧ n < m
def spLaw (K : PySem.W.Frag) : Sp := fun vs H Q _ => ∃ (a : Addr) (ns : List Int), vs = [.ref a] ∧ SqL K H a (ns.map V.int) ∧ ns.length ≤ 63 ∧ ∀ H', Q (.bl true) H'
theorem sc_law : FnScope ["_law_script", "_law_draws_here", "_law_kind_here", "_law_drawn", "_law_size", "_law_runs", "_law_market_here", "_law_one", "_law_other", "_law_word", "_law_kept", "_law_told", "_law_first", "_law_second", "_law_wrong", "_law_k"] ["_law_script"] (defScope s_law) := ⟨rfl, rfl, rfl, by decide +kernel, rfl, by decide +kernel, by decide +kernel⟩
def rLenX (K : PySem.W.Frag) : List V → Hp → VK → Prop := fun xs H Q => ∃ p ys, xs = [.ref p] ∧ (SqL K H p ys ∨ SqT K H p ys) ∧ Q (.int ys.length) H
theorem call_lenK {X : Cx} (h : X.K = K) : CallR X (.builtin "len") (rLenX K) := by
  subst h
  exact call_len_seq
theorem ok_law (T : Ctx K mg) {f : Addr} {fd : FuncData} (F : FunD K "law" "law" (defArgs s_law) (defBody s_law) (defScope s_law) [] [] f fd) : FnOk PP w K mg base CX0 11 f fd ["_law_script"] (spLaw K) := by
  obtain ⟨f1, fd1, m1, kp1, F1, b1⟩ := has_draws (w := w) (base := base) T
  obtain ⟨f2, fd2, m2, kp2, F2, b2⟩ := has_kind (w := w) (base := base) T
  obtain ⟨f3, fd3, m3, kp3, F3, b3⟩ := has_mk (w := w) (base := base) T
  obtain ⟨f4, fd4, m4, kp4, F4, b4⟩ := has_take (w := w) (base := base) T
  obtain ⟨f5, fd5, m5, kp5, F5, b5⟩ := has_built (w := w) (base := base) T
  obtain ⟨f6, fd6, m6, kp6, F6, b6⟩ := has_parts (w := w) (base := base) T
  obtain ⟨f7, fd7, m7, kp7, F7, b7⟩ := has_remade (w := w) (base := base) T
  obtain ⟨f8, fd8, m8, kp8, F8, b8⟩ := has_right (w := w) (base := base) T
  obtain ⟨f9, fd9, m9, kp9, F9, b9⟩ := has_refused (w := w) (base := base) T
  obtain ⟨fA, fdA, mA, kpA, FA, bA⟩ := has_two (w := w) (base := base) T
  refine ok0 F sc_law (fun vs H Q E h => ?_) (fun cdv A0 outer s0 H vs Q E hr h => ?_)
  · obtain ⟨a, ns, rfl, _⟩ := h
    rfl
  · obtain ⟨a0, ns0, rfl, hS, h63, k⟩ := h
    have nd := sc_law.nd
    have hr1 := hr.mono (show 1 ≤ 10 by decide)
    have hr2 := hr.mono (show 2 ≤ 10 by decide)
    have hr3 := hr.mono (show 3 ≤ 10 by decide)
    have hr4 := hr.mono (show 4 ≤ 10 by decide)
    have hr5 := hr.mono (show 5 ≤ 10 by decide)
    have hr8 := hr.mono (show 8 ≤ 10 by decide)
    have hr9 := hr.mono (show 9 ≤ 10 by decide)
    have hu := hr.units
    refine ⟨_, pss_cons (ps_set (i := 1) nd rfl (.inl rfl) (pe_call F1 hr1 (by rfl) m1 kp1 b1 .nil pass0 (pa_cons (pv 0) pa_nil)))
      (pss_cons (ps_set (i := 2) nd rfl (.inl rfl) (pe_call F2 hr2 (by rfl) m2 kp2 b2 .nil pass0 (pa_cons (pv 1) pa_nil)))
      (pss_cons (ps_set (i := 3) nd rfl (.inl rfl) (pe_call F3 hr3 (by rfl) m3 kp3 b3 .nil pass0 (pa_cons (pv 1) (pa_cons pe_int pa_nil))))
      (pss_cons (ps_set (i := 4) nd rfl (.inl rfl) (pe_ix ix_list (pv 3) pe_int (fun _ _ => rfl)))
      (pss_cons (ps_set (i := 5) nd rfl (.inl rfl) (pe_ix ix_list (pv 3) pe_int (fun _ _ => rfl)))
      (pss_cons (ps_set (i := 6) nd rfl (.inl rfl) (pe_call F5 hr8 (by rfl) m5 kp5 b5 .nil pass0 (pa_cons (pv 2) (pa_cons (pv 4) (pa_cons (pe_callTy call_list_of (by rfl) T.b_list (by decide +kernel) (pa_cons (pv 5) pa_nil)) (pa_cons (pe_ix ix_list (pv 3) pe_int (fun _ _ => rfl)) pa_nil))))))
      (pss_cons (PS.nrm (ps_set (i := 7) nd rfl (.inr rfl) (pe_call F6 hr2 (by rfl) m6 kp6 b6 .nil pass0 (pa_cons (pv 1) (pa_cons (pe_callB call_len_seq (by rfl) T.b_len PySem.boot_len (pa_cons (pv 5) pa_nil)) pa_nil)))))
      (pss_cons (ps_set (i := 8) nd rfl (.inr rfl) (pe_call F6 hr2 (by rfl) m6 kp6 b6 .nil pass0 (pa_cons (pv 1) (pa_cons (pe_callB call_len_seq (by rfl) T.b_len PySem.boot_len (pa_cons (pv 5) pa_nil)) pa_nil))))
      (pss_cons (PS.nrm (ps_set (i := 9) nd rfl (.inl rfl) (pe_call F4 hr1 (by rfl) m4 kp4 b4 .nil pass0 (pa_cons (pv 1) (pa_cons pe_int pa_nil)))))
      (pss_cons ((ps_if (pt_cmpR op_eq (pv 9) pe_int (nomark _)) (pss_one (ps_set (i := 8) nd rfl (.inr rfl) (pe_callTy call_list_of (by rfl) T.b_list (by decide +kernel) (pa_cons (pv 7) pa_nil))))
          (pss_one (ps_if (pt_cmpR op_eq (pv 9) pe_int (nomark _)) (pss_one (ps_set (i := 8) nd rfl (.inr rfl) (pe_lst pa_nil)))
            (pss_one (ps_if (pt_cmpR op_eq (pv 9) pe_int (nomark _)) (pss_one (ps_set (i := 7) nd rfl (.inr rfl) (pe_listRg rfl (by rfl) T.b_list (prg_1 (by rfl) T.b_range (pe_callB call_len_seq (by rfl) T.b_len PySem.boot_len (pa_cons (pv 5) pa_nil)))))) pss_nil))))).imp
            (t' := fun De σ H => ∃ (v0 v1 v2 v3 v4 v6 : Option V) (R a b : Addr) (wd : Int) (us : List V) (ns ms : List Int), σ = [v0, v1, v2, v3, v4, some (.ref R), v6, some (.ref a), some (.ref b), some (.int wd), none, none, none, none, none, none] ∧ H R = some (.lst us) ∧ us.length ≤ 9 ∧ H a = some (.lst (ns.map V.int)) ∧ H b = some (.lst (ms.map V.int)) ∧ AscIn us.length ns ∧ AscIn us.length ms ∧
              ∀ (a' b' : Addr) (ns' ms' : List Int) (H' : Hp), Ex H H' → (a' = a ∨ H a' = none) → (b' = b ∨ H b' = none) → H' a' = some (.lst (ns'.map V.int)) → H' b' = some (.lst (ms'.map V.int)) → AscIn us.length ns' → AscIn us.length ms' → (wd = 0 → ms' = ns') → De.nx [v0, v1, v2, v3, v4, some (.ref R), v6, some (.ref a'), some (.ref b'), some (.int wd), none, none, none, none, none, none] H') ?c1)
      (pss_cons (PS.nrm (ps_set (i := 10) nd rfl (.inl rfl) (pe_lst (pa_cons (pe_callTy call_list_of (by rfl) T.b_list (by decide +kernel) (pa_cons (pv 7) pa_nil)) (pa_cons (pe_callTy call_list_of (by rfl) T.b_list (by decide +kernel) (pa_cons (pv 8) pa_nil)) pa_nil)))))
      (pss_cons (PS.nrm (ps_set (i := 11) nd rfl (.inl rfl) (pe_call F7 hr4 (by rfl) m7 kp7 b7 .nil (E := E0) (pass_none rfl rfl) (pa_cons (pv 6) (pa_cons (pv 7) (pa_cons (pv 8) pa_nil))))))
      (pss_cons (PS.nrm (ps_if (PW.pt (pw_or (pt_not (pt_val (pe_call F8 hr3 (by rfl) m8 kp8 b8 .nil pass0 (pa_cons (pv 4) (pa_cons (pv 5) (pa_cons (pv 11) (pa_cons (pv 7) (pa_cons (pv 8) pa_nil)))))))) (pw_or1 (pt_cmpR (op_neD hu) (pe_lst (pa_cons (pv 7) (pa_cons (pv 8) pa_nil))) (pv 10) (nomark _))))) (pss_one (ps_ret pe_bl)) pss_nil))
      (pss_cons ((ps_if (PW.pt (pw_and (pt_cmpR op_eq (pv 9) pe_int (nomark _)) (pw_and1 (pt_cmpR (op_neD hu) (pv 11) (pe_tup (pa_cons (pe_callTy call_tuple_of (by rfl) T.b_tuple (by decide +kernel) (pa_cons (pv 7) pa_nil)) (pa_cons (pe_callTy call_tuple_of (by rfl) T.b_tuple (by decide +kernel) (pa_cons (pv 7) pa_nil)) pa_nil))) (nomark _))))) (pss_one (ps_ret pe_bl)) pss_nil).imp
            (t' := fun De σ H => ∃ (v0 v1 v2 v3 v4 v5 v6 v8 v10 : Option V) (a q qa qb : Addr) (wd : Int) (ns : List Int), σ = [v0, v1, v2, v3, v4, v5, v6, some (.ref a), v8, some (.int wd), v10, some (.ref q), none, none, none, none] ∧ H a = some (.lst (ns.map V.int)) ∧ (wd = 0 → H q = some (.tup [.ref qa, .ref qb]) ∧ H qa = some (.tup (ns.map V.int)) ∧ H qb = some (.tup (ns.map V.int))) ∧ ∀ H', Ex H H' → De.nx [v0, v1, v2, v3, v4, v5, v6, some (.ref a), v8, some (.int wd), v10, some (.ref q), none, none, none, none] H') ?c2)
      (pss_cons (PS.nrm (ps_setLc (own := [("_law_k", 15)]) (i := 12) (g := gName 15) (tt := tYes) rfl nd rfl rfl rfl (pi_range1 (by rfl) T.b_range (pa_cons (pe_callB call_len_seq (by rfl) T.b_len PySem.boot_len (pa_cons (pv 7) pa_nil)) pa_nil)) (blkOk_by (own := [("_law_k", 15)]) (N := ["_law_script", "_law_draws_here", "_law_kind_here", "_law_drawn", "_law_size", "_law_runs", "_law_market_here", "_law_one", "_law_other", "_law_word", "_law_kept", "_law_told", "_law_first", "_law_second", "_law_wrong", "_law_k"]) (sc := defScope s_law) (by decide +kernel)) (fun _ _ _ _ _ => pg_name (i := 15) nd rfl (Or.inl rfl)) (fun _ _ _ _ _ => pts_nil)
          (fun _ _ _ _ _ => pe_ix (ix_listK (K := K) rfl) (pv 7) (pe_op op_sub (pe_op op_sub (pe_callB (call_lenK (K := K) rfl) (by rfl) T.b_len PySem.boot_len (pa_cons (pv 7) pa_nil)) pe_int) (pv 15)) (fun _ _ => rfl))))
      (pss_cons (PS.nrm (ps_setLc (own := [("_law_k", 15)]) (i := 13) (g := gName 15) (tt := tYes) rfl nd rfl rfl rfl (pi_range1 (by rfl) T.b_range (pa_cons (pe_callB call_len_seq (by rfl) T.b_len PySem.boot_len (pa_cons (pv 8) pa_nil)) pa_nil)) (blkOk_by (own := [("_law_k", 15)]) (N := ["_law_script", "_law_draws_here", "_law_kind_here", "_law_drawn", "_law_size", "_law_runs", "_law_market_here", "_law_one", "_law_other", "_law_word", "_law_kept", "_law_told", "_law_first", "_law_second", "_law_wrong", "_law_k"]) (sc := defScope s_law) (by decide +kernel)) (fun _ _ _ _ _ => pg_name (i := 15) nd rfl (Or.inl rfl)) (fun _ _ _ _ _ => pts_nil)
          (fun _ _ _ _ _ => pe_ix (ix_listK (K := K) rfl) (pv 8) (pe_op op_sub (pe_op op_sub (pe_callB (call_lenK (K := K) rfl) (by rfl) T.b_len PySem.boot_len (pa_cons (pv 8) pa_nil)) pe_int) (pv 15)) (fun _ _ => rfl))))
      (pss_cons (PS.nrm (ps_set (i := 10) nd rfl (.inl rfl) (pe_lst (pa_cons (pe_callTy call_list_of (by rfl) T.b_list (by decide +kernel) (pa_cons (pv 12) pa_nil)) (pa_cons (pe_callTy call_list_of (by rfl) T.b_list (by decide +kernel) (pa_cons (pv 13) pa_nil)) pa_nil)))))
      (pss_cons (PS.nrm (ps_if (PW.pt (pw_or (pt_not (pt_val (pe_call F8 hr3 (by rfl) m8 kp8 b8 .nil pass0 (pa_cons (pv 4) (pa_cons (pv 5) (pa_cons (pe_call F7 hr4 (by rfl) m7 kp7 b7 .nil (E := E0) (pass_none rfl rfl) (pa_cons (pv 6) (pa_cons (pv 12) (pa_cons (pv 13) pa_nil)))) (pa_cons (pv 7) (pa_cons (pv 8) pa_nil)))))))) (pw_or1 (pt_cmpR (op_neD hu) (pe_lst (pa_cons (pv 12) (pa_cons (pv 13) pa_nil))) (pv 10) (nomark _))))) (pss_one (ps_ret pe_bl)) pss_nil))
      (pss_cons (PS.nrm (ps_set (i := 14) nd rfl (.inl rfl) (pe_ix ix_list (pe_lst (pa_cons (pe_callB call_len_seq (by rfl) T.b_len PySem.boot_len (pa_cons (pv 5) pa_nil)) (pa_cons (pe_un un_neg pe_int) (pa_cons pe_non pa_nil)))) (pe_call F4 hr1 (by rfl) m4 kp4 b4 .nil pass0 (pa_cons (pv 1) (pa_cons pe_int pa_nil))) (fun _ _ => rfl))))
      (pss_cons (PS.nrm (ps_if (pt_cmpR (op_neD hu) (pe_call F9 hr5 (by rfl) m9 kp9 b9 .nil pass0 (pa_cons (pv 6) (pa_cons (pe_op op_cat (pv 7) (pe_lst (pa_cons (pv 14) pa_nil))) (pa_cons (pe_op op_cat (pv 8) (pe_lst (pa_cons (pv 14) pa_nil))) pa_nil)))) (pe_lst (pa_cons (pe_callB call_len_seq (by rfl) T.b_len PySem.boot_len (pa_cons (pv 7) pa_nil)) (pa_cons pe_bl pa_nil))) (nomark _)) (pss_one (ps_ret pe_bl)) pss_nil))
      (pss_cons (PS.nrm (ps_if (pt_cmpR (op_neD hu) (pe_call F9 hr5 (by rfl) m9 kp9 b9 .nil pass0 (pa_cons (pv 6) (pa_cons (pv 7) (pa_cons (pe_op op_cat (pv 8) (pe_lst (pa_cons (pv 14) pa_nil))) pa_nil)))) (pe_lst (pa_cons (pe_callB call_len_seq (by rfl) T.b_len PySem.boot_len (pa_cons (pv 8) pa_nil)) (pa_cons pe_bl pa_nil))) (nomark _)) (pss_one (ps_ret pe_bl)) pss_nil))
      (pss_cons (PS.nrm (ps_if (pt_cmpR (op_neD hu) (pe_call F9 hr5 (by rfl) m9 kp9 b9 .nil pass0 (pa_cons (pv 6) (pa_cons pe_non (pa_cons (pe_op op_cat (pv 8) (pe_lst (pa_cons (pv 14) pa_nil))) pa_nil)))) (pe_lst (pa_cons (pe_un un_neg pe_int) (pa_cons pe_bl pa_nil))) (nomark _)) (pss_one (ps_ret pe_bl)) pss_nil))
      (pss_one (ps_ret (pe_call FA hr9 (by rfl) mA kpA bA .nil pass0 (pa_cons (pv 1) (pa_cons (pv 2) (pa_cons (pv 4) pa_nil))))))))))))))))))))))))))), ?_⟩
    case c1 =>
      rintro De σ H ⟨v0, v1, v2, v3, v4, v6, R, a, b, wd, us, ns, ms, rfl, hR, hl, ha, hb, An, Am, k⟩
      refine ⟨_, rfl, rfl, _, rfl, ?_⟩
      by_cases c : V.int wd = V.int 0
      · refine iteT' (decide_eq_true c) ⟨_, rfl, a, _, rfl, .inl (SqL.of ha), fun p hp => ?_⟩
        exact k a p ns ns _ (Ex.new hp) (.inl rfl) (.inr hp) ((Ex.new hp) _ _ ha) upd_same An An (fun _ => rfl)
      have c' : wd ≠ 0 := fun z => c (by rw [z])
      refine iteF' (decide_eq_false c) ⟨_, rfl, rfl, _, rfl, ?_⟩
      by_cases c1 : V.int wd = V.int 1
      · refine iteT' (decide_eq_true c1) ⟨(by show 0 ≤ sizeLine; decide), fun p hp => ?_⟩
        exact k a p ns [] _ (Ex.new hp) (.inl rfl) (.inr hp) ((Ex.new hp) _ _ ha) upd_same An ⟨List.Pairwise.nil, fun n h => nomatch h⟩ (fun z => absurd z c')
      refine iteF' (decide_eq_false c1) ⟨_, rfl, rfl, _, rfl, ?_⟩
      by_cases c2 : V.int wd = V.int 2
      · refine iteT' (decide_eq_true c2) ⟨_, rfl, R, _, rfl, .inl (SqL.of hR), _, rfl, RgOk.of_le (by omega) (by omega) (by omega) (by omega), fun p hp => ?_⟩
        exact k p b (ran 0 us.length) ms _ (Ex.new hp) (.inr hp) (.inl rfl) (by rw [upd_same, rgV_ran]) ((Ex.new hp) _ _ hb) ⟨ran_asc _ _, fun n h => ran_mem.mp h⟩ Am (fun z => absurd z c')
      exact iteF' (decide_eq_false c2) (k a b ns ms H (fun _ _ h => h) (.inl rfl) (.inl rfl) ha hb An Am (fun z => absurd z c'))
    case c2 =>
      rintro De σ H ⟨v0, v1, v2, v3, v4, v5, v6, v8, v10, a, q, qa, qb, wd, ns, rfl, ha, h0, k⟩
      refine ⟨_, rfl, rfl, _, rfl, ?_⟩
      by_cases c : V.int wd = V.int 0
      · have cw : wd = 0 := by injection c
        obtain ⟨hq, hqa, hqb⟩ := h0 cw
        refine iteT' (decide_eq_true c) ⟨_, rfl, _, rfl, a, _, rfl, .inl ⟨SqL.of ha, fun p1 hp1 => ?_⟩⟩
        have e1 : Ex H (upd H p1 (.tup (ns.map V.int))) := Ex.new hp1
        refine ⟨_, rfl, a, _, rfl, .inl ⟨SqL.of (e1 _ _ ha), fun p2 hp2 => ?_⟩⟩
        have e2 := Ex.new (o := .tup (ns.map V.int)) hp2
        refine ⟨(by show 2 ≤ sizeLine; decide), fun p3 hp3 => ?_⟩
        have e3 := Ex.new (o := .tup [V.ref p1, V.ref p2]) hp3
        have e := (e1.trans e2).trans e3
        exact ⟨ttD ns ns, ttD ns ns, dp_tt (e _ _ hq) (e _ _ hqa) (e _ _ hqb), dp_tt upd_same (e3 _ _ (e2 _ _ upd_same)) (e3 _ _ upd_same), shaped_tt _ _, shaped_tt _ _, _, rfl, iteF' (by rw [eqv_tt]; rfl) (k _ e)⟩
      · exact iteF' (decide_eq_false c) (k _ fun _ _ h => h)
    refine ⟨_, rfl, a0, ns0, rfl, hS, h63, fun H1 D e1 hD0 hD => ?_⟩
    refine ⟨_, rfl, D, rfl, hD, fun kd H2 hkd k2 d2 => ?_⟩
    refine ⟨_, rfl, D, rfl, d2, fun L M a s us rs H3 k3 d3 hM hL hL3 hM3 R3 hF hs1 hs8 hl9 ha hG => ?_⟩
    obtain ⟨sn, rfl⟩ : ∃ n : Nat, s = n := ⟨s.toNat, by omega⟩
    have hLD : L ≠ D := Kp.ne d2 hL
    have hMD : M ≠ D := Kp.ne d2 hM
    obtain ⟨gs, hg3, gasc, ginn⟩ := hG
    have hul := R3.len
    refine ⟨_, rfl, L, _, 0, _, rfl, rfl, SqL.of hL3, atI_nat (j := 0) rfl, ?_⟩
    refine ⟨_, rfl, L, _, 1, _, rfl, rfl, SqL.of hL3, atI_nat (j := 1) rfl, ?_⟩
    refine ⟨_, rfl, _, rfl, _, rfl, M, us, rfl, .inl (SqL.of hM3), fun p hp => ?_⟩
    have e4 : Ex H3 (upd H3 p (.lst us)) := Ex.new hp
    refine ⟨_, rfl, L, _, 2, _, rfl, rfl, SqL.of (e4 _ _ hL3), atI_nat (j := 2) rfl, kd, sn, p, a, us, rs, gs, rfl, hkd, ⟨upd_same, R3.ex e4, hF, by omega, e4 _ _ hg3, gasc, ginn, ⟨hs1, by omega⟩⟩, fun x H5 e5 hx Mk => ?_⟩
    have e35 := e4.trans e5
    have d5 := d3.ex e35
    have hM5 := e35 _ _ hM3
    refine ⟨[some (.ref a0), some (.ref D), some (.str kd), some (.ref L), some (.int sn), some (.ref M), some (.ref x), none, none, none, none, none, none, none, none, none], rfl, ?_⟩
    refine ⟨_, rfl, _, rfl, M, us, rfl, .inl (SqL.of hM5), D, _, rfl, d5, by omega, by omega, fun A gs1 H6 k6 d6 hA hA6 asc1 inn1 => ?_⟩
    have hM6 := k6 _ _ hMD hM5
    refine ⟨_, rfl, _, rfl, M, us, rfl, .inl (SqL.of hM6), D, _, rfl, d6, by omega, by omega, fun B gs2 H7 k7 d7 hB hB7 asc2 inn2 => ?_⟩
    have hAD : A ≠ D := Kp.ne d5 hA
    have hBD : B ≠ D := Kp.ne d6 hB
    refine ⟨[some (.ref a0), some (.ref D), some (.str kd), some (.ref L), some (.int sn), some (.ref M), some (.ref x), some (.ref A), some (.ref B), none, none, none, none, none, none, none], rfl, ?_⟩
    refine ⟨_, rfl, D, 5, rfl, d7, by decide, fun wd H8 _ _ k8 d8 => ?_⟩
    have Mk8 := ((Mk.kp k6 d5).kp k7 d6).kp k8 d7
    have hM8 := k8 _ _ hMD (k7 _ _ hMD hM6)
    have hA8 := k8 _ _ hAD (k7 _ _ hAD hA6)
    have hB8 := k8 _ _ hBD hB7
    refine ⟨_, _, _, _, _, _, M, A, B, wd, us, gs1, gs2, rfl, hM8, by omega, hA8, hB8, ⟨asc1, inn1⟩, ⟨asc2, inn2⟩, fun a' b' ns ms H9 e9 ha' hb' ha9 hb9 An Am h0 => ?_⟩
    have haD : a' ≠ D := ha'.elim (fun z => by rw [z]; exact hAD) (Kp.ne d8)
    have hbD : b' ≠ D := hb'.elim (fun z => by rw [z]; exact hBD) (Kp.ne d8)
    have Mk9 := Mk8.ex e9
    have hM9 := e9 _ _ hM8
    have d9 := d8.ex e9
    clear k2 k3 k6 k7 k8 Mk8 hM8 hA8 hB8 hM6 hA6 hB7 hM5 Mk hL3 hM3 hg3 R3 e9 e35 e4 e5 d8 d7 d6 d5 d3 d2 hS
    have R9 := Mk9.runs
    have l1 := asc_few An.1 An.2 (by omega)
    have l2 := asc_few Am.1 Am.2 (by omega)
    have P1 : Parts us.length ns := ⟨asc_nodup An.1, An.2, by omega⟩
    have P2 : Parts us.length ms := ⟨asc_nodup Am.1, Am.2, by omega⟩
    refine ⟨[some (.ref a0), some (.ref D), some (.str kd), some (.ref L), some (.int sn), some (.ref M), some (.ref x), some (.ref a'), some (.ref b'), some (.int wd), none, none, none, none, none, none], rfl, ?_⟩
    refine ⟨_, rfl, a', _, rfl, .inl (SqL.of ha9), fun p1 hp1 => ?_⟩
    have e1a : Ex H9 (upd H9 p1 (.lst (ns.map V.int))) := Ex.new hp1
    refine ⟨_, rfl, b', _, rfl, .inl (SqL.of (e1a _ _ hb9)), fun p2 hp2 => ?_⟩
    have e2a := Ex.new (o := .lst (ms.map V.int)) hp2
    refine ⟨(by show 2 ≤ sizeLine; decide), fun p3 hp3 => ?_⟩
    have e3a := Ex.new (o := .lst [V.ref p1, V.ref p2]) hp3
    have e10 := (e1a.trans e2a).trans e3a
    have hk := dp_ll (K := K) (upd_same (a := p3) (o := .lst [V.ref p1, V.ref p2])) (e3a _ _ (e2a _ _ (upd_same (H := H9) (a := p1)))) (e3a _ _ (upd_same (a := p2)))
    have hkp3 := upd_same (H := upd (upd H9 p1 (.lst (ns.map V.int))) p2 (.lst (ms.map V.int))) (a := p3) (o := .lst [V.ref p1, V.ref p2])
    have hkp1 := e3a _ _ (e2a _ _ (upd_same (H := H9) (a := p1) (o := .lst (ns.map V.int))))
    have hkp2 := e3a _ _ (upd_same (H := upd H9 p1 (.lst (ns.map V.int))) (a := p2) (o := .lst (ms.map V.int)))
    generalize upd (upd (upd H9 p1 (.lst (ns.map V.int))) p2 (.lst (ms.map V.int))) p3 (.lst [V.ref p1, V.ref p2]) = H10 at *
    have Mk10 := Mk9.ex e10
    have ha10 := e10 _ _ ha9
    have hb10 := e10 _ _ hb9
    have hM10 := e10 _ _ hM9
    have R10 := R9.ex e10
    have d10 := d9.ex e10
    clear e1a e2a e3a hk e10 Mk9 ha9 hb9 hM9 R9 d9
    refine ⟨[some (.ref a0), some (.ref D), some (.str kd), some (.ref L), some (.int sn), some (.ref M), some (.ref x), some (.ref a'), some (.ref b'), some (.int wd), some (.ref p3), none, none, none, none, none], rfl, ?_⟩
    refine ⟨_, rfl, _, rfl, _, rfl, x, kd, sn, us, rs, gs, _, _, rfl, Mk10, hF, by omega, .inl ⟨ns, ms, ⟨a', rfl, .inl ha10⟩, P1, ⟨b', rfl, .inl hb10⟩, P2, by omega, fun as bs H11 q qa qb Rm e11 hq hqa hqb => ?_⟩⟩
    have innr : ∀ n ∈ ns, 0 ≤ n ∧ n < (rs.length : Int) := fun n h => by have := An.2 n h; omega
    have inmr : ∀ n ∈ ms, 0 ≤ n ∧ n < (rs.length : Int) := fun n h => by have := Am.2 n h; omega
    refine ⟨[some (.ref a0), some (.ref D), some (.str kd), some (.ref L), some (.int sn), some (.ref M), some (.ref x), some (.ref a'), some (.ref b'), some (.int wd), some (.ref p3), some (.ref q), none, none, none, none], rfl, ?_⟩
    refine ⟨_, rfl, _, rfl, _, rfl, _, rfl, _, rfl, sn, M, q, a', b', qa, qb, us, rs, ns, ms, as, bs, rfl, by omega, e11 _ _ hM10, R10.ex e11, hF, by omega, hq, hqa, hqb, e11 _ _ ha10, e11 _ _ hb10, innr, inmr, Rm, fun H12 e12 => ⟨true, rfl, iteF ?_⟩⟩
    have e13 := e11.trans e12
    refine ⟨_, rfl, _, rfl, (by show 2 ≤ sizeLine; decide), fun l hl => ?_⟩
    have e14 := e13.trans (Ex.new (o := .lst [V.ref a', V.ref b']) hl)
    have e14b := e12.trans (Ex.new (o := .lst [V.ref a', V.ref b']) hl)
    refine ⟨_, rfl, llD ns ms, llD ns ms, dp_ll upd_same (e14 _ _ ha10) (e14 _ _ hb10), dp_ll (e14 _ _ hkp3) (e14 _ _ hkp1) (e14 _ _ hkp2), shaped_ll _ _, shaped_ll _ _, _, rfl, iteF' (by rw [eqv_ll]; rfl) ?_⟩
    generalize upd H12 l (.lst [V.ref a', V.ref b']) = H14 at *
    have Mk14 := Mk10.ex e14
    have ha14 := e14 _ _ ha10
    have hb14 := e14 _ _ hb10
    have hM14 := e14 _ _ hM10
    have R14 := R10.ex e14
    have d14 := d10.ex e14
    refine ⟨_, _, _, _, _, _, _, _, _, a', q, qa, qb, wd, ns, rfl, ha14, fun z => ?_, fun H15 e15 => ?_⟩
    · have hms := h0 z
      subst hms
      obtain ⟨rfl, rfl⟩ := Rm.same An.1
      exact ⟨e14b _ _ hq, e14b _ _ hqa, e14b _ _ hqb⟩
    have Mk15 := Mk14.ex e15
    have ha15 := e15 _ _ ha14
    have hb15 := e15 _ _ hb14
    have hM15 := e15 _ _ hM14
    have R15 := R14.ex e15
    have d15 := d14.ex e15
    clear e11 e12 e13 e14 e14b e15 Mk10 Mk14 ha10 ha14 hb10 hb14 hM10 hM14 R10 R14 d10 d14 hkp1 hkp2 hkp3 hq hqa hqb Rm h0
    have rev_at : ∀ (u : List Int) (i : Nat), i < u.length → u.length < 100 → ∃ v : Int, atI (u.map V.int) ((u.length : Int) - 1 - (0 + (i : Nat))) = some (.int v) ∧ u.reverse.take (i + 1) = u.reverse.take i ++ [v] := fun u i hi _ => by
      have hi2 : u.length - 1 - i < u.length := by omega
      refine ⟨u[u.length - 1 - i], ?_, ?_⟩
      · rw [show (u.length : Int) - 1 - (0 + (i : Nat)) = ((u.length - 1 - i : Nat) : Int) by omega]
        refine atI_nat ?_
        rw [List.getElem?_map, List.getElem?_eq_getElem hi2]
        rfl
      · rw [List.take_add_one, List.getElem?_eq_getElem (by rw [List.length_reverse]; exact hi), List.getElem_reverse]
        rfl
    refine ⟨[some (.ref a0), some (.ref D), some (.str kd), some (.ref L), some (.int sn), some (.ref M), some (.ref x), some (.ref a'), some (.ref b'), some (.int wd), some (.ref p3), some (.ref q), none, none, none, none], rfl, ?_⟩
    refine ⟨_, rfl, a', _, rfl, .inl (SqL.of ha15), _, rfl, by rw [List.length_map]; omega, by rw [List.length_map]; omega, fun P hP => lc_it walk_range (fun i H' => Ex H15 H' ∧ H' P = some (.lst ((ns.reverse.take i).map V.int))) ⟨Ex.new hP, upd_same⟩ (fun _ _ _ _ => trivial) ?_ ?_⟩
    · rintro i v H16 H17 hi ⟨e16, hP16⟩ ⟨rfl, rfl⟩
      rw [List.length_map] at hi
      obtain ⟨v, hv, hr⟩ := rev_at ns i (by omega) (by omega)
      refine ⟨rfl, tYesI ?_⟩
      refine ⟨_, rfl, _, rfl, a', _, rfl, .inl (SqL.of (e16 _ _ ha15)), _, _, rfl, rfl, _, rfl, _, _, rfl, rfl, a', _, _, .int v, rfl, rfl, SqL.of (e16 _ _ ha15), (by rw [List.length_map]; exact hv), _, hP16, by rw [List.length_map, List.length_take]; exact small1000 (by omega), Evl.Ex.mut e16 hP, ?_⟩
      rw [upd_same, hr, List.map_append]
      rfl
    rintro H16 ⟨e16, hP16⟩
    rw [show (((ns.map V.int).length : Nat) : Int).toNat = ns.reverse.length by rw [List.length_map, List.length_reverse]; omega, List.take_length] at hP16
    have hb16 := e16 _ _ hb15
    refine ⟨[some (.ref a0), some (.ref D), some (.str kd), some (.ref L), some (.int sn), some (.ref M), some (.ref x), some (.ref a'), some (.ref b'), some (.int wd), some (.ref p3), some (.ref q), some (.ref P), none, none, none], rfl, ?_⟩
    refine ⟨_, rfl, b', _, rfl, .inl (SqL.of hb16), _, rfl, by rw [List.length_map]; omega, by rw [List.length_map]; omega, fun O hO => lc_it walk_range (fun i H' => Ex H16 H' ∧ H' O = some (.lst ((ms.reverse.take i).map V.int))) ⟨Ex.new hO, upd_same⟩ (fun _ _ _ _ => trivial) ?_ ?_⟩
    · rintro i v H17 H18 hi ⟨e17, hO17⟩ ⟨rfl, rfl⟩
      rw [List.length_map] at hi
      obtain ⟨v, hv, hr⟩ := rev_at ms i (by omega) (by omega)
      refine ⟨rfl, tYesI ?_⟩
      refine ⟨_, rfl, _, rfl, b', _, rfl, .inl (SqL.of (e17 _ _ hb16)), _, _, rfl, rfl, _, rfl, _, _, rfl, rfl, b', _, _, .int v, rfl, rfl, SqL.of (e17 _ _ hb16), (by rw [List.length_map]; exact hv), _, hO17, by rw [List.length_map, List.length_take]; exact small1000 (by omega), Evl.Ex.mut e17 hO, ?_⟩
      rw [upd_same, hr, List.map_append]
      rfl
    rintro H17 ⟨e17, hO17⟩
    rw [show (((ms.map V.int).length : Nat) : Int).toNat = ms.reverse.length by rw [List.length_map, List.length_reverse]; omega, List.take_length] at hO17
    have hP17 := e17 _ _ hP16
    have e157 := e16.trans e17
    have Mk17 := Mk15.ex e157
    have ha17 := e157 _ _ ha15
    have hb17 := e157 _ _ hb15
    have hM17 := e157 _ _ hM15
    have R17 := R15.ex e157
    have d17 := d15.ex e157
    clear e16 e17 e157 Mk15 ha15 hb15 hb16 hM15 R15 d15 hP16 rev_at
    have P1r : Parts us.length ns.reverse := ⟨(List.reverse_perm ns).nodup_iff.mpr P1.nd, fun n h => P1.inn n (List.mem_reverse.mp h), by rw [List.length_reverse]; omega⟩
    have P2r : Parts us.length ms.reverse := ⟨(List.reverse_perm ms).nodup_iff.mpr P2.nd, fun n h => P2.inn n (List.mem_reverse.mp h), by rw [List.length_reverse]; omega⟩
    have hsum : ns.reverse.length + ms.reverse.length < 60 := by rw [List.length_reverse, List.length_reverse]; omega
    have back : ∀ {as bs : List Int}, Remade rs ns.reverse ms.reverse as bs → Remade rs ns ms as bs := fun h => ⟨h.aa, h.ab, fun p => by have := h.cnt p; simpa only [List.mem_reverse] using this, h.ev⟩
    generalize ns.reverse = nr at *
    generalize ms.reverse = mr at *
    refine ⟨[some (.ref a0), some (.ref D), some (.str kd), some (.ref L), some (.int sn), some (.ref M), some (.ref x), some (.ref a'), some (.ref b'), some (.int wd), some (.ref p3), some (.ref q), some (.ref P), some (.ref O), none, none], rfl, ?_⟩
    refine ⟨_, rfl, P, _, rfl, .inl (SqL.of hP17), fun p4 hp4 => ?_⟩
    have e1a : Ex H17 (upd H17 p4 (.lst (nr.map V.int))) := Ex.new hp4
    refine ⟨_, rfl, O, _, rfl, .inl (SqL.of (e1a _ _ hO17)), fun p5 hp5 => ?_⟩
    have e2a := Ex.new (o := .lst (mr.map V.int)) hp5
    refine ⟨(by show 2 ≤ sizeLine; decide), fun p6 hp6 => ?_⟩
    have e3a := Ex.new (o := .lst [V.ref p4, V.ref p5]) hp6
    have e18 := (e1a.trans e2a).trans e3a
    have hkp6 := upd_same (H := upd (upd H17 p4 (.lst (nr.map V.int))) p5 (.lst (mr.map V.int))) (a := p6) (o := .lst [V.ref p4, V.ref p5])
    have hkp4 := e3a _ _ (e2a _ _ (upd_same (H := H17) (a := p4) (o := .lst (nr.map V.int))))
    have hkp5 := e3a _ _ (upd_same (H := upd H17 p4 (.lst (nr.map V.int))) (a := p5) (o := .lst (mr.map V.int)))
    generalize upd (upd (upd H17 p4 (.lst (nr.map V.int))) p5 (.lst (mr.map V.int))) p6 (.lst [V.ref p4, V.ref p5]) = H18 at *
    refine ⟨[some (.ref a0), some (.ref D), some (.str kd), some (.ref L), some (.int sn), some (.ref M), some (.ref x), some (.ref a'), some (.ref b'), some (.int wd), some (.ref p6), some (.ref q), some (.ref P), some (.ref O), none, none], rfl, ?_⟩
    refine ⟨_, rfl, _, rfl, _, rfl, _, rfl, _, rfl, x, kd, sn, us, rs, gs, _, _, rfl, Mk17.ex e18, hF, by omega, .inl ⟨nr, mr, ⟨P, rfl, .inl (e18 _ _ hP17)⟩, P1r, ⟨O, rfl, .inl (e18 _ _ hO17)⟩, P2r, hsum, fun as bs H19 q2 qa2 qb2 Rm e19 hq2 hqa2 hqb2 => ?_⟩⟩
    have e189 := e18.trans e19
    refine ⟨_, rfl, _, rfl, sn, M, q2, a', b', qa2, qb2, us, rs, ns, ms, as, bs, rfl, by omega, e189 _ _ hM17, R17.ex e189, hF, by omega, hq2, hqa2, hqb2, e189 _ _ ha17, e189 _ _ hb17, innr, inmr, back Rm, fun H20 e20 => ⟨true, rfl, iteF ?_⟩⟩
    have e190 := e19.trans e20
    have e180 := e18.trans e190
    refine ⟨_, rfl, _, rfl, (by show 2 ≤ sizeLine; decide), fun l hl => ?_⟩
    have en := Ex.new (o := .lst [V.ref P, V.ref O]) hl
    refine ⟨_, rfl, llD nr mr, llD nr mr, dp_ll upd_same (en _ _ (e180 _ _ hP17)) (en _ _ (e180 _ _ hO17)), dp_ll (en _ _ (e190 _ _ hkp6)) (en _ _ (e190 _ _ hkp4)) (en _ _ (e190 _ _ hkp5)), shaped_ll _ _, shaped_ll _ _, _, rfl, iteF' (by rw [eqv_ll]; rfl) ?_⟩
    have e21 := e180.trans en
    generalize upd H20 l (.lst [V.ref P, V.ref O]) = H21 at *
    have Mk21 := Mk17.ex e21
    have ha21 := e21 _ _ ha17
    have hb21 := e21 _ _ hb17
    have hM21 := e21 _ _ hM17
    have d21 := d17.ex e21
    clear e1a e2a e3a e18 e19 e189 e20 e190 e180 en e21 Mk17 ha17 hb17 hM17 R17 d17 hP17 hO17 hkp4 hkp5 hkp6 hq2 hqa2 hqb2 Rm
    refine ⟨[some (.ref a0), some (.ref D), some (.str kd), some (.ref L), some (.int sn), some (.ref M), some (.ref x), some (.ref a'), some (.ref b'), some (.int wd), some (.ref p6), some (.ref q), some (.ref P), some (.ref O), none, none], rfl, ?_⟩
    refine ⟨_, rfl, M, _, rfl, .inl (SqL.of hM21), _, rfl, (by show 3 ≤ sizeLine; decide), fun l3 hl3 => ⟨_, rfl, D, 3, rfl, d21.ex (Ex.new hl3), by decide, fun r H22 h0 h1 k22 d22 => ?_⟩⟩
    obtain ⟨wv, hat, hin, hkw⟩ : ∃ wv : V, atI [V.int us.length, .int (-1), .non] r = some wv ∧ inB wv 0 ((us.length : Int) - 1) = false ∧ ∀ H, Kd H wv := by
      have hr : r = 0 ∨ r = 1 ∨ r = 2 := by omega
      rcases hr with rfl | rfl | rfl
      · exact ⟨.int us.length, atI_nat (j := 0) rfl, decide_eq_false (show ¬ ((0 : Int) ≤ us.length ∧ (us.length : Int) ≤ (us.length : Int) - 1) by omega), fun _ => .int _⟩
      · exact ⟨.int (-1), atI_nat (j := 1) rfl, decide_eq_false (show ¬ ((0 : Int) ≤ -1 ∧ (-1 : Int) ≤ (us.length : Int) - 1) by omega), fun _ => .int _⟩
      · exact ⟨_, atI_nat (j := 2) rfl, rfl, fun _ => .non⟩
    refine ⟨l3, _, r, wv, rfl, rfl, SqL.of (k22 _ _ (Kp.ne d21 hl3) upd_same), hat, ?_⟩
    have en3 : Ex H21 (upd H21 l3 (.lst [V.int us.length, .int (-1), .non])) := Ex.new hl3
    have Mk22 := (Mk21.ex en3).kp k22 (d21.ex en3)
    have ha22 := k22 _ _ haD (en3 _ _ ha21)
    have hb22 := k22 _ _ hbD (en3 _ _ hb21)
    have wr : ∀ {H : Hp} {q : Addr} {u : List Int}, H q = some (.lst (u.map V.int ++ [wv])) → Parts us.length u → Wrong H us.length (.ref q) u.length := fun {H q u} h P => .inl ⟨q, u, wv, [], rfl, h, P, (fun z hz => nomatch hz), hkw _, .inl hin, rfl⟩
    clear k22 en3 Mk21 ha21 hb21 hM21 d21
    have cat : ∀ u : List Int, Parts us.length u → (u.map V.int).length + [wv].length ≤ sizeLine := fun u P => Nat.le_trans (show (u.map V.int).length + 1 ≤ 1000 by rw [List.length_map]; have := P.few; omega) (by decide)
    -- both wrong
    refine ⟨[some (.ref a0), some (.ref D), some (.str kd), some (.ref L), some (.int sn), some (.ref M), some (.ref x), some (.ref a'), some (.ref b'), some (.int wd), some (.ref p6), some (.ref q), some (.ref P), some (.ref O), some wv, none], rfl, ?_⟩
    refine ⟨_, rfl, _, rfl, _, rfl, (by show 1 ≤ sizeLine; decide), fun w1 hw1 => ?_⟩
    have g1 : Ex H22 (upd H22 w1 (.lst [wv])) := Ex.new hw1
    refine ⟨a', w1, _, _, rfl, rfl, g1 _ _ ha22, upd_same, cat ns P1, fun q3 hq3 => ?_⟩
    have g2 := g1.trans (Ex.new (o := .lst (ns.map V.int ++ [wv])) hq3)
    refine ⟨_, rfl, _, rfl, (by show 1 ≤ sizeLine; decide), fun w2 hw2 => ?_⟩
    have g3 := Ex.new (o := .lst [wv]) hw2
    refine ⟨b', w2, _, _, rfl, rfl, g3 _ _ (g2 _ _ hb22), upd_same, cat ms P2, fun q4 hq4 => ?_⟩
    have g4 := g3.trans (Ex.new (o := .lst (ms.map V.int ++ [wv])) hq4)
    have g5 := g2.trans g4
    refine ⟨x, kd, sn, us, rs, gs, _, _, _, rfl, Mk22.ex g5, hF, by omega, .inl (wr (g4 _ _ upd_same) P1), fun H23 r1 g6 hr1 hr2 => ?_⟩
    have g7 := g5.trans g6
    refine ⟨_, rfl, a', _, rfl, .inl (SqL.of (g7 _ _ ha22)), (by show 2 ≤ sizeLine; decide), fun r2 hr3 => ?_⟩
    have g8 := Ex.new (o := .lst [V.int (ns.map V.int).length, .bl true]) hr3
    refine ⟨nbD ns.length true, nbD ns.length true, dp_nb (g8 _ _ hr2), dp_nb (by rw [upd_same, List.length_map]), shaped_nb _ _, shaped_nb _ _, _, rfl, iteF' (by rw [eqv_nb]; rfl) ?_⟩
    have g9 := g7.trans g8
    generalize upd H23 r2 (.lst [V.int (ns.map V.int).length, .bl true]) = H24 at *
    have Mk24 := Mk22.ex g9
    have ha24 := g9 _ _ ha22
    have hb24 := g9 _ _ hb22
    have d24 := d22.ex g9
    clear g1 g2 g3 g4 g5 g6 g7 g8 g9 Mk22 ha22 hb22 d22
    -- the second wrong
    refine ⟨[some (.ref a0), some (.ref D), some (.str kd), some (.ref L), some (.int sn), some (.ref M), some (.ref x), some (.ref a'), some (.ref b'), some (.int wd), some (.ref p6), some (.ref q), some (.ref P), some (.ref O), some wv, none], rfl, ?_⟩
    refine ⟨_, rfl, _, rfl, _, rfl, _, rfl, (by show 1 ≤ sizeLine; decide), fun w2 hw2 => ?_⟩
    have g1 : Ex H24 (upd H24 w2 (.lst [wv])) := Ex.new hw2
    refine ⟨b', w2, _, _, rfl, rfl, g1 _ _ hb24, upd_same, cat ms P2, fun q4 hq4 => ?_⟩
    have g2 := g1.trans (Ex.new (o := .lst (ms.map V.int ++ [wv])) hq4)
    refine ⟨x, kd, sn, us, rs, gs, _, _, _, rfl, Mk24.ex g2, hF, by omega, .inr ⟨ns, ⟨a', rfl, .inl (g2 _ _ ha24)⟩, P1, wr upd_same P2⟩, fun H25 r1 g6 hr1 hr2 => ?_⟩
    have g7 := g2.trans g6
    refine ⟨_, rfl, b', _, rfl, .inl (SqL.of (g7 _ _ hb24)), (by show 2 ≤ sizeLine; decide), fun r2 hr3 => ?_⟩
    have g8 := Ex.new (o := .lst [V.int (ms.map V.int).length, .bl true]) hr3
    refine ⟨nbD ms.length true, nbD ms.length true, dp_nb (g8 _ _ hr2), dp_nb (by rw [upd_same, List.length_map]), shaped_nb _ _, shaped_nb _ _, _, rfl, iteF' (by rw [eqv_nb]; rfl) ?_⟩
    have g9 := g7.trans g8
    generalize upd H25 r2 (.lst [V.int (ms.map V.int).length, .bl true]) = H26 at *
    have Mk26 := Mk24.ex g9
    have hb26 := g9 _ _ hb24
    have d26 := d24.ex g9
    clear g1 g2 g6 g7 g8 g9 Mk24 ha24 hb24 d24
    -- no row
    refine ⟨[some (.ref a0), some (.ref D), some (.str kd), some (.ref L), some (.int sn), some (.ref M), some (.ref x), some (.ref a'), some (.ref b'), some (.int wd), some (.ref p6), some (.ref q), some (.ref P), some (.ref O), some wv, none], rfl, ?_⟩
    refine ⟨_, rfl, _, rfl, _, rfl, (by show 1 ≤ sizeLine; decide), fun w2 hw2 => ?_⟩
    have g1 : Ex H26 (upd H26 w2 (.lst [wv])) := Ex.new hw2
    refine ⟨b', w2, _, _, rfl, rfl, g1 _ _ hb26, upd_same, cat ms P2, fun q4 hq4 => ?_⟩
    have g2 := g1.trans (Ex.new (o := .lst (ms.map V.int ++ [wv])) hq4)
    refine ⟨x, kd, sn, us, rs, gs, _, _, -1, rfl, Mk26.ex g2, hF, by omega, .inl (.inr ⟨rfl, rfl⟩), fun H27 r1 g6 hr1 hr2 => ?_⟩
    have g7 := g2.trans g6
    refine ⟨_, rfl, (by show 2 ≤ sizeLine; decide), fun r2 hr3 => ?_⟩
    have g8 := Ex.new (o := .lst [V.int (-1), .bl true]) hr3
    refine ⟨nbD (-1) true, nbD (-1) true, dp_nb (g8 _ _ hr2), dp_nb upd_same, shaped_nb _ _, shaped_nb _ _, _, rfl, iteF' (by rw [eqv_nb]; rfl) ?_⟩
    refine ⟨_, rfl, _, rfl, _, rfl, D, kd, sn, rfl, d26.ex (g7.trans g8), hkd, by omega, by omega, k⟩
end
end K03


set_option Elab.async false
set_option linter.all false
set_option maxRecDepth 100000
set_option maxHeartbeats 0
namespace K03
open PySem PySem.Spec PyProof.Rows L2
theorem facts {w : World} {K : PySem.W.Frag} {h : Heap} {mg : Str → Option Value} {f : Addr} (X : K.In h) (G : h.Ns mainGlobals mg) (hfa : mg ("law" : Str) = some (.ref f)) (c : HkQ.obsQ fa fn fc fg ex K = HkQ.valQ fn fc fg) :
    ∃ fd : FuncData, (∀ (s : Shared) (v : Value), BindsTo s fd ⟨[v], []⟩ [("_law_script", v)]) ∧ ∀ base : Heap, K.In base → base.Ns mainGlobals mg → FnOk PP w K mg base CX0 11 f fd ["_law_script"] (spLaw K) := by
  have T := ctx_of X G c
  obtain ⟨fd, F⟩ := T.d_law
  have e := hfa.symm.trans T.g_law
  cases e
  have b := FunD.bindsA (ps := ["_law_script"]) F fun _ _ _ _ _ _ us hl => match us, hl with | [_], _ => rfl
  exact ⟨fd, fun s v => b s [v] rfl, fun base _ _ => ok_law T F⟩
end K03
open PySem PySem.W PySem.Calls PyProof.Rows
theorem PySem.Challenge.cw_keptparts_k03_two_stocks_made_even_holds : PySem.Challenge.rw_keptparts_k03_two_stocks_made_even.Holds := by
  w_on; o_law
  refine HandSHeadRun.head_any (r := OpenLaw.row PySem.Challenge.rw_keptparts_k03_two_stocks_made_even) (q := view (OpenLaw.row PySem.Challenge.rw_keptparts_k03_two_stocks_made_even).prog [67]) (H := K03.hk) (ob := K03.ob) (M := 40000) (loose := K03.names) (d := HandSHeadRun.topDef (OpenLaw.row PySem.Challenge.rw_keptparts_k03_two_stocks_made_even).prog 67) (kwd := []) K03.ob_eq
    (by kernel_rfl) (fun s => by kernel_rfl) K03.run (by kernel_rfl) (by kernel_rfl) (by kernel_rfl) (by rfl) (by first | assumption | decide +kernel) (by decide +kernel) ⟨rfl, rfl, rfl, rfl, rfl, by decide +kernel⟩ ?hw ?hc
  case hw => w_witness2
  case hc =>
    refine L2.walk_ofE (l := PySem.Challenge.rw_keptparts_k03_two_stocks_made_even) (n := 63) (k := 11) (x := "_law_script") (CX := L2.CX0) rfl (by decide) (by kernel_rfl) ⟨rfl, by decide, by decide⟩ ?F (fun _ _ _ _ z => z)
    intro w mg fa h Y G hmg0
    obtain ⟨K, KX, c⟩ := Y
    have hmg : mg ("law" : PySem.Str) = some (.ref fa) := by
      have e : (HandSHeadRun.topDef (OpenLaw.row PySem.Challenge.rw_keptparts_k03_two_stocks_made_even).prog 67).name = ("law" : PySem.Str) := by kernel_rfl
      rw [← e]
      exact hmg0
    obtain ⟨fd, hb, hF⟩ := K03.facts (w := w) KX G hmg c
    exact ⟨K, fd, K03.spLaw K, KX, hb, fun H a ns hl _ hS => ⟨a, ns, rfl, hS, hl, fun _ => rfl⟩, hF⟩

