import PyProof.Rows.All
import Wide.All
import OpenK.AllK
import Wide.FinOn
import KE.KExcSuper
import KE.OsGo
import HandS.More
import HandS.ForSpec
import HandS.HeadWalk
import HandS.ForMost
import HandS.ForExc
import HandS.Wide
import HandS.IsInst
import HandS.ExcIs
import HandS.ExcField
import HandS.DictComp
import HandS.SortInts
import PySem.Challenge.RW_gromatic_k04_surveys_made_or_refused
import HandS.OwnEq
import KE.KEqDict
import PyProof.StrLawsRepr
import KE.KExcLine
import HandS.HeadEnd
set_option Elab.async false
set_option linter.all false
set_option maxRecDepth 100000
set_option maxHeartbeats 8000000
set_option maxRecDepth 100000
set_option maxHeartbeats 4000000
namespace PySem
namespace SupX
open PySem.W PySem.Calls PyProof.Rows PySem.HandSPX
def sS (f : Str) : Scope := { kind := .function, names := [(PySem.Str.ofString "self", .local), (f, .local), (PySem.Str.ofString "__class__", .free), (PySem.Str.ofString "super", .globalImplicit)], isGenerator := false, isCoroutine := false, more := [] }
/-- the body: super().__init__(msg); self.f = f -/
def sB (f : Str) (ws : List Expr) (pj p0 p1 p2 p3 p4 q1 q2 q3 q4 : Pos) : List Stmt :=
  [.Expr (.Call (.Attribute (.Call (.Name "super" p0) [] [] p1) "__init__" p2) [.JoinedStr ws pj] [] p3) p4, .Assign [.Attribute (.Name "self" q1) f q2] (.Name f q3) q4]
structure SupTxt (prog : Program) (K : Frag) (mg : Str → Option Value) (B newId i : String) (bmB : List Value) (C fI : Addr) (f : Str) (qual : Str) (params : Arguments) (ws : List Expr) : Prop where
  FB : ExcBaseFacts B newId i bmB
  KF : KxsFacts B i
  SF : StoreFacts B bmB "object.__setattr__" "object"
  ini : excInitIn K C bmB newId = true
  over : excOver K C bmB = true
  sa : findIn K (.ref C) "__setattr__" = some (some (.builtin "object.__setattr__"))
  tk : takerIn K C f = some none
  hd : hasDictIn K C = true
  iC : findIn K (.ref C) "__init__" = some (some (.ref fI))
  tC : typeIn K (.ref fI) = some (.type "function")
  sub : subIn K (.ref C) (.type B) = some true
  mro : mroIn K C (.ref C) = some true
  sup : ks_superIn K C C "__init__" = some (some (.builtin i))
  opq : nsIn K cStatics "thirdparty.any" = some none
  nos : mg "super" = none
  top : (prog.main.scope.names.lookup ("super" : Str)).isSome = false
  hd1 : (params.posonlyargs ++ params.args).head?.map (·.arg) = some "self"
  dbg : (f == ("__debug__" : Str)) = false
  nself : f ≠ "self"
  ncls : f ≠ "__class__"
  nsup : f ≠ "super"
  fn : ∃ (oc : Value) (od : Option Addr) (doc pm : Value) (an : Option Addr) (cda : Addr) (ct : Value) (osl : Array (Option Value)) (cc : Addr) (cl : Value) (cld : Option Addr) (csl : Array (Option Value)) (ccl : Value) (cdd : Option Addr) (vs : Array Value) (ccs : Array (Option Value)) (file : Str) (tf : Tok) (pj p0 p1 p2 p3 p4 q1 q2 q3 q4 : Pos),
    K.lookup fI = some ⟨oc, od, .func (ksFn "__init__" qual params (sB f ws pj p0 p1 p2 p3 p4 q1 q2 q3 q4) (sS f) .none .none doc pm an (.ref cda) ct cc), osl⟩ ∧ codeIn K (.ref cda) qual = true ∧
    K.lookup cc = some ⟨cl, cld, .cell (some (.ref C)), csl⟩ ∧ K.lookup cda = some ⟨ccl, cdd, .fields vs, ccs⟩ ∧ vs[2]? = some (.str file tf) ∧ ((prog.main.file : Str) == file) = true ∧
    (p2.endLine == p3.line) = true ∧ ∀ (s : Shared) (x v : Value), BindsTo s (ksFn "__init__" qual params (sB f ws pj p0 p1 p2 p3 p4 q1 q2 q3 q4) (sS f) .none .none doc pm an (.ref cda) ct cc) ⟨[x, v], []⟩ [("self", x), (f, v)]
/-- the message is told, and nothing else is done -/
def Tells (prog : Program) (w : World) (ws : List Expr) (f : Str) (qual : Str) (v : Value) : Prop :=
  ∀ (A : Around) (E : Value → Shared → Prop) (s : Shared) (pj : Pos) (L a : Addr) (cd : Value) (cc : Addr) (m : Str → Option Value) (Q : Value → Shared → Prop), s.heap.Ns L m → m f = some v → (∀ y tk tk', Q (.str y tk) { s with toks := tk' }) →
    wpAny (model prog w) A (eval (.JoinedStr ws pj) (ksEnv qual (sS f) L a cd cc)) Q E s
structure Made (h h' : Heap) (e C d : Addr) (f : Str) (v : Value) : Prop where
  keep : ∀ b o, h.get? b = some o → h'.get? b = some o
  new : h.objs.size ≤ e
  obj : ∃ oe vs, h'.get? e = some oe ∧ oe.cls = .ref C ∧ oe.dict = some d ∧ oe.data = .fields vs ∧ vs[1]? = some .none
  dbig : h.objs.size ≤ d
  dne : d ≠ e
  ns : h'.Ns1 d (fun y => if y = f then some v else none)
theorem one_size (v : Value) : [v].length ≤ sizeLine := by
  rw [sizeLine_eq]
  exact (by decide : 1 ≤ 16777216)
theorem ns1_one {h : Heap} {d : Addr} {f : Str} {v : Value} {hsh : Int} {tk : Tok} {n : Nat} (e : h.get? d = some (dictOf [⟨hsh, .str f tk, v⟩] n)) : h.Ns1 d (fun y => if y = f then some v else none) := by
  refine ⟨_, _, _, e, rfl, ?_, ?_, fun y => ?_⟩
  · intro b hb
    simp at hb
    subst hb
    exact ⟨_, _, rfl⟩
  · unfold UniqKeys
    simp
  · by_cases hy : y = f
    · subst hy
      simp [nsFind, findBy, Value.isStr]
    · have : ¬ f = y := fun z => hy z.symm
      simp [nsFind, findBy, Value.isStr, hy, this]
section
variable {prog : Program} {w : World} {A : Around} {E : Value → Shared → Prop} {R : Result → Shared → Prop} {s : Shared} {K : Frag} {mg : Str → Option Value} {B newId i : String} {bmB : List Value} {C fI : Addr} {f qual : Str} {params : Arguments} {ws : List Expr}
theorem cls_at {D : Addr} {cd : ClassData} {g : Heap} (X : K.In g) (e : clsIn K D = some cd) : ∃ o, g.get? D = some o ∧ o.data = .cls cd := by
  unfold clsIn at e
  split at e
  case h_1 c d cd' sl z => exact ⟨⟨c, d, .cls cd', sl⟩, X _ _ z, by cases e; rfl⟩
  case h_2 => cases e
theorem inst_no {x : Addr} {ox : Obj} {odx : Option Obj} {g : Heap} (I : InstAt g x ox C odx) (c : ClassData) : ox.data ≠ .cls c := fun e => by
  have no := I.no
  simp [notCls, e] at no
/-- what super() looks at: the def's own file, its cell of the class, its first parameter -/
structure SupAt (prog : Program) (K : Frag) (mg m : Str → Option Value) (sc : Scope) (fd : FuncData) (fu cda cc C D x : Addr) : Prop where
  fn : ∃ c d sl, K.lookup fu = some ⟨c, d, .func fd, sl⟩
  first : ∃ ar, (fd.params.posonlyargs ++ fd.params.args).head? = some ar ∧ m ar.arg = some (.ref x) ∧ sc.names.lookup ar.arg = some .local
  code : ∃ c d vs sl file tf, K.lookup cda = some ⟨c, d, .fields vs, sl⟩ ∧ vs[2]? = some (.str file tf) ∧ ((prog.main.file : Str) == file) = true
  cell : ∃ c d sl, K.lookup cc = some ⟨c, d, .cell (some (.ref D)), sl⟩
  cls : ∃ cd, clsIn K D = some cd
  below : mroIn K C (.ref D) = some true
  nos : mg "super" = none
  names : sc.names.lookup ("super" : Str) = some .globalImplicit ∧ sc.names.lookup ("__class__" : Str) = some .free
  kind : sc.kind = .function
  top : (prog.main.scope.names.lookup ("super" : Str)).isSome = false
theorem sup_node {sc : Scope} {base h₀ : Heap} {L : Addr} {m : Str → Option Value} {news : List (Addr × Obj)} {body : List Stmt} {q : Str} {p0 p1 : Pos} {attr : Str} {whole : Sem Value} {fd : FuncData} {Q : Value → Shared → Prop} {x D fu cc cda : Addr} {ox : Obj} {odx : Option Obj}
    (F : Fr h₀ L s.heap m) (Mb : L2.Mod K mg base) (kb : ∀ b o, base.get? b = some o → h₀.get? b = some o) (N : News h₀ L s.heap news) (S : SupAt prog K mg m sc fd fu cda cc C D x) (I : InstAt s.heap x ox C odx) (hat : (attr == ("__class__" : Str)) = false)
    (h : ∀ so g, Fr h₀ L g m → News h₀ L g ((so, ks_superObj D x C) :: news) → (∀ p ∈ news, p.1 < so) → Q (.ref so) { s with heap := g }) :
    _root_.PySem.wpAt (model prog w) A (.func body (ksEnv q sc L fu (.ref cda) cc)) (attributeBase (.Call (.Name "super" p0) [] [] p1) attr (ksEnv q sc L fu (.ref cda) cc) whole) Q E s := by
  have all : ∀ b o, base.get? b = some o → s.heap.get? b = some o := fun b o e => F.keep b o (kb b o e)
  have X : K.In s.heap := (Mb.kin.keeps kb).keeps F.keep
  obtain ⟨⟨_, _, _, e1⟩, ⟨ar, e2, e3, e4⟩, ⟨_, _, _, _, _, _, e5, e6, e7⟩, ⟨_, _, _, e8⟩, ⟨cd, e9⟩, sub, nos, ⟨ns, nc⟩, kd, tp⟩ := S
  have ⟨mb, hmb, std⟩ := Mb.blt
  have sup : mb "super" = some (.type "super") := (std _ (by decide +kernel)).trans (by kernel_rfl)
  have ⟨oD, d1, d2⟩ := cls_at X e9
  obtain ⟨hp, gs, dr, tk, os⟩ := s
  apply ks_wpAt_super_base (env := ksEnv q sc L fu (.ref cda) cc) ns nc hat rfl (X _ _ e1) rfl e2 rfl (X _ _ e5) rfl e6 e7 tp
  refine ks_loadName_global kd ns (loadGlobal_builtin (env := ksEnv q sc L fu (.ref cda) cc) (Mb.glob.keeps all) nos (hmb.keeps all) sup ⟨rfl, ?_⟩)
  refine wpAny_loadName_free kd nc rfl ⟨_, X _ _ e8, rfl⟩ (wpAny_loadName_local kd e4 F.ns e3 ?_)
  refine ks_wpAny_isType_cls d1 d2 ⟨rfl, ?_⟩
  apply ks_wpAny_call_super d1 d2 I.at_ I.cls (fun c => inst_no I c) (looks_mroIn X sub)
  intro g e k
  have ⟨F', N', l'⟩ := ks_newsPush (s := ⟨hp, gs, dr, tk, os⟩) F N rfl e k
  exact h _ g F' N' l'
theorem spl_one {M : Model} {pos : Pos} {env : Env} {e : Expr} {Q : List Value → Shared → Prop} (h : wpAny M A (eval e env) (fun v s' => Q [v] s') E s) (he : starEach [e] env = [(false, eval e env)] := by rfl) : wpAny M A (spliced (backTo pos (starEach [e] env))) Q E s := by
  rw [he]
  show wpAny M A (spliced ((false, eval e env) :: backTo pos [])) Q E s
  refine Calls.spliced_cons (wpAny_mono h (fun v s₁ h₁ => ?_) fun _ _ z => z)
  exact wpAny_pure h₁
theorem sup_init {base : Heap} (T : SupTxt prog K mg B newId i bmB C fI f qual params ws) {x t0 : Addr} {v : Value} (hT : Tells prog w ws f qual v) (hp : Heap) (Mb : L2.Mod K mg base) (kb : ∀ b o, base.get? b = some o → hp.get? b = some o)
    (k0 : ∀ b o, hp.get? b = some o → s.heap.get? b = some o) (hz : hp.objs.size ≤ s.heap.objs.size) (hx : s.heap.get? x = some (excO C t0)) (hx0 : hp.get? x = none) (hroom : A.depth < recursionLimit)
    (hq : ∀ h' tk dx t1, (∀ b o, hp.get? b = some o → h'.get? b = some o) → h'.get? x = some (excObj C t1 (some dx) .none) → x < dx → h'.Ns1 dx (fun y => if y = f then some v else none) → R (.ok (.ret .none)) { s with heap := h', toks := tk }) :
    codeAny (model prog w) A (.call (.ref fI) ⟨[.ref x, v], []⟩) R s := by
  obtain ⟨oc, od, doc, pm, an, cda, ct, osl, cc, cl, cld, csl, ccl, cdd, vs, ccs, file, tf, pj, p0, p1, p2, p3, p4, q1, q2, q3, q4, ho, hcd, hcc, hcda, hvs, hfile, hl, hb⟩ := T.fn
  have X₀ : K.In hp := Mb.kin.keeps kb
  have Xs : K.In s.heap := X₀.keeps k0
  refine ks_codeAny_call_defAt (fd := ksFn "__init__" qual params (sB f ws pj p0 p1 p2 p3 p4 q1 q2 q3 q4) (sS f) .none .none doc pm an (.ref cda) ct cc) (body := sB f ws pj p0 p1 p2 p3 p4 q1 q2 q3 q4) (binds := [("self", .ref x), (f, v)]) hroom (Xs _ _ ho) rfl
    ((Mb.nolimit.keeps kb).keeps k0) (codeRec_of Xs hcd) rfl (hb s (.ref x) v) ?_ ?_ (fun h₁ hns hk₁ => ?_) rfl rfl rfl
  · intro y hy
    simp only [sS, List.mem_cons, List.not_mem_nil, or_false] at hy
    rcases hy with rfl | rfl | rfl | rfl <;> exact fun z => by cases z
  · intro y hy
    simp only [List.mem_cons, List.not_mem_nil, or_false] at hy
    rcases hy with rfl | rfl
    · rfl
    · have e : (f == ("self" : Str)) = false := by simpa using T.nself
      show List.lookup f [(("self" : Str), NameKind.local), (f, .local), ("__class__", .free), ("super", .globalImplicit)] = some .local
      simp [List.lookup, e]
  have FR : Fr hp s.heap.objs.size h₁ _ := ⟨hns, fun b o e => hk₁ b o (k0 b o e), hz⟩
  have N0 : News hp s.heap.objs.size h₁ [(x, excObj C t0 none .none)] := fun p hp' => by
    simp only [List.mem_cons, List.not_mem_nil, or_false] at hp'
    subst hp'
    exact ⟨hk₁ _ _ hx, Nat.ne_of_lt (Heap.lt_size hx), hx0⟩
  have ms : (fun y => List.lookup y ([("self", Value.ref x), (f, v)] : List (Str × Value)).reverse) "self" = some (.ref x) := by
    have e : (("self" : Str) == f) = false := by simpa using fun z => T.nself z.symm
    simp [List.lookup, e]
  have mf : (fun y => List.lookup y ([("self", Value.ref x), (f, v)] : List (Str × Value)).reverse) f = some v := by
    simp [List.lookup]
  revert ms mf FR
  generalize (fun y => List.lookup y ([("self", Value.ref x), (f, v)] : List (Str × Value)).reverse) = m
  intro FR ms mf
  obtain ⟨ar, har, hara⟩ : ∃ ar, (params.posonlyargs ++ params.args).head? = some ar ∧ ar.arg = "self" := by
    have := T.hd1
    cases z : (params.posonlyargs ++ params.args).head? with
    | none => rw [z] at this; cases this
    | some ar => rw [z] at this; exact ⟨ar, rfl, Option.some.inj this⟩
  obtain ⟨cdD, hD⟩ : ∃ cd, clsIn K C = some cd := by
    have := T.sup
    unfold ks_superIn at this
    cases z : clsIn K C with
    | none => rw [z] at this; cases this
    | some cd => exact ⟨cd, rfl⟩
  generalize s.heap.objs.size = L at *
  have hed : callEnv (ksFn "__init__" qual params (sB f ws pj p0 p1 p2 p3 p4 q1 q2 q3 q4) (sS f) .none .none doc pm an (.ref cda) ct cc) L fI = ksEnv qual (sS f) L fI (.ref cda) cc := rfl
  rw [hed]
  have lc : (sS f).names.lookup ("__class__" : Str) = some .free := by
    have e : (("__class__" : Str) == f) = false := by simpa using fun z => T.ncls z.symm
    show List.lookup ("__class__" : Str) [(("self" : Str), NameKind.local), (f, .local), ("__class__", .free), ("super", .globalImplicit)] = some .free
    rw [List.lookup_cons, show (("__class__" : Str) == "self") = false by decide]
    simp only [List.lookup_cons, e]
    rfl
  have lp : (sS f).names.lookup ("super" : Str) = some .globalImplicit := by
    have e : (("super" : Str) == f) = false := by simpa using fun z => T.nsup z.symm
    show List.lookup ("super" : Str) [(("self" : Str), NameKind.local), (f, .local), ("__class__", .free), ("super", .globalImplicit)] = some .globalImplicit
    rw [List.lookup_cons, show (("super" : Str) == "self") = false by decide]
    simp only [List.lookup_cons, e]
    rfl
  have lf : (sS f).names.lookup f = some .local := by
    have e : (f == ("self" : Str)) = false := by simpa using T.nself
    show List.lookup f [(("self" : Str), NameKind.local), (f, .local), ("__class__", .free), ("super", .globalImplicit)] = some .local
    simp [List.lookup, e]
  have X1 : ∀ {h : Heap}, Fr hp L h m → K.In h := fun F => X₀.keeps F.keep
  refine ks_wpAt_execs_cons (ks_wpAt_Expr_any ?_ rfl rfl)
  refine ks_wpAt_MethodCall (pl := L2.plainOf (.Call (.Name "super" p0) [] [] p1) (ksEnv qual (sS f) L fI (.ref cda) cc)) ?_ ?_
  · refine sup_node (D := C) FR Mb kb N0 ⟨⟨_, _, _, ho⟩, ⟨ar, har, by rw [hara]; exact ms, by rw [hara]; rfl⟩, ⟨_, _, _, _, _, _, hcda, hvs, hfile⟩, ⟨_, _, _, hcc⟩, ⟨_, hD⟩, T.mro, T.nos, ⟨lp, lc⟩, rfl, T.top⟩ (InstAt.of_exc0 N0 (List.mem_cons_self ..)) (by decide) fun so h₂ F2 N2 l2 => ?_
    refine kxs_method T.KF F2 X₀ N2 (List.mem_cons_self ..) (InstAt.of_exc0 N2 (List.mem_cons_of_mem _ (List.mem_cons_self ..))) T.opq T.sup T.sub (by decide) fun u h₃ F3 N3 l3 => ?_
    refine kxs_callWith1 N3 (List.mem_cons_self ..) ?_ rfl rfl
    refine spl_one ?_
    refine hT _ _ _ pj L fI _ cc m _ F3.ns mf fun y tk tk' => ⟨kxs_at N3 (List.mem_cons_self ..), ?_⟩
    refine kxs_call (t := t0) (dv := none) (c2 := .none) (nw := fun o => [(u, kxs_mw i x), (so, ks_superObj C x C), (x, o)]) F3 X₀ N3 T.FB T.ini (List.mem_cons_self ..) ?_ (one_size _) fun t1 h₄ F4 N4 l4 => ?_
    · exact .tail (Nat.ne_of_gt (l3 (x, _) (List.mem_cons_of_mem _ (List.mem_cons_self ..)))) (.tail (Nat.ne_of_gt (l2 (x, _) (List.mem_cons_self ..))) (.head fun p z => by cases z))
    (try dsimp only at N4)
    have l4x : x < t1 := l4 (x, _) (List.mem_cons_of_mem _ (List.mem_cons_of_mem _ (List.mem_cons_self ..)))
    refine ks_wpAt_execs_cons (ks_wpAt_Assign_Attr (wpAt_of_wpAny ?_) rfl)
    refine wpAny_Name (wpAny_loadName_local rfl lf F4.ns mf ?_) T.dbg
    refine wpAny_Name (wpAny_loadName_local rfl rfl F4.ns ms ?_) (by decide)
    refine set_exc0 (t := t1) (c2 := .none) (nw := fun o => [(t1, excTup [.str y tk]), (u, kxs_mw i x), (so, ks_superObj C x C), (x, o)]) T.SF F4 X₀ N4 (List.mem_cons_of_mem _ (List.mem_cons_of_mem _ (List.mem_cons_of_mem _ (List.mem_cons_self ..)))) T.sa T.over T.tk T.hd rfl ?_ (by show 1 ≤ 1000; decide) fun dx h₅ F5 N5 l5 => ?_
    · exact .tail (Nat.ne_of_gt l4x) (.tail (Nat.ne_of_gt (l3 (x, _) (List.mem_cons_of_mem _ (List.mem_cons_self ..)))) (.tail (Nat.ne_of_gt (l2 (x, _) (List.mem_cons_self ..))) (.head fun p z => by cases z)))
    (try dsimp only at N5)
    have l5x : x < dx := l5 (x, _) (List.mem_cons_of_mem _ (List.mem_cons_of_mem _ (List.mem_cons_of_mem _ (List.mem_cons_self ..))))
    refine wpAt_of_wpAny (wpAny_execs_nil ?_)
    exact hq h₅ _ dx t1 F5.keep (N5 (x, _) (List.mem_cons_of_mem _ (List.mem_cons_of_mem _ (List.mem_cons_of_mem _ (List.mem_cons_of_mem _ (List.mem_cons_self ..)))))).1 l5x (ns1_one (N5 (dx, _) (List.mem_cons_self ..)).1)
  · rw [arm_eval_Call]
    refine congrArg _ (funext fun ov => congrArg _ (funext fun _ => ?_))
    rw [L2.mcall_line rfl hl]
    rfl
theorem sup_made {base : Heap} (T : SupTxt prog K mg B newId i bmB C fI f qual params ws) {v : Value} (hT : Tells prog w ws f qual v) (Mb : L2.Mod K mg base) (kb : ∀ b o, base.get? b = some o → s.heap.get? b = some o) (hroom : A.depth + 1 < recursionLimit)
    (hq : ∀ h' tk e d, Made s.heap h' e C d f v → R (.ok (.ret (.ref e))) { s with heap := h', toks := tk }) :
    codeAny (model prog w) A (.call (.ref C) ⟨[v], []⟩) R s := by
  have X : K.In s.heap := Mb.kin.keeps kb
  obtain ⟨nm, N', qn, bs, bm, hdct, sn, sub, ab, col, dd, k0, k1, k2, k3, k5, hC, hbm⟩ := excInit_of X T.ini
  obtain ⟨hp, g, dr, tk, os⟩ := s
  have k : ∀ b o, hp.get? b = some o → ((hp.push (kdv_tup [v])).push (excO C hp.objs.size)).get? b = some o := fun b o e => Heap.get?_push_of_some _ (Heap.get?_push_of_some _ e)
  have hget : ((hp.push (kdv_tup [v])).push (excO C hp.objs.size)).get? (hp.objs.size + 1) = some (excO C hp.objs.size) := by heap_get
  have hnx : hp.get? (hp.objs.size + 1) = none := by
    cases e : hp.get? (hp.objs.size + 1) with
    | none => rfl
    | some o => exact absurd (Nat.lt_of_succ_lt (Heap.lt_size e)) (Nat.lt_irrefl _)
  refine call_own T.FB hbm hC (looks_findIn X T.iC) (fun self => bind_fn X self T.tC) (one_size v) ?_
  refine sup_init (s := ⟨(hp.push (kdv_tup [v])).push (excO C hp.objs.size), g, dr, tk, os⟩) (t0 := hp.objs.size) T hT hp Mb kb k ?_ hget hnx ?_ fun h' tk' dx t1 kk hx hlt hns => ?_
  · show hp.objs.size ≤ ((hp.push (kdv_tup [v])).push (excO C hp.objs.size)).objs.size
    rw [Heap.size_push, Heap.size_push]
    omega
  · show A.depth + 1 < recursionLimit
    exact hroom
  · exact ⟨rfl, hq h' tk' (hp.objs.size + 1) dx ⟨kk, Nat.le_succ _, ⟨_, _, hx, rfl, rfl, rfl, rfl⟩, Nat.le_of_lt (Nat.lt_of_succ_lt hlt), Nat.ne_of_gt hlt, hns⟩⟩
end
end SupX
end PySem
namespace L2
open PySem PySem.Spec PyProof.Rows
theorem relO_one {v : V} {v' : Value} (n : Str) (r : RelV v v') (f : Str) : RelO (List.lookup f [(n, v)]) (if f = n then some v' else none) := by
  by_cases hw : f = n
  · subst hw
    rw [if_pos rfl]
    have q : List.lookup f [(f, v)] = some v := by simp [List.lookup]
    rw [q]
    exact r
  · rw [if_neg hw]
    have qw : (f == n) = false := by simpa using hw
    have q2 : List.lookup f [(n, v)] = none := by simp [List.lookup, qw]
    rw [q2]
    trivial
/-- C(e), an own error whose __init__ says super().__init__(f"..") and keeps e as the field f -/
def tMkSup (C : Addr) (f : Str) (ok : V → Prop) (ta : TA) : St → Hp → XK → Prop := fun σ H Q => ta σ H fun vs H1 => ∃ v, vs = [v] ∧ ok v ∧ ∀ d, H1 d = none → Q (.ref C) (some d) (upd H1 d (.xd [(f, v)]))
/-- what is read of the class beside its __init__ -/
structure SupC (K : PySem.W.Frag) (mg : Str → Option Value) (n : Str) (C : Addr) : Prop where
  gC : mg n = some (.ref C)
  kC : PySem.W.keepIn K (.ref C) = true
  exC : PySem.W.subIn K (.ref C) (.type "BaseException") = some true
  tyC : PySem.W.typeIn K (.ref C) = some (.type "type")
section
variable {X : Cx} {C fI : Addr} {B newId i : String} {bmB : List Value} {f qual n : Str} {params : Arguments} {ws : List Expr} {ok : V → Prop}
theorem pmk_sup {a : Expr} {ta : TA} {p pos : Pos} {k : Nat} (T : PySem.SupX.SupTxt X.prog X.K X.mg B newId i bmB C fI f qual params ws) (S : SupC X.K X.mg n C) (hT : ∀ v v', ok v → RelV v v' → PySem.SupX.Tells X.prog X.w ws f qual v') (hr : Room k X.A) (ha : PA X [a] ta) (hg : Gl X n)
    (hdb : (n == ("__debug__" : Str)) = false := by decide) (he : starEach (a :: []) X.env = (false, eval a X.env) :: starEach [] X.env := by rfl) (hpl : (backTo pos (starEach [] X.env)).any (·.1) = false := by rfl) :
    PMk X (.Call (.Name n p) [a] [] pos) (tMkSup C f ok ta) := by
  intro pins s σ H Q I h
  refine wpAny_Call_Name_kw (ld_glob I hg S.gC ?_ hdb)
  refine PySem.W.callWith_K (h₀ := X.base) I.ok.mod.kin S.kC (thn (ha.run pos pins s σ H _ I h) fun us s1 hh => ?_) he hpl
  obtain ⟨vs, H1, I1, r1, v, ev, okv, q1⟩ := hh
  subst ev
  refine ⟨I1.kIn, ?_⟩
  cases r1 with
  | cons rv rn =>
    rename_i v' us'
    cases rn
    show wpAny _ _ (call (.ref C) [v']) _ _ _
    have kb := I1.bk
    obtain ⟨hp, g, dr, tk, os⟩ := s1
    refine wpAny_call (PySem.SupX.sup_made T (hT v v' okv rv) I1.mod kb (by have := hr.dp; omega) fun h' tk' e d M => ?_)
    show MkP X pins σ Q (.ref e) ⟨h', g, dr, tk', os⟩
    obtain ⟨oe, fv, hoe, hc, hd, hdat, h1⟩ := M.obj
    have hns := M.ns
    obtain ⟨G', g1, g2⟩ := restrict h' fun b => decide (b ≠ e)
    have gk : ∀ b, b ≠ e → G'.get? b = h'.get? b := fun b hb => g1 b (decide_eq_true hb)
    have ge : G'.get? e = none := g2 e (by simp)
    have old : ∀ b o, hp.get? b = some o → G'.get? b = some o := fun b o q => (gk b (Nat.ne_of_lt (Nat.lt_of_lt_of_le (Heap.lt_size q) M.new))).trans (M.keep b o q)
    have ob : ObjOk X.prog X.w (upd H1 d (.xd [(f, v)])) G' d (.xd [(f, v)]) := ⟨_, hns.at (fun o q => (gk d M.dne).trans q), fun y => relO_one f rv y⟩
    have J : Inv X pins σ (upd H1 d (.xd [(f, v)])) ⟨G', g, dr, tk', os⟩ := I1.laid (t' := tk') old M.dbig ob
    refine ⟨e, oe, fv, ⟨G', g, dr, tk', os⟩, _, .ref C, some d, rfl, J, fun b o q => ?_, ge, hoe, ⟨hc, hd⟩, hdat, h1, ?_, rfl, I1.bare, raises_own S.exC S.tyC, q1 d (I1.hok.fresh M.dbig)⟩
    · by_cases hb : b = e
      · have q' : G'.get? b = some o := q
        rw [hb, ge] at q'; cases q'
      · exact (gk b hb).symm.trans q
    · rw [upd_ne (Ne.symm M.dne)]
      exact I1.hok.fresh M.new
/-- raise C(e) -/
def tRaiseSup (C : Addr) (f : Str) (ok : V → Prop) (W : WX) (ta : TA) : TS := fun _ σ H => tMkSup C f ok ta σ H fun cls d H' => W cls d σ H'
theorem ps_raiseSup {a : Expr} {ta : TA} {W : WX} {p pos pos2 : Pos} {k : Nat} (hc : X.calm = true) (T : PySem.SupX.SupTxt X.prog X.K X.mg B newId i bmB C fI f qual params ws) (S : SupC X.K X.mg n C) (hT : ∀ v v', ok v → RelV v v' → PySem.SupX.Tells X.prog X.w ws f qual v') (hr : Room k X.A) (tk : Takes X W) (ha : PA X [a] ta) (hg : Gl X n)
    (hdb : (n == ("__debug__" : Str)) = false := by decide) (he : starEach (a :: []) X.env = (false, eval a X.env) :: starEach [] X.env := by rfl) (hpl : (backTo pos (starEach [] X.env)).any (·.1) = false := by rfl) :
    PS X (.Raise (some (.Call (.Name n p) [a] [] pos)) none pos2) (tRaiseSup C f ok W ta) := ps_raise hc tk (pmk_sup T S hT hr ha hg hdb he hpl)
end
end L2
namespace PySem
namespace SupX
open PySem.W PySem.Calls PyProof.Rows PySem.HandSPX
/-- what repr tells of plain things, and how long it is at most -/
def Shows (v : Value) : Prop := (∃ x t, v = .str x t ∧ (reprText x).length ≤ 1000000) ∨ (∃ i t, v = .int i t ∧ i.natAbs.log2 < 1920) ∨ (∃ b, v = .bool b) ∨ v = .none
section
variable {prog : Program} {w : World} {A : Around} {E : Value → Shared → Prop} {s : Shared}
theorem shown_repr {v : Value} {Q : Value → Shared → Prop} (hv : Shows v) (h : ∀ y t tk, y.length ≤ 1000000 → Q (.str y t) { s with toks := tk }) : wpAny (model prog w) A (pyReprObj v) (fun r s₂ => wpAny (model prog w) A (formatField r Str.empty) Q E s₂) E s := by
  rcases hv with ⟨x, t, rfl, hx⟩ | ⟨i, t, rfl, hi⟩ | ⟨b, rfl⟩ | rfl
  · have hz : (reprText x).length ≤ sizeLine := by rw [sizeLine_eq]; omega
    exact pyReprObj_str (wpAny_formatField_str (h _ _ _ hx) (h _ _ _ hx) hz) hz
  · have hx : (Str.ofString (toString i)).length ≤ 1000000 := by
      have e := int_text_length_le (k := 1920) (by decide) hi
      rw [ofString_length]
      omega
    exact pyReprObj_int hi (wpAny_formatField_str (h _ _ _ hx) (h _ _ _ hx) (int_text_fits hi))
  · have hx : (if b = true then Str.ofString "True" else Str.ofString "False").length ≤ 1000000 := by cases b <;> decide
    exact pyReprObj_bool (wpAny_formatField_str (h _ _ _ hx) (h _ _ _ hx) (by rw [sizeLine_eq]; exact Nat.le_trans hx (by decide)))
  · have hx : (Str.ofString "None").length ≤ 1000000 := by decide
    exact pyReprObj_none (wpAny_formatField_str (h _ _ _ hx) (h _ _ _ hx) (by rw [sizeLine_eq]; exact Nat.le_trans hx (by decide)))
/-- f"pre{x!r}" -/
theorem tells_r {pre f qual : Str} {j : Nat} {p1 p2 p3 : Pos} {v : Value} (hv : Shows v) (hl : (sS f).names.lookup f = some .local) (hd : (f == ("__debug__" : Str)) = false) (hz : pre.length ≤ 1000) : Tells prog w [.Constant (.str pre) j p1, .FormattedValue (.Name f p2) 114 none p3] f qual v := by
  intro A E s pj L a cd cc m Q hn hm hq
  have e0 : Str.empty.length = 0 := rfl
  refine wpAny_JoinedStr ?_
  show wpAny _ _ _ _ _ _
  refine Calls.Constant_str ⟨pre, _, rfl, ?_, ?_⟩
  · simp only [Str.length_append, sizeLine_eq, e0]; omega
  refine wpAny_FormattedValue_repr (wpAny_Name (wpAny_loadName_local rfl hl hn hm ?_) hd)
  refine shown_repr hv fun y t tk hy => ⟨y, t, rfl, ?_, ?_⟩
  · simp only [Str.length_append, sizeLine_eq, e0]; omega
  · exact ⟨by simp only [Str.length_append, sizeLine_eq, e0]; omega, hq _ _ _⟩
/-- f"pre{x!r}post" -/
theorem tells_rp {pre post f qual : Str} {j j2 : Nat} {p1 p2 p3 p4 : Pos} {v : Value} (hv : Shows v) (hl : (sS f).names.lookup f = some .local) (hd : (f == ("__debug__" : Str)) = false) (hz : pre.length ≤ 1000) (hz2 : post.length ≤ 1000) : Tells prog w [.Constant (.str pre) j p1, .FormattedValue (.Name f p2) 114 none p3, .Constant (.str post) j2 p4] f qual v := by
  intro A E s pj L a cd cc m Q hn hm hq
  have e0 : Str.empty.length = 0 := rfl
  refine wpAny_JoinedStr ?_
  show wpAny _ _ _ _ _ _
  refine Calls.Constant_str ⟨pre, _, rfl, ?_, ?_⟩
  · simp only [Str.length_append, sizeLine_eq, e0]; omega
  refine wpAny_FormattedValue_repr (wpAny_Name (wpAny_loadName_local rfl hl hn hm ?_) hd)
  refine shown_repr hv fun y t tk hy => ⟨y, t, rfl, ?_, ?_⟩
  · simp only [Str.length_append, sizeLine_eq, e0]; omega
  refine Calls.Constant_str ⟨post, _, rfl, ?_, ?_⟩
  · simp only [Str.length_append, sizeLine_eq, e0]; omega
  · exact ⟨by simp only [Str.length_append, sizeLine_eq, e0]; omega, hq _ _ _⟩
end
end SupX
end PySem

set_option Elab.async false
set_option linter.all false
set_option maxRecDepth 100000
set_option maxHeartbeats 8000000
namespace G
open PySem L2

def top (i : Nat) : Stmt := PySem.Challenge.pw_gromatic_k04_surveys_made_or_refused.main.body.getD i (.Pass ⟨0, 0, 0, 0⟩)
abbrev s_is_word : Stmt := top 11
abbrev n_is_word : List Str := ["text", "sign"]
abbrev p_is_word : List Str := ["text"]
theorem sc_is_word : FnScope n_is_word p_is_word (defScope s_is_word) := ⟨rfl, rfl, rfl, by decide +kernel, rfl, by decide +kernel, by decide +kernel⟩
abbrev s_is_name : Stmt := top 12
abbrev n_is_name : List Str := ["name"]
abbrev p_is_name : List Str := ["name"]
theorem sc_is_name : FnScope n_is_name p_is_name (defScope s_is_name) := ⟨rfl, rfl, rfl, by decide +kernel, rfl, by decide +kernel, by decide +kernel⟩
abbrev s_is_within : Stmt := top 13
abbrev n_is_within : List Str := ["number", "low", "high"]
abbrev p_is_within : List Str := ["number", "low", "high"]
theorem sc_is_within : FnScope n_is_within p_is_within (defScope s_is_within) := ⟨rfl, rfl, rfl, by decide +kernel, rfl, by decide +kernel, by decide +kernel⟩
abbrev s_check_name : Stmt := top 14
abbrev n_check_name : List Str := ["name"]
abbrev p_check_name : List Str := ["name"]
theorem sc_check_name : FnScope n_check_name p_check_name (defScope s_check_name) := ⟨rfl, rfl, rfl, by decide +kernel, rfl, by decide +kernel, by decide +kernel⟩
abbrev s_check_number : Stmt := top 15
abbrev n_check_number : List Str := ["number", "low", "high"]
abbrev p_check_number : List Str := ["number", "low", "high"]
theorem sc_check_number : FnScope n_check_number p_check_number (defScope s_check_number) := ⟨rfl, rfl, rfl, by decide +kernel, rfl, by decide +kernel, by decide +kernel⟩
abbrev s_check_place : Stmt := top 20
abbrev n_check_place : List Str := ["at", "number"]
abbrev p_check_place : List Str := ["at"]
theorem sc_check_place : FnScope n_check_place p_check_place (defScope s_check_place) := ⟨rfl, rfl, rfl, by decide +kernel, rfl, by decide +kernel, by decide +kernel⟩
abbrev s_check_reading : Stmt := top 21
abbrev n_check_reading : List Str := ["marks", "number", "reading", "one", "other", "across", "up", "weight", "name"]
abbrev p_check_reading : List Str := ["marks", "number", "reading"]
theorem sc_check_reading : FnScope n_check_reading p_check_reading (defScope s_check_reading) := ⟨rfl, rfl, rfl, by decide +kernel, rfl, by decide +kernel, by decide +kernel⟩
abbrev s_Survey___init__ : Stmt := inClass (top 22) 0
abbrev n_Survey___init__ : List Str := ["self", "marks", "readings", "name", "number"]
abbrev p_Survey___init__ : List Str := ["self", "marks", "readings"]
theorem sc_Survey___init__ : FnScope n_Survey___init__ p_Survey___init__ (defScope s_Survey___init__) := ⟨rfl, rfl, rfl, by decide +kernel, rfl, by decide +kernel, by decide +kernel⟩
abbrev s_law_bag : Stmt := top 24
abbrev n_law_bag : List Str := ["_law_script"]
abbrev p_law_bag : List Str := ["_law_script"]
theorem sc_law_bag : FnScope n_law_bag p_law_bag (defScope s_law_bag) := ⟨rfl, rfl, rfl, by decide +kernel, rfl, by decide +kernel, by decide +kernel⟩
abbrev s_law_draw : Stmt := top 25
abbrev n_law_draw : List Str := ["_law_bag_here", "_law_many", "_law_cells", "_law_slot", "_law_cell", "_law_seed"]
abbrev p_law_draw : List Str := ["_law_bag_here", "_law_many"]
theorem sc_law_draw : FnScope n_law_draw p_law_draw (defScope s_law_draw) := ⟨rfl, rfl, rfl, by decide +kernel, rfl, by decide +kernel, by decide +kernel⟩
abbrev s_law_whole : Stmt := top 26
abbrev n_law_whole : List Str := ["_law_found"]
abbrev p_law_whole : List Str := ["_law_found"]
theorem sc_law_whole : FnScope n_law_whole p_law_whole (defScope s_law_whole) := ⟨rfl, rfl, rfl, by decide +kernel, rfl, by decide +kernel, by decide +kernel⟩
abbrev s_law_same : Stmt := top 27
abbrev n_law_same : List Str := ["_law_found", "_law_due_here", "_law_name_here", "_law_k"]
abbrev p_law_same : List Str := ["_law_found", "_law_due_here"]
theorem sc_law_same : FnScope n_law_same p_law_same (defScope s_law_same) := ⟨rfl, rfl, rfl, by decide +kernel, rfl, by decide +kernel, by decide +kernel⟩
abbrev s_law_any : Stmt := top 28
abbrev n_law_any : List Str := ["_law_bag_here", "_law_some"]
abbrev p_law_any : List Str := ["_law_bag_here", "_law_some"]
theorem sc_law_any : FnScope n_law_any p_law_any (defScope s_law_any) := ⟨rfl, rfl, rfl, by decide +kernel, rfl, by decide +kernel, by decide +kernel⟩
abbrev s_law_name : Stmt := top 29
abbrev n_law_name : List Str := ["_law_bag_here", "_law_letters", "_law_k"]
abbrev p_law_name : List Str := ["_law_bag_here"]
theorem sc_law_name : FnScope n_law_name p_law_name (defScope s_law_name) := ⟨rfl, rfl, rfl, by decide +kernel, rfl, by decide +kernel, by decide +kernel⟩
abbrev s_law_names : Stmt := top 30
abbrev n_law_names : List Str := ["_law_bag_here", "_law_many", "_law_found", "_law_k", "_law_name_here"]
abbrev p_law_names : List Str := ["_law_bag_here", "_law_many"]
theorem sc_law_names : FnScope n_law_names p_law_names (defScope s_law_names) := ⟨rfl, rfl, rfl, by decide +kernel, rfl, by decide +kernel, by decide +kernel⟩
abbrev s_law_odd_name : Stmt := top 31
abbrev n_law_odd_name : List Str := ["_law_bag_here"]
abbrev p_law_odd_name : List Str := ["_law_bag_here"]
theorem sc_law_odd_name : FnScope n_law_odd_name p_law_odd_name (defScope s_law_odd_name) := ⟨rfl, rfl, rfl, by decide +kernel, rfl, by decide +kernel, by decide +kernel⟩
abbrev s_law_marks : Stmt := top 32
abbrev n_law_marks : List Str := ["_law_bag_here", "_law_many", "_law_found", "_law_name_here"]
abbrev p_law_marks : List Str := ["_law_bag_here", "_law_many"]
theorem sc_law_marks : FnScope n_law_marks p_law_marks (defScope s_law_marks) := ⟨rfl, rfl, rfl, by decide +kernel, rfl, by decide +kernel, by decide +kernel⟩
abbrev s_law_readings : Stmt := top 33
abbrev n_law_readings : List Str := ["_law_bag_here", "_law_names_here", "_law_many", "_law_found", "_law_number", "_law_k", "_law_one", "_law_two", "_law_sizes", "_law_high"]
abbrev p_law_readings : List Str := ["_law_bag_here", "_law_names_here", "_law_many"]
theorem sc_law_readings : FnScope n_law_readings p_law_readings (defScope s_law_readings) := ⟨rfl, rfl, rfl, by decide +kernel, rfl, by decide +kernel, by decide +kernel⟩
abbrev s_law_bad_number : Stmt := top 34
abbrev n_law_bad_number : List Str := ["_law_bag_here", "_law_far"]
abbrev p_law_bad_number : List Str := ["_law_bag_here"]
theorem sc_law_bad_number : FnScope n_law_bad_number p_law_bad_number (defScope s_law_bad_number) := ⟨rfl, rfl, rfl, by decide +kernel, rfl, by decide +kernel, by decide +kernel⟩
abbrev s_law_bend : Stmt := top 35
abbrev n_law_bend : List Str := ["_law_bag_here", "_law_marks_here", "_law_readings_here", "_law_kind", "_law_names_here", "_law_numbers", "_law_bad", "_law_number", "_law_one", "_law_two", "_law_across", "_law_high", "_law_heavy", "_law_row"]
abbrev p_law_bend : List Str := ["_law_bag_here", "_law_marks_here", "_law_readings_here"]
theorem sc_law_bend : FnScope n_law_bend p_law_bend (defScope s_law_bend) := ⟨rfl, rfl, rfl, by decide +kernel, rfl, by decide +kernel, by decide +kernel⟩
abbrev s_law_good : Stmt := top 36
abbrev n_law_good : List Str := ["_law_number", "_law_most"]
abbrev p_law_good : List Str := ["_law_number", "_law_most"]
theorem sc_law_good : FnScope n_law_good p_law_good (defScope s_law_good) := ⟨rfl, rfl, rfl, by decide +kernel, rfl, by decide +kernel, by decide +kernel⟩
abbrev s_law_wrong_reading : Stmt := top 37
abbrev n_law_wrong_reading : List Str := ["_law_marks_here", "_law_number", "_law_row", "_law_name_here", "_law_part"]
abbrev p_law_wrong_reading : List Str := ["_law_marks_here", "_law_number", "_law_row"]
theorem sc_law_wrong_reading : FnScope n_law_wrong_reading p_law_wrong_reading (defScope s_law_wrong_reading) := ⟨rfl, rfl, rfl, by decide +kernel, rfl, by decide +kernel, by decide +kernel⟩
abbrev s_law_due : Stmt := top 38
abbrev n_law_due : List Str := ["_law_marks_here", "_law_readings_here", "_law_name_here", "_law_plain", "_law_number", "_law_wrong", "_law_sign"]
abbrev p_law_due : List Str := ["_law_marks_here", "_law_readings_here"]
theorem sc_law_due : FnScope n_law_due p_law_due (defScope s_law_due) := ⟨rfl, rfl, rfl, by decide +kernel, rfl, by decide +kernel, by decide +kernel⟩
abbrev s_law_told : Stmt := top 39
abbrev n_law_told : List Str := ["_law_marks_here", "_law_readings_here", "_law_told_here", "e"]
abbrev p_law_told : List Str := ["_law_marks_here", "_law_readings_here"]
theorem sc_law_told : FnScope n_law_told p_law_told (defScope s_law_told) := ⟨rfl, rfl, rfl, by decide +kernel, rfl, by decide +kernel, by decide +kernel⟩
abbrev s_law : Stmt := top 40
abbrev n_law : List Str := ["_law_script", "_law_bag_here", "_law_good_here", "_law_k", "_law_marks_here", "_law_readings_here", "_law_turn", "_law_handed", "_law_due_here"]
abbrev p_law : List Str := ["_law_script"]
theorem sc_law : FnScope n_law p_law (defScope s_law) := ⟨rfl, rfl, rfl, by decide +kernel, rfl, by decide +kernel, by decide +kernel⟩
open PyProof.Rows in
section
open PySem.SupX in
def okV (v : V) : Prop := (∃ x : Str, v = .str x ∧ (PySem.reprText x).length ≤ 1000000) ∨ (∃ i : Int, v = .int i ∧ i.natAbs.log2 < 1920) ∨ (∃ b, v = .bl b) ∨ v = .non
theorem okV_shows {v : V} {u : Value} (h : okV v) (r : RelV v u) : PySem.SupX.Shows u := by
  rcases h with ⟨x, rfl, hx⟩ | ⟨i, rfl, hi⟩ | ⟨b, rfl⟩ | rfl
  · obtain ⟨t, rfl⟩ := r
    exact .inl ⟨x, t, rfl, hx⟩
  · obtain ⟨t, rfl⟩ := r
    exact .inr (.inl ⟨i, t, rfl, hi⟩)
  · exact .inr (.inr (.inl ⟨b, r⟩))
  · exact .inr (.inr (.inr r))
/-- an own error class with one field, its __init__ by super() -/
def SupE (P : Program) (K : PySem.W.Frag) (mg : Str → Option Value) (n f : Str) (C : Addr) : Prop :=
  ∃ (B newId i : String) (bmB : List Value) (fI : Addr) (qual : Str) (params : Arguments) (ws : List Expr), PySem.SupX.SupTxt P K mg B newId i bmB C fI f qual params ws ∧ SupC K mg n C ∧ XfC K C ∧ PySem.W.findIn K (.ref C) f = some none ∧ ∀ w v u, okV v → RelV v u → PySem.SupX.Tells P w ws f qual u
def SupL (P : Program) (K : PySem.W.Frag) (n f : Str) (C : Addr) : Prop := ∀ mg : Str → Option Value, mg n = some (.ref C) → mg "super" = none → SupE P K mg n f C
theorem pmk_E {X : Cx} {C : Addr} {n f : Str} {a : Expr} {ta : TA} {p pos : Pos} {k : Nat} (T : SupE X.prog X.K X.mg n f C) (hr : Room k X.A) (ha : PA X [a] ta) (hg : Gl X n)
    (hdb : (n == ("__debug__" : Str)) = false := by decide) (he : starEach (a :: []) X.env = (false, eval a X.env) :: starEach [] X.env := by rfl) (hpl : (backTo pos (starEach [] X.env)).any (·.1) = false := by rfl) :
    PMk X (.Call (.Name n p) [a] [] pos) (tMkSup C f okV ta) := by
  obtain ⟨B, newId, i, bmB, fI, qual, params, ws, T, S, xf, nf, hT⟩ := T
  exact pmk_sup T S (fun v u => hT X.w v u) hr ha hg hdb he hpl
theorem ps_raiseE {X : Cx} {C : Addr} {n f : Str} {a : Expr} {ta : TA} {W : WX} {p pos pos2 : Pos} {k : Nat} (hc : X.calm = true) (T : SupE X.prog X.K X.mg n f C) (hr : Room k X.A) (tk : Takes X W) (ha : PA X [a] ta) (hg : Gl X n)
    (hdb : (n == ("__debug__" : Str)) = false := by decide) (he : starEach (a :: []) X.env = (false, eval a X.env) :: starEach [] X.env := by rfl) (hpl : (backTo pos (starEach [] X.env)).any (·.1) = false := by rfl) :
    PS X (.Raise (some (.Call (.Name n p) [a] [] pos)) none pos2) (tRaiseSup C f okV W ta) := ps_raise hc tk (pmk_E T hr ha hg hdb he hpl)
open PySem.SupX PySem.W in
theorem supL_mk {P : Program} {K : PySem.W.Frag} {B newId i : String} {bmB : List Value} {C fI : Addr} {n f qual : Str} {params : Arguments} {pre : Str} {j : Nat} {w1 w2 w3 : Pos}
    {oc : Value} {od : Option Addr} {doc pm : Value} {an : Option Addr} {cda : Addr} {ct : Value} {osl : Array (Option Value)} {cc : Addr} {cl : Value} {cld : Option Addr} {csl : Array (Option Value)} {ccl : Value} {cdd : Option Addr} {vs : Array Value} {ccs : Array (Option Value)} {file : Str} {tf : Tok} {pj p0 p1 p2 p3 p4 q1 q2 q3 q4 : Pos}
    (FB : ExcBaseFacts B newId i bmB) (KF : KxsFacts B i) (SF : StoreFacts B bmB "object.__setattr__" "object")
    (iC : findIn K (.ref C) "__init__" = some (some (.ref fI)))
    (l : K.lookup fI = some ⟨oc, od, .func (ksFn "__init__" qual params (sB f [.Constant (.str pre) j w1, .FormattedValue (.Name f w2) 114 none w3] pj p0 p1 p2 p3 p4 q1 q2 q3 q4) (sS f) .none .none doc pm an (.ref cda) ct cc), osl⟩)
    (cd : codeIn K (.ref cda) qual = true) (lc : K.lookup cc = some ⟨cl, cld, .cell (some (.ref C)), csl⟩) (lk : K.lookup cda = some ⟨ccl, cdd, .fields vs, ccs⟩) (hvs : vs[2]? = some (.str file tf)) (hfile : ((P.main.file : Str) == file) = true)
    (hl : (p2.endLine == p3.line) = true) (hb : ∀ (s : Shared) (x v : Value), BindsTo s (ksFn "__init__" qual params (sB f [.Constant (.str pre) j w1, .FormattedValue (.Name f w2) 114 none w3] pj p0 p1 p2 p3 p4 q1 q2 q3 q4) (sS f) .none .none doc pm an (.ref cda) ct cc) ⟨[x, v], []⟩ [("self", x), (f, v)])
    (ini : excInitIn K C bmB newId = true) (over : excOver K C bmB = true) (sa : findIn K (.ref C) "__setattr__" = some (some (.builtin "object.__setattr__"))) (tk : takerIn K C f = some none) (hd : hasDictIn K C = true) (tC : typeIn K (.ref fI) = some (.type "function"))
    (sub : subIn K (.ref C) (.type B) = some true) (mro : mroIn K C (.ref C) = some true) (sup : ks_superIn K C C "__init__" = some (some (.builtin i))) (opq : nsIn K cStatics "thirdparty.any" = some none) (top : (P.main.scope.names.lookup ("super" : Str)).isSome = false)
    (hd1 : (params.posonlyargs ++ params.args).head?.map (·.arg) = some "self") (nn : (f != "self" && f != "__class__" && f != "super" && f != "__debug__") = true) (lf : (sS f).names.lookup f = some .local) (hz : pre.length ≤ 1000)
    (kC : keepIn K (.ref C) = true) (exC : subIn K (.ref C) (.type "BaseException") = some true) (tyC : typeIn K (.ref C) = some (.type "type")) (xf : XfC K C) (nf : findIn K (.ref C) f = some none) : SupL P K n f C := by
  intro mg gC nos
  simp only [Bool.and_eq_true, bne_iff_ne, ne_eq] at nn
  obtain ⟨⟨⟨n1, n2⟩, n3⟩, n4⟩ := nn
  have dbg : (f == ("__debug__" : Str)) = false := by simpa using n4
  exact ⟨B, newId, i, bmB, fI, qual, params, _, ⟨FB, KF, SF, ini, over, sa, tk, hd, iC, tC, sub, mro, sup, opq, nos, top, hd1, dbg, n1, n2, n3,
    ⟨oc, od, doc, pm, an, cda, ct, osl, cc, cl, cld, csl, ccl, cdd, vs, ccs, file, tf, pj, p0, p1, p2, p3, p4, q1, q2, q3, q4, l, cd, lc, lk, hvs, hfile, hl, hb⟩⟩, ⟨gC, kC, exC, tyC⟩, xf, nf,
    fun w v u hv r => tells_r (okV_shows hv r) lf dbg hz⟩

end
theorem gcd_fmod (a b : Int) : Int.gcd b (a.fmod b) = Int.gcd a b := by
  rw [Int.fmod_def, Int.sub_eq_add_neg, ← Int.mul_neg]
  rw [Int.gcd_add_mul_left_right]
  exact Int.gcd_comm b a
theorem fmod_abs_lt (a : Int) {b : Int} (h : b ≠ 0) : (a.fmod b).natAbs < b.natAbs := by
  rcases Int.lt_or_gt_of_ne h with h | h
  · have e : a.fmod b = -((-a).fmod (-b)) := by
      rw [Int.neg_fmod_neg]; omega
    have h1 := Int.fmod_nonneg_of_pos (-a) (show 0 < -b by omega)
    have h2 := Int.fmod_lt_of_pos (-a) (show 0 < -b by omega)
    omega
  · have h1 := Int.fmod_nonneg_of_pos a h
    have h2 := Int.fmod_lt_of_pos a h
    omega
theorem abs_if (x : Int) : (if x < 0 then -x else x) = ((x.natAbs : Nat) : Int) := by split <;> omega
def cOf (o u : Int) : Int := if u < 0 then -((Int.gcd o u : Nat) : Int) else ((Int.gcd o u : Nat) : Int)
def rN (o u : Int) : Int := o.fdiv (cOf o u)
def rD (o u : Int) : Int := u.fdiv (cOf o u)
def CDivZ (_ j : Int) : Prop := j ≠ 0 ∧ j.natAbs.log2 < 9000
theorem op_fdivZ {X : Cx} : OpR X (binaryOp .FloorDiv) (rI CDivZ fun i j => .int (i.fdiv j)) := opI fun _ _ _ _ _ _ _ hc q => PyProof.Rows.floordiv_int hc.1 q (.inl (PyProof.noPylong_of_log2 hc.2))
theorem cOf_ok {o u : Int} (h : u ≠ 0) (hb : u.natAbs < 2 ^ 9000) (x : Int) : CDivZ x (cOf o u) := by
  have g : 0 < Int.gcd o u := Int.gcd_pos_of_ne_zero_right o h
  have l : Int.gcd o u ≤ u.natAbs := Nat.le_of_dvd (by omega) (Int.gcd_dvd_natAbs_right o u)
  have n : (cOf o u).natAbs = Int.gcd o u := by
    unfold cOf
    split <;> omega
  refine ⟨fun z => ?_, ?_⟩
  · rw [z] at n
    simp at n
    omega
  · rw [n]
    exact PySem.Flt.log2_lt_of (by decide) (Nat.lt_of_le_of_lt l hb)
theorem pow9000 {n : Nat} (h : n < 2 ^ 200) : n < 2 ^ 9000 := Nat.lt_of_lt_of_le h (Nat.pow_le_pow_right (by decide) (by decide))
theorem small_le {n : Nat} (h : n ≤ 1000) : n ≤ sizeLine := Nat.le_of_lt (small1000 h)
theorem two {a b : V} : [a, b].length ≤ sizeLine := by
  show 2 ≤ sizeLine
  decide

structure Bag (H : Hp) (b c : Addr) : Prop where
  ne : b ≠ c
  at_ : ∃ (ns : List Int) (slot seed : Int), H b = some (.lst [.ref c, .int slot, .int seed]) ∧ H c = some (.lst (ns.map V.int)) ∧ ns.length ≤ 63 ∧ 0 ≤ slot ∧ 0 ≤ seed ∧ seed < 2147483647
/-- all but what stands at b and c stands -/
def Kept (b c : Addr) (H H' : Hp) : Prop := ∀ p o, H p = some o → p ≠ b → p ≠ c → H' p = some o
theorem Kept.refl {b c : Addr} {H : Hp} : Kept b c H H := fun _ _ e _ _ => e
theorem Kept.trans {b c : Addr} {H H' H'' : Hp} (h : Kept b c H H') (h' : Kept b c H' H'') : Kept b c H H'' := fun p o e n m => h' p o (h p o e n m) n m
theorem kept_same {b c : Addr} {H H' : Hp} (h : Same H H') : Kept b c H H' := fun p o e _ _ => h p o e
theorem same_upd {H : Hp} {p : Addr} {o : HO} (h : H p = none) : Same H (upd H p o) := fun b x e => by
  rw [upd_ne (ne_of_none e h)]
  exact e
theorem Kept.upd {b c p : Addr} {H H' : Hp} {o : HO} (h : Kept b c H H') (hp : H' p = none) : Kept b c H (upd H' p o) := h.trans (kept_same (same_upd hp))
theorem Bag.same {H H' : Hp} {b c : Addr} (h : Bag H b c) (s : Same H H') : Bag H' b c := by
  obtain ⟨ne, ns, sl, sd, h1, h2, r⟩ := h
  exact ⟨ne, ns, sl, sd, s _ _ h1, s _ _ h2, r⟩
theorem Bag.upd {b c p : Addr} {H : Hp} {o : HO} (h : Bag H b c) (hp : H p = none) : Bag (upd H p o) b c := h.same (same_upd hp)
theorem Bag.off {H : Hp} {b c p : Addr} (h : Bag H b c) (hp : H p = none) : p ≠ b ∧ p ≠ c := by
  obtain ⟨_, ns, sl, sd, h1, h2, _⟩ := h
  exact ⟨(ne_of_none h1 hp).symm, (ne_of_none h2 hp).symm⟩
/-- a thing that is no list of the bag's -/
theorem Bag.tup {H : Hp} {b c p : Addr} {xs : List V} (h : Bag H b c) (hp : H p = some (.tup xs)) : p ≠ b ∧ p ≠ c := by
  obtain ⟨_, ns, sl, sd, h1, h2, _⟩ := h
  exact ⟨ne_of hp h1 (by intro z; cases z), ne_of hp h2 (by intro z; cases z)⟩
theorem seq_by {t u : TS} {D : Ends} {σ : St} {H : Hp} (Pv : St → Hp → Prop) (h2 : ∀ σ H, Pv σ H → u D σ H) (h1 : (∀ σ H, Pv σ H → u D σ H) → t { D with nx := u D } σ H) : tSeq t u D σ H := h1 h2
theorem seq_c {u : TS} {i : Nat} {v : V} {D : Ends} {σ : St} {H : Hp} (h : u D (σ.set i (some v)) H) : tSeq (tAsg (tC v) (gName i)) u D σ H := h
theorem seq_asg {te : TE} {u : TS} {i : Nat} {D : Ends} {σ : St} {H : Hp} (h : te σ H fun x H1 => u D (σ.set i (some x)) H1) : tSeq (tAsg te (gName i)) u D σ H := h
theorem seq_sub {te ta ti : TE} {r : TSet} {u : TS} {D : Ends} {σ : St} {H : Hp} (h : te σ H fun x H1 => gSub ta ti r x σ H1 fun σ' H' => u D σ' H') : tSeq (tAsg te (gSub ta ti r)) u D σ H := h
theorem seq_drop {te : TE} {u : TS} {D : Ends} {σ : St} {H : Hp} (h : te σ H fun _ H1 => u D σ H1) : tSeq (tDrop te) u D σ H := h
theorem next_u {u : TS} {D : Ends} {σ : St} {H : Hp} (h : u D σ H) : tNext { D with nx := u D } σ H := h
theorem nx_u {u : TS} {D : Ends} {rt : VK} {bk ct : St → Hp → Prop} {σ : St} {H : Hp} (h : u D σ H) : Ends.nx { nx := u D, rt := rt, bk := bk, ct := ct } σ H := h
theorem yes_ {σ : St} {H : Hp} {A B : Hp → Prop} (h : A H) : tYes σ H (fun b H3 => if b = true then A H3 else B H3) := by
  show if true = true then A H else B H
  exact iteT h
theorem int_at {ns : List Int} {i : Int} (h0 : 0 ≤ i) (h : i < (ns.length : Int)) : ∃ v : Int, atI (ns.map V.int) i = some (.int v) := by
  have ek : i = ((i.toNat : Nat) : Int) := by omega
  have hk : i.toNat < ns.length := by omega
  rw [ek]
  exact ⟨ns[i.toNat], atI_nat (by rw [List.getElem?_map, List.getElem?_eq_getElem hk] <;> rfl)⟩
theorem ix_at {n : Nat} {i : Int} (h0 : 0 ≤ i) (h : i < (n : Int)) : ixN n i = some i.toNat := by
  unfold ixN
  rw [if_pos h0, if_pos h]
theorem set_ints (ns : List Int) (j : Nat) (v : Int) : (ns.map V.int).set j (.int v) = (ns.set j v).map V.int := by
  rw [List.map_set]
theorem at_mem {xs : List V} {r : Int} (h0 : 0 ≤ r) (h : r < (xs.length : Int)) : ∃ v, v ∈ xs ∧ atI xs r = some v := by
  have hk : r.toNat < xs.length := by omega
  have e := atI_nat (xs := xs) (j := r.toNat) (List.getElem?_eq_getElem hk)
  rw [show ((r.toNat : Nat) : Int) = r by omega] at e
  exact ⟨_, List.getElem_mem hk, e⟩
theorem cut_ints (ns : List Int) (lo hi : Option Int) : ∃ ms : List Int, cutV (ns.map V.int) lo hi = ms.map V.int ∧ ms.length ≤ ns.length := by
  refine ⟨(ns.drop (HT.sIx (ns.map V.int).length 0 lo)).take (HT.sIx (ns.map V.int).length (ns.map V.int).length hi - HT.sIx (ns.map V.int).length 0 lo), ?_, ?_⟩
  · unfold cutV
    rw [List.map_take, List.map_drop]
  · rw [List.length_take, List.length_drop]
    omega
theorem ne_true {u : Int} (z : (!decide (V.int u = V.int 0)) = true) : u ≠ 0 := fun e => by
  subst e
  exact absurd z (by decide)
theorem ne_false {u : Int} (z : ¬ (!decide (V.int u = V.int 0)) = true) : u = 0 := by
  by_cases e : u = 0
  · exact e
  · exact absurd (show (!decide (V.int u = V.int 0)) = true by rw [decide_eq_false (fun q => e (V.int.inj q))]; rfl) z

def leS (a b : Str) : Prop := a.cps.toList ≤ b.cps.toList
theorem leS_trans {a b c : Str} (h : leS a b) (h' : leS b c) : leS a c := List.le_trans h h'
theorem leS_anti {a b : Str} (h : leS a b) (h' : leS b a) : a = b := by
  have e : a.cps.toList = b.cps.toList := List.le_antisymm h h'
  cases a
  cases b
  exact congrArg Str.mk (Array.toList_inj.mp e)
theorem ris_all : ∀ (l : List Str) (p : Str), PyProof.Rows.risingS p l = true → (∀ x ∈ l, leS p x) ∧ l.Pairwise leS
  | [], _, _ => ⟨(fun _ h => nomatch h), .nil⟩
  | x :: r, p, h => by
    unfold PyProof.Rows.risingS at h
    rw [Bool.and_eq_true, Bool.not_eq_true'] at h
    rw [PyProof.Rows.ltCps_eq] at h
    have hx : leS p x := of_decide_eq_false h.1
    obtain ⟨i1, i2⟩ := ris_all r x h.2
    refine ⟨fun y hy => ?_, List.pairwise_cons.mpr ⟨i1, i2⟩⟩
    rcases List.mem_cons.mp hy with rfl | hy
    · exact hx
    · exact leS_trans hx (i1 y hy)
theorem srt_pw : ∀ {l : List Str}, PyProof.Rows.sortedS l = true → l.Pairwise leS
  | [], _ => .nil
  | x :: r, h => List.pairwise_cons.mpr (ris_all r x h)
theorem srt_same {a b : List Str} (hp : a.Perm b) (ha : PyProof.Rows.sortedS a = true) (hb : PyProof.Rows.sortedS b = true) : a = b :=
  hp.eq_of_pairwise (fun _ _ _ _ h1 h2 => leS_anti h1 h2) (srt_pw ha) (srt_pw hb)
theorem srtI_same {a b : List Int} (hp : a.Perm b) (ha : a.Pairwise (· ≤ ·)) (hb : b.Pairwise (· ≤ ·)) : a = b :=
  hp.eq_of_pairwise (fun _ _ _ _ h1 h2 => Int.le_antisymm h1 h2) ha hb
theorem lay_all : ∀ {ds : List PyData}, (∀ d ∈ ds, d.canLay0 = true) → PyData.canLayAll0 ds = true
  | [], _ => rfl
  | d :: r, h => by
    unfold PyData.canLayAll0
    rw [h d List.mem_cons_self, lay_all fun x hx => h x (List.mem_cons_of_mem _ hx)]
    rfl
theorem depth_all : ∀ {ds : List PyData} {n : Nat}, (∀ d ∈ ds, d.depth ≤ n) → PyData.depthAll ds ≤ n
  | [], _, _ => Nat.zero_le _
  | d :: r, n, h => by
    unfold PyData.depthAll
    exact Nat.max_le.mpr ⟨h d List.mem_cons_self, depth_all fun x hx => h x (List.mem_cons_of_mem _ hx)⟩

structure Bt (mg : Str → Option Value) : Prop where
  len_ : mg "len" = none
  list_ : mg "list" = none
  isinstance_ : mg "isinstance" = none
  int_ : mg "int" = none
  bool_ : mg "bool" = none
  str_ : mg "str" = none
  dict_ : mg "dict" = none
  tuple_ : mg "tuple" = none
  all_ : mg "all" = none
  range_ : mg "range" = none
  sorted_ : mg "sorted" = none
  super_ : mg "super" = none
structure At (K : PySem.W.Frag) (mg : Str → Option Value) (name : String) (st : Stmt) (ps : List Str) (f : Addr) (fd : FuncData) : Prop where
  F : Fun K (Str.ofString name) (Str.ofString name) st f fd
  b : Binds K fd ps []
  m : mg (Str.ofString name) = some (.ref f)
structure AtM (K : PySem.W.Frag) (C : Addr) (name qual : String) (st : Stmt) (ps : List Str) (f : Addr) (fd : FuncData) : Prop where
  F : Fun K (Str.ofString name) (Str.ofString qual) st f fd
  b : Binds K fd ps []
  me : Meth K C (Str.ofString name) f
structure Env (P : Program) (K : PySem.W.Frag) (mg : Str → Option Value) where
  f_is_word : Addr
  d_is_word : FuncData
  f_is_name : Addr
  d_is_name : FuncData
  f_is_within : Addr
  d_is_within : FuncData
  f_check_name : Addr
  d_check_name : FuncData
  f_check_number : Addr
  d_check_number : FuncData
  f_check_place : Addr
  d_check_place : FuncData
  f_check_reading : Addr
  d_check_reading : FuncData
  f_Survey___init__ : Addr
  d_Survey___init__ : FuncData
  f_law_bag : Addr
  d_law_bag : FuncData
  f_law_draw : Addr
  d_law_draw : FuncData
  f_law_whole : Addr
  d_law_whole : FuncData
  f_law_same : Addr
  d_law_same : FuncData
  f_law_any : Addr
  d_law_any : FuncData
  f_law_name : Addr
  d_law_name : FuncData
  f_law_names : Addr
  d_law_names : FuncData
  f_law_odd_name : Addr
  d_law_odd_name : FuncData
  f_law_marks : Addr
  d_law_marks : FuncData
  f_law_readings : Addr
  d_law_readings : FuncData
  f_law_bad_number : Addr
  d_law_bad_number : FuncData
  f_law_bend : Addr
  d_law_bend : FuncData
  f_law_good : Addr
  d_law_good : FuncData
  f_law_wrong_reading : Addr
  d_law_wrong_reading : FuncData
  f_law_due : Addr
  d_law_due : FuncData
  f_law_told : Addr
  d_law_told : FuncData
  f_law : Addr
  d_law : FuncData
  C_BadName : Addr
  C_BadNumber : Addr
  C_BadReading : Addr
  C_NoMark : Addr
  C_Survey : Addr
  A_is_word : At K mg "is_word" s_is_word p_is_word f_is_word d_is_word
  A_is_name : At K mg "is_name" s_is_name p_is_name f_is_name d_is_name
  A_is_within : At K mg "is_within" s_is_within p_is_within f_is_within d_is_within
  A_check_name : At K mg "check_name" s_check_name p_check_name f_check_name d_check_name
  A_check_number : At K mg "check_number" s_check_number p_check_number f_check_number d_check_number
  A_check_place : At K mg "check_place" s_check_place p_check_place f_check_place d_check_place
  A_check_reading : At K mg "check_reading" s_check_reading p_check_reading f_check_reading d_check_reading
  A_Survey___init__ : AtM K C_Survey "__init__" "Survey.__init__" s_Survey___init__ p_Survey___init__ f_Survey___init__ d_Survey___init__
  A_law_bag : At K mg "_law_bag" s_law_bag p_law_bag f_law_bag d_law_bag
  A_law_draw : At K mg "_law_draw" s_law_draw p_law_draw f_law_draw d_law_draw
  A_law_whole : At K mg "_law_whole" s_law_whole p_law_whole f_law_whole d_law_whole
  A_law_same : At K mg "_law_same" s_law_same p_law_same f_law_same d_law_same
  A_law_any : At K mg "_law_any" s_law_any p_law_any f_law_any d_law_any
  A_law_name : At K mg "_law_name" s_law_name p_law_name f_law_name d_law_name
  A_law_names : At K mg "_law_names" s_law_names p_law_names f_law_names d_law_names
  A_law_odd_name : At K mg "_law_odd_name" s_law_odd_name p_law_odd_name f_law_odd_name d_law_odd_name
  A_law_marks : At K mg "_law_marks" s_law_marks p_law_marks f_law_marks d_law_marks
  A_law_readings : At K mg "_law_readings" s_law_readings p_law_readings f_law_readings d_law_readings
  A_law_bad_number : At K mg "_law_bad_number" s_law_bad_number p_law_bad_number f_law_bad_number d_law_bad_number
  A_law_bend : At K mg "_law_bend" s_law_bend p_law_bend f_law_bend d_law_bend
  A_law_good : At K mg "_law_good" s_law_good p_law_good f_law_good d_law_good
  A_law_wrong_reading : At K mg "_law_wrong_reading" s_law_wrong_reading p_law_wrong_reading f_law_wrong_reading d_law_wrong_reading
  A_law_due : At K mg "_law_due" s_law_due p_law_due f_law_due d_law_due
  A_law_told : At K mg "_law_told" s_law_told p_law_told f_law_told d_law_told
  A_law : At K mg "law" s_law p_law f_law d_law
  B : Bt mg
  X_BadName : SupE P K mg "BadName" "name" C_BadName
  X_BadNumber : SupE P K mg "BadNumber" "number" C_BadNumber
  X_BadReading : SupE P K mg "BadReading" "number" C_BadReading
  X_NoMark : SupE P K mg "NoMark" "name" C_NoMark
  xm_BadName_BadName : PySem.W.exmOne K (.ref C_BadName) (.ref C_BadName) = some true
  xm_BadName_BadNumber : PySem.W.exmOne K (.ref C_BadName) (.ref C_BadNumber) = some false
  xm_BadName_BadReading : PySem.W.exmOne K (.ref C_BadName) (.ref C_BadReading) = some false
  xm_BadName_NoMark : PySem.W.exmOne K (.ref C_BadName) (.ref C_NoMark) = some false
  xm_BadNumber_BadName : PySem.W.exmOne K (.ref C_BadNumber) (.ref C_BadName) = some false
  xm_BadNumber_BadNumber : PySem.W.exmOne K (.ref C_BadNumber) (.ref C_BadNumber) = some true
  xm_BadNumber_BadReading : PySem.W.exmOne K (.ref C_BadNumber) (.ref C_BadReading) = some false
  xm_BadNumber_NoMark : PySem.W.exmOne K (.ref C_BadNumber) (.ref C_NoMark) = some false
  xm_BadReading_BadName : PySem.W.exmOne K (.ref C_BadReading) (.ref C_BadName) = some false
  xm_BadReading_BadNumber : PySem.W.exmOne K (.ref C_BadReading) (.ref C_BadNumber) = some false
  xm_BadReading_BadReading : PySem.W.exmOne K (.ref C_BadReading) (.ref C_BadReading) = some true
  xm_BadReading_NoMark : PySem.W.exmOne K (.ref C_BadReading) (.ref C_NoMark) = some false
  xm_NoMark_BadName : PySem.W.exmOne K (.ref C_NoMark) (.ref C_BadName) = some false
  xm_NoMark_BadNumber : PySem.W.exmOne K (.ref C_NoMark) (.ref C_BadNumber) = some false
  xm_NoMark_BadReading : PySem.W.exmOne K (.ref C_NoMark) (.ref C_BadReading) = some false
  xm_NoMark_NoMark : PySem.W.exmOne K (.ref C_NoMark) (.ref C_NoMark) = some true
  cl_Survey : Cls K C_Survey
  M_Survey : Mk K C_Survey f_Survey___init__
  g_Survey : mg "Survey" = some (.ref C_Survey)
  n1_Survey : NoAttr K C_Survey "own_marks"
  n2_Survey : NoAttr K C_Survey "own_readings"
  t1 : Tok
  t2 : Tok
  t3 : Tok
  t4 : Tok
  t5 : Tok
  c_MOST : mg "MOST" = some (.int 999 t1)
  c_LEAST_WEIGHT : mg "LEAST_WEIGHT" = some (.int 1 t2)
  c_MOST_WEIGHT : mg "MOST_WEIGHT" = some (.int 9 t3)
  c_LONGEST : mg "LONGEST" = some (.int 6 t4)
  c_LETTERS : mg "LETTERS" = some (.str "abcdefghijklmnopqrstuvwxyz" t5)
section
variable {P : Program} {w : World} {K : PySem.W.Frag} {mg : Str → Option Value} {base : Heap}

/-! ### the bag -/
def spBag (K : PySem.W.Frag) : Sp := fun vs H Q _ => ∃ (a : Addr) (ns : List Int), vs = [.ref a] ∧ SqL K H a (ns.map V.int) ∧ ns.length ≤ 63 ∧ ∀ b c H', Bag H' b c → H b = none → H c = none → Same H H' → Q (.ref b) H'
theorem ok_law_bag (ev : Env P K mg) : FnOk P w K mg base CX0 1 ev.f_law_bag ev.d_law_bag p_law_bag (spBag K) := by
  refine ev.A_law_bag.F.ok sc_law_bag (fun vs H Q E h => ?_) (fun cdv A outer s H vs Q E hr h => ?_)
  · obtain ⟨a, ns, rfl, _⟩ := h
    rfl
  obtain ⟨a, ns, rfl, hS, hl, q⟩ := h
  refine ⟨_, (pss_one (ps_ret (pe_lst (pa_cons (pe_callTy call_list_of (by rfl) ev.B.list_ (by decide +kernel) (pa_cons (pe_slice sl_list (pv 0) po_none (po_some pe_int)) pa_nil)) (pa_cons pe_int (pa_cons pe_int pa_nil)))))), ?_⟩
  obtain ⟨ms, em, lm⟩ := cut_ints ns none (some 63)
  refine ⟨_, rfl, _, rfl, a, _, rfl, hS, fun d nd => ?_⟩
  have s1 : Same H (upd H d (.lst (cutV (ns.map V.int) none (some 63)))) := same_upd nd
  refine ⟨d, _, rfl, .inl (SqL.of upd_same), fun c nc => ?_⟩
  have s2 := s1.trans (same_upd (o := .lst (cutV (ns.map V.int) none (some 63))) nc)
  refine ⟨(by show 3 ≤ sizeLine; decide), fun b nb => ?_⟩
  have ne : b ≠ c := fun z => by
    rw [z, upd_same] at nb
    cases nb
  refine q b c _ ⟨ne, ms, 0, 11, upd_same, ?_, by omega, by decide, by decide, by decide⟩ (s2.free nb) (s1.free nc) (s2.trans (same_upd nb))
  rw [upd_ne ne.symm, upd_same, em]

/-! ### a draw -/
def Els (b c : Addr) (H H' : Hp) : Prop := ∀ p, p ≠ b → p ≠ c → H' p = H p
theorem Els.trans {b c : Addr} {H H' H'' : Hp} (h : Els b c H H') (h' : Els b c H' H'') : Els b c H H'' := fun p n m => (h' p n m).trans (h p n m)
theorem Els.kept {b c : Addr} {H H' : Hp} (h : Els b c H H') : Kept b c H H' := fun p _ e n m => (h p n m).trans e
theorem Els.tup {b c p : Addr} {H H' : Hp} {xs : List V} (h : Els b c H H') (hB : Bag H b c) (e : H p = some (.tup xs)) : H' p = some (.tup xs) := by
  obtain ⟨n1, n2⟩ := hB.tup e
  exact (h p n1 n2).trans e
def spDraw : Sp := fun vs H Q _ => ∃ (b c : Addr) (m : Int), vs = [.ref b, .int m] ∧ Bag H b c ∧ 0 < m ∧ m < 1073741824 ∧ ∀ (r : Int) (H' : Hp), 0 ≤ r → r < m → Bag H' b c → Els b c H H' → Q (.int r) H'
theorem ok_law_draw (ev : Env P K mg) : FnOk P w K mg base CX0 1 ev.f_law_draw ev.d_law_draw p_law_draw spDraw := by
  refine ev.A_law_draw.F.ok sc_law_draw (fun vs H Q E h => ?_) (fun cdv A outer s H vs Q E hr h => ?_)
  · obtain ⟨b, c, m, rfl, _⟩ := h
    rfl
  obtain ⟨b, c, m, rfl, ⟨ne, ns, slot, seed, hb, hc, hn, h0, h1, h2⟩, m0, m1, q⟩ := h
  refine ⟨_, (pss_cons (ps_set (i := 2) sc_law_draw.nd rfl (Or.inl rfl) (pe_ix ix_list (pv 0) pe_int (fun _ _ => rfl)))
    (pss_cons (ps_set (i := 3) sc_law_draw.nd rfl (Or.inl rfl) (pe_ix ix_list (pv 0) pe_int (fun _ _ => rfl)))
    (pss_cons (ps_set (i := 4) sc_law_draw.nd rfl (Or.inl rfl) pe_int)
    (pss_cons (ps_if (pt_cmpR op_gt (pe_callB call_len_seq (by rfl) ev.B.len_ PySem.boot_len (pa_cons (pv 2) pa_nil)) pe_int (nomark _))
    (pss_one (ps_set (i := 4) sc_law_draw.nd rfl (Or.inl rfl) (pe_ix ix_list (pv 2) (pe_op op_mod (pv 3) (pe_callB call_len_seq (by rfl) ev.B.len_ PySem.boot_len (pa_cons (pv 2) pa_nil))) (fun _ _ => rfl)))) pss_nil)
    (pss_cons (ps_if (pt_cmpR op_lt (pv 4) pe_int (nomark _))
    (pss_one (ps_set (i := 4) sc_law_draw.nd rfl (Or.inl rfl) (pe_op op_sub pe_int (pv 4)))) pss_nil)
    (pss_cons (ps_if (pt_cmpR op_ge (pv 4) (pe_op op_pow pe_int pe_int) (nomark _))
    (pss_cons (ps_asg (pe_op op_fdiv (pv 4) (pv 1)) (pg_sub (pv 2) (pe_op op_mod (pv 3) (pe_callB call_len_seq (by rfl) ev.B.len_ PySem.boot_len (pa_cons (pv 2) pa_nil))) set_list))
    (pss_one (ps_ret (pe_op op_mod (pv 4) (pv 1))))) pss_nil)
    (pss_cons (ps_asg (pe_op op_add (pv 3) pe_int) (pg_sub (pv 0) pe_int set_list))
    (pss_cons (ps_set (i := 5) sc_law_draw.nd rfl (Or.inl rfl) (pe_ix ix_list (pv 0) pe_int (fun _ _ => rfl)))
    (pss_cons (ps_set (i := 5) sc_law_draw.nd rfl (Or.inl rfl) (pe_op op_add (pe_op op_mul (pe_op op_mod (pe_op op_mul (pv 5) (pv 5)) pe_int) pe_int) (pe_op op_mul (pv 5) pe_int)))
    (pss_cons (ps_asg (pe_op op_mod (pe_op op_add (pe_op op_add (pe_op op_add (pv 5) (pe_op op_mul (pv 4) pe_int)) (pe_op op_mul (pv 3) pe_int)) pe_int) pe_int) (pg_sub (pv 0) pe_int set_list))
    (pss_one (ps_ret (pe_op op_mod (pe_op op_fdiv (pe_op op_mod (pe_op op_mul (pe_ix ix_list (pv 0) pe_int (fun _ _ => rfl)) pe_int) pe_int) pe_int) (pv 1)))))))))))))), ?_⟩
  refine seq_asg ⟨_, rfl, b, _, _, _, rfl, rfl, SqL.of hb, atI_nat (j := 0) rfl, ?_⟩
  refine seq_asg ⟨_, rfl, b, _, _, _, rfl, rfl, SqL.of hb, atI_nat (j := 1) rfl, ?_⟩
  have hlm : (ns.map V.int).length = ns.length := List.length_map _
  have len0 : ns ≠ [] → (0 : Int) < (((ns.map V.int).length : Nat) : Int) := fun z => by
    rw [hlm]
    have := List.length_pos_iff.mpr z
    omega
  refine seq_c ?_
  refine seq_by (fun σ H' => H' = H ∧ ∃ cell : Int, σ = [some (.ref b), some (.int m), some (.ref c), some (.int slot), some (.int cell), none] ∧ (cell ≠ 0 → ns ≠ [])) ?_ (fun k => ?_)
  rotate_left
  · refine ⟨_, rfl, c, _, rfl, .inl (SqL.of hc), _, _, rfl, rfl, _, rfl, ?_⟩
    refine ite2 (fun z => ?_) (fun z => ?_)
    · have z' : (0 : Int) < (((ns.map V.int).length : Nat) : Int) := of_decide_eq_true z
      obtain ⟨v, hv⟩ := int_at (ns := ns) (i := slot % (((ns.map V.int).length : Nat) : Int)) (Int.emod_nonneg _ (by omega)) (by rw [← hlm]; exact Int.emod_lt_of_pos _ z')
      refine ⟨_, rfl, _, rfl, _, rfl, c, _, rfl, .inl (SqL.of hc), _, _, rfl, rfl, z', c, _, _, _, rfl, rfl, SqL.of hc, hv, ?_⟩
      refine k _ _ ⟨rfl, v, rfl, fun _ e => ?_⟩
      rw [hlm, e] at z'
      exact absurd z' (by decide)
    · exact k _ _ ⟨rfl, 0, rfl, fun e => absurd rfl e⟩
  rintro σ H' ⟨rfl, cell, rfl, hcell⟩
  refine seq_by (fun σ H2 => H2 = H' ∧ ∃ cell : Int, σ = [some (.ref b), some (.int m), some (.ref c), some (.int slot), some (.int cell), none] ∧ 0 ≤ cell ∧ (cell ≠ 0 → ns ≠ [])) ?_ (fun k => ?_)
  rotate_left
  · refine ⟨_, rfl, _, _, rfl, rfl, _, rfl, ?_⟩
    refine ite2 (fun z => ?_) (fun z => ?_)
    · have z' : cell < 0 := of_decide_eq_true z
      exact ⟨_, rfl, _, _, rfl, rfl, k _ _ ⟨rfl, 1 - cell, rfl, by omega, fun _ => hcell (by omega)⟩⟩
    · have z' : ¬ cell < 0 := fun e => z (decide_eq_true e)
      exact k _ _ ⟨rfl, cell, rfl, by omega, hcell⟩
  rintro σ H' ⟨rfl, cell, rfl, hc0, hcell⟩
  refine ⟨_, rfl, _, _, rfl, rfl, ⟨by decide, by decide, by decide⟩, _, _, rfl, rfl, _, rfl, ?_⟩
  refine ite2 (fun z => ?_) (fun z => ?_)
  · have z' : cell ≥ (10 : Int) ^ (18 : Int).toNat := of_decide_eq_true z
    have zz : cell ≠ 0 := fun e => by
      rw [e] at z'
      exact absurd z' (by decide)
    have z2 := len0 (hcell zz)
    have b0 := Int.emod_nonneg slot (show (((ns.map V.int).length : Nat) : Int) ≠ 0 by omega)
    have b1 := Int.emod_lt_of_pos slot z2
    refine ⟨_, rfl, _, rfl, _, _, rfl, rfl, ⟨m0, m1⟩, _, rfl, _, rfl, _, rfl, c, _, rfl, .inl (SqL.of hc), _, _, rfl, rfl, z2, c, _, _, _, rfl, rfl, hc, ix_at b0 b1, ?_⟩
    refine ⟨_, rfl, _, rfl, _, _, rfl, rfl, m0, ?_⟩
    refine q _ _ (Int.emod_nonneg _ (by omega)) (Int.emod_lt_of_pos _ m0) ⟨ne, ns.set (slot % (((ns.map V.int).length : Nat) : Int)).toNat (cell / m), slot, seed, ?_, ?_, ?_, h0, h1, h2⟩ (fun p n1 n2 => ?_)
    · rw [upd_ne ne]
      exact hb
    · rw [upd_same, set_ints]
    · rw [List.length_set]
      exact hn
    · rw [upd_ne n2]
  · refine next_u ?_
    refine seq_sub ⟨_, rfl, _, _, rfl, rfl, _, rfl, b, _, _, _, rfl, rfl, hb, rfl, ?_⟩
    refine seq_asg ⟨_, rfl, b, _, _, _, rfl, rfl, SqL.of upd_same, atI_nat (j := 2) rfl, ?_⟩
    refine seq_asg ⟨_, rfl, _, rfl, _, _, rfl, rfl, .inl ⟨by omega, by omega⟩, _, _, rfl, rfl, (show (0 : Int) < 2147483629 by decide), _, _, rfl, rfl, .inr ⟨by decide, by decide⟩, _, rfl, _, _, rfl, rfl, .inr ⟨by decide, by decide⟩, _, _, rfl, rfl, ?_⟩
    refine seq_sub ⟨_, rfl, _, rfl, _, _, rfl, rfl, .inr ⟨by decide, by decide⟩, _, _, rfl, rfl, _, rfl, _, _, rfl, rfl, .inr ⟨by decide, by decide⟩, _, _, rfl, rfl, _, _, rfl, rfl, _, _, rfl, rfl, (show (0 : Int) < 2147483647 by decide), _, rfl, b, _, _, _, rfl, rfl, upd_same, rfl, ?_⟩
    generalize hn2 : seed * seed % 2147483629 * 3 + seed * 48271 + cell * 9973 + slot * 31 + 13 = big
    have g0 := Int.emod_nonneg big (show (2147483647 : Int) ≠ 0 by decide)
    have g1 := Int.emod_lt_of_pos big (show (0 : Int) < 2147483647 by decide)
    refine ⟨_, rfl, b, _, _, _, rfl, rfl, SqL.of upd_same, atI_nat (j := 2) rfl, _, _, rfl, rfl, .inr ⟨by decide, by decide⟩, _, _, rfl, rfl, (show (0 : Int) < 2147483629 by decide), _, _, rfl, rfl, ⟨by decide, by decide⟩, _, rfl, _, _, rfl, rfl, m0, ?_⟩
    refine q _ _ (Int.emod_nonneg _ (by omega)) (Int.emod_lt_of_pos _ m0) ⟨ne, ns, slot + 1, big % 2147483647, ?_, ?_, hn, by omega, g0, g1⟩ (fun p n1 n2 => ?_)
    · rw [upd_same]
      all_goals rfl
    · rw [upd_ne ne.symm, upd_ne ne.symm]
      exact hc
    · rw [upd_ne n1, upd_ne n1]

/-! ### whole numbers, things alike -/
def spWhole : Sp := fun vs H Q _ => ∃ i : Int, vs = [.int i] ∧ Q (.bl true) H
theorem ok_law_whole (ev : Env P K mg) : FnOk P w K mg base CX0 1 ev.f_law_whole ev.d_law_whole p_law_whole spWhole := by
  refine ev.A_law_whole.F.ok sc_law_whole (fun vs H Q E h => ?_) (fun cdv A outer s H vs Q E hr h => ?_)
  · obtain ⟨i, rfl, _⟩ := h
    rfl
  obtain ⟨i, rfl, q⟩ := h
  refine ⟨_, (pss_one (ps_ret (pe_and (pe_callB call_isi (by rfl) ev.B.isinstance_ (by decide +kernel) (pa_cons (pv 0) (pa_cons (pe_bltn (v := .ty "int") (by rfl) ev.B.int_ (by decide +kernel) rfl) pa_nil))) (pe_one (pe_not (pe_callB call_isi (by rfl) ev.B.isinstance_ (by decide +kernel) (pa_cons (pv 0) (pa_cons (pe_bltn (v := .ty "bool") (by rfl) ev.B.bool_ (by decide +kernel) rfl) pa_nil)))))))), ?_⟩
  refine ⟨_, rfl, _, _, _, _, true, rfl, .ty _, .base (.int i), kit_ty (by decide +kernel), true, rfl, ?_⟩
  refine iteT ?_
  exact ⟨_, rfl, _, _, _, _, false, rfl, .ty _, .base (.int i), kit_ty (by decide +kernel), false, rfl, q⟩

/-- a comprehension's walk over I from the heap H0 on: each item does Step, the end is Qd -/
def Wlk (I : It) (H0 : Hp) (Step : V → Hp → (Hp → Prop) → Prop) (Qd : Hp → Prop) : Prop := ∃ W : Nat → Nat → Hp → Prop, (∃ m, W 0 m H0) ∧
  ∀ i m H, W i m H → (I.stop i H ∧ Qd H) ∨ (I.go i H ∧ ∃ N : Hp → Prop, (∀ G, N G → ∃ m', m' < m ∧ W (i + 1) m' G) ∧ ∀ y G, I.yld i H y G → Step y G N)
theorem wlk {I : It} {H0 : Hp} {Step : V → Hp → (Hp → Prop) → Prop} {Qd : Hp → Prop} (n : Nat) (Pv : Nat → Hp → Prop) (h0 : Pv 0 H0) (done : ∀ H, Pv n H → I.stop n H ∧ Qd H) (step : ∀ i H, i < n → Pv i H → I.go i H ∧ ∀ y G, I.yld i H y G → Step y G (Pv (i + 1))) :
    Wlk I H0 Step Qd := by
  refine ⟨fun i m H => i + m = n ∧ Pv i H, ⟨n, Nat.zero_add n, h0⟩, fun i m H w => ?_⟩
  cases m with
  | zero =>
    have e : i = n := w.1
    exact .inl (e ▸ done H (e ▸ w.2))
  | succ m =>
    have s := step i H (by have := w.1; omega) w.2
    exact .inr ⟨s.1, Pv (i + 1), fun G g => ⟨m, Nat.lt_succ_self m, by have := w.1; omega, g⟩, s.2⟩
/-- what one item does in [e for x in .. if t] and in {k: v for x in .. if t}, N behind it -/
abbrev LcStep (g : TG) (tt : TT) (te : TE) (vs : List Nat) (σ : L2.St) (D : Addr) (y : V) (G : Hp) (N : Hp → Prop) : Prop :=
  g y (wipe σ vs) G fun σ' G2 => wipe σ' vs = wipe σ vs ∧ tt σ' G2 fun b G3 => if b = true then te σ' G3 (fun z G4 => ∃ l, G4 D = some (.lst l) ∧ l.length < sizeLine ∧ N (upd G4 D (.lst (l ++ [z])))) else N G3
abbrev DcStep (g : TG) (tt : TT) (tk tv : TE) (vs : List Nat) (σ : L2.St) (D : Addr) (y : V) (G : Hp) (N : Hp → Prop) : Prop :=
  g y (wipe σ vs) G fun σ' G2 => wipe σ' vs = wipe σ vs ∧ tt σ' G2 fun b G3 => if b = true then tk σ' G3 (fun a G4 => tv σ' G4 fun z G5 => ∃ l k, a = kV k ∧ G5 D = some (.dK l) ∧ l.length < sizeLine ∧ N (upd G5 D (.dK (putK l k z)))) else N G3
theorem lc_keys {d : Addr} {o : Obj} {kvs : List (Key × V)} {g : TG} {tt : TT} {te : TE} {vs : List Nat} {σ : L2.St} {H0 : Hp} {D : Addr} {Qd : Hp → Prop} (Pv : Nat → Hp → Prop) (h0 : Pv 0 (upd H0 D (.lst []))) (hl : ∀ i H, i ≤ kvs.length → Pv i H → H d = some (.frz o (.dK kvs)))
    (hs : ∀ i k v H, kvs[i]? = some (k, v) → Pv i H → LcStep g tt te vs σ D (kV k) H (Pv (i + 1))) (hd : ∀ H, Pv kvs.length H → Qd H) : Wlk (Itk d o kvs) (upd H0 D (.lst [])) (LcStep g tt te vs σ D) Qd :=
  wlk kvs.length Pv h0 (fun H p => ⟨⟨hl _ H (Nat.le_refl _) p, Nat.le_refl _⟩, hd H p⟩) fun i H c p => ⟨⟨hl i H (Nat.le_of_lt c) p, c⟩, fun y G z => by
    obtain ⟨rfl, k, v, e, rfl⟩ := z
    exact hs i k v _ e p⟩
/-- sorted(d): keys that are texts, or numbers -/
theorem call_srtK {X : Cx} (hc : X.calm = true) : CallR X (.builtin "sorted") (fun xs H Q => (∃ (a : Addr) (kvs : List (Key × V)) (ks : List Str), xs = [.ref a] ∧ Rd H a (.dK kvs) ∧ kvs.map (·.1) = ks.map Sum.inr ∧ ks.length < 64 ∧
      ∀ ys p, ys.Perm ks → PyProof.Rows.sortedS ys = true → H p = none → Q (.ref p) (upd H p (.lst (ys.map V.str)))) ∨
    ∃ (a : Addr) (kvs : List (Key × V)) (ks : List Int), xs = [.ref a] ∧ Rd H a (.dK kvs) ∧ kvs.map (·.1) = ks.map Sum.inl ∧ ks.length < 64 ∧
      ∀ (ys : List Int) (p : Addr), ys.Perm ks → ys.Pairwise (· ≤ ·) → H p = none → Q (.ref p) (upd H p (.lst (ys.map V.int)))) := by
  intro pins s σ H xs us Q I r h
  rcases h with h | h
  · exact call_sortedD hc pins s σ H xs us Q I r h
  · exact call_sortedDI hc pins s σ H xs us Q I r h
/-- the heaps from H on: what was to be read there is to be read there -/
def Up (H H' : Hp) : Prop := ∀ a u, Rd H a u → Rd H' a u
theorem up_same {H H' : Hp} (s : Same H H') : Up H H' := fun a u h => by
  rcases h with h | ⟨o, h⟩
  · exact .inl (s _ _ h)
  · exact .inr ⟨o, s _ _ h⟩
theorem Up.trans {H H' H'' : Hp} (h : Up H H') (h' : Up H' H'') : Up H H'' := fun a u r => h' a u (h a u r)
theorem up_lock {H : Hp} {d : Addr} {u : HO} {od : Obj} (h : H d = some u) (nf : ∀ o v, u ≠ .frz o v) : Up H (upd H d (.frz od u)) := fun a v r => by
  by_cases e : a = d
  · subst e
    rcases r with r | ⟨o, r⟩
    · rw [h] at r
      cases r
      exact .inr ⟨od, upd_same⟩
    · rw [h] at r
      exact absurd (Option.some.inj r) (nf _ _)
  · rcases r with r | ⟨o, r⟩
    · exact .inl (by rw [upd_ne e]; exact r)
    · exact .inr ⟨o, by rw [upd_ne e]; exact r⟩
theorem tyT {K : PySem.W.Frag} {H : Hp} {a : Addr} {xs : List V} (h : SqT K H a xs) : TyX K H (.ref a) (.type "tuple") := by
  rcases h with (h | ⟨o, h⟩) | ⟨o, _, _, h, hc, _⟩
  · exact .base (.tup h)
  · exact .fTuple h
  · exact .kTuple h hc
theorem tyL {K : PySem.W.Frag} {H : Hp} {a : Addr} {xs : List V} (h : SqL K H a xs) : TyX K H (.ref a) (.type "list") := by
  rcases h with (h | ⟨o, h⟩) | ⟨o, _, _, h, hc, _⟩
  · exact .base (.lst h)
  · exact .base (.frz h)
  · exact .kList h hc
theorem sqT_up {K : PySem.W.Frag} {H H' : Hp} {a : Addr} {xs : List V} (u : Up H H') (h : SqT K H a xs) : SqT K H' a xs := by
  rcases h with h | h
  · exact .inl (u _ _ h)
  · exact .inr h
theorem sqL_up {K : PySem.W.Frag} {H H' : Hp} {a : Addr} {xs : List V} (u : Up H H') (h : SqL K H a xs) : SqL K H' a xs := by
  rcases h with h | h
  · exact .inl (u _ _ h)
  · exact .inr h
theorem tyD {K : PySem.W.Frag} {H : Hp} {a : Addr} {xs : List (Key × V)} (h : Rd H a (.dK xs)) : TyX K H (.ref a) (.type "dict") := by
  rcases h with h | ⟨o, h⟩
  · exact .base (.dK h)
  · exact .fDict h
def flat1 : V → Bool
  | .non => true
  | .bl _ => true
  | .int _ => true
  | .str _ => true
  | _ => false
/-- alike, without dicts -/
def SmT (K : PySem.W.Frag) (H : Hp) : Nat → V → V → Prop
  | 0, x, y => flat1 x = true ∧ x = y
  | n + 1, x, y => (flat1 x = true ∧ x = y) ∨
    (∃ a b xs ys, x = .ref a ∧ y = .ref b ∧ SqT K H a xs ∧ SqT K H b ys ∧ xs.length = ys.length ∧ xs.length ≤ 1000 ∧ ∀ (i : Nat) u v, xs[i]? = some u → ys[i]? = some v → SmT K H n u v) ∨
    (∃ a b xs ys, x = .ref a ∧ y = .ref b ∧ SqL K H a xs ∧ SqL K H b ys ∧ xs.length = ys.length ∧ xs.length ≤ 1000 ∧ ∀ (i : Nat) u v, xs[i]? = some u → ys[i]? = some v → SmT K H n u v)
/-- keys that sorted takes -/
def KOk (ks : List Key) : Prop := (∃ l : List Int, ks = l.map Sum.inl) ∨ ∃ l : List Str, ks = l.map Sum.inr ∧ ∀ z ∈ l, PyData.strOk z = true
def Sm (K : PySem.W.Frag) (H : Hp) : Nat → V → V → Prop
  | 0, x, y => flat1 x = true ∧ x = y
  | n + 1, x, y => (flat1 x = true ∧ x = y) ∨
    (∃ a b xs ys, x = .ref a ∧ y = .ref b ∧ SqT K H a xs ∧ SqT K H b ys ∧ xs.length = ys.length ∧ xs.length ≤ 1000 ∧ ∀ (i : Nat) u v, xs[i]? = some u → ys[i]? = some v → Sm K H n u v) ∨
    (∃ a b xs ys, x = .ref a ∧ y = .ref b ∧ SqL K H a xs ∧ SqL K H b ys ∧ xs.length = ys.length ∧ xs.length ≤ 1000 ∧ ∀ (i : Nat) u v, xs[i]? = some u → ys[i]? = some v → Sm K H n u v) ∨
    (∃ a b ks ls, x = .ref a ∧ y = .ref b ∧ H a = some (.dK ks) ∧ H b = some (.dK ls) ∧ (ks.map (·.1)).Perm (ls.map (·.1)) ∧ (ls.map (·.1)).Nodup ∧ ls.length < 64 ∧ KOk (ls.map (·.1)) ∧ KOk (ks.map (·.1)) ∧ ∀ k u v, valV ks k = some u → valV ls k = some v → SmT K H n u v)
theorem SmT.up {K : PySem.W.Frag} {H H' : Hp} (s : Up H H') : ∀ {n : Nat} {x y : V}, SmT K H n x y → SmT K H' n x y
  | 0, _, _, h => h
  | n + 1, x, y, h => by
    rcases h with h | ⟨a, b, xs, ys, h1, h2, h3, h4, h5, h6, h7⟩ | ⟨a, b, xs, ys, h1, h2, h3, h4, h5, h6, h7⟩
    · exact .inl h
    · exact .inr (.inl ⟨a, b, xs, ys, h1, h2, sqT_up s h3, sqT_up s h4, h5, h6, fun i u v e e' => (h7 i u v e e').up s⟩)
    · exact .inr (.inr ⟨a, b, xs, ys, h1, h2, sqL_up s h3, sqL_up s h4, h5, h6, fun i u v e e' => (h7 i u v e e').up s⟩)
theorem SmT.sm {K : PySem.W.Frag} {H : Hp} : ∀ {n : Nat} {x y : V}, SmT K H n x y → Sm K H n x y
  | 0, _, _, h => h
  | n + 1, x, y, h => by
    rcases h with h | ⟨a, b, xs, ys, h1, h2, h3, h4, h5, h6, h7⟩ | ⟨a, b, xs, ys, h1, h2, h3, h4, h5, h6, h7⟩
    · exact .inl h
    · exact .inr (.inl ⟨a, b, xs, ys, h1, h2, h3, h4, h5, h6, fun i u v e e' => (h7 i u v e e').sm⟩)
    · exact .inr (.inr (.inl ⟨a, b, xs, ys, h1, h2, h3, h4, h5, h6, fun i u v e e' => (h7 i u v e e').sm⟩))
theorem Sm.same {K : PySem.W.Frag} {H H' : Hp} (s : Same H H') : ∀ {n : Nat} {x y : V}, Sm K H n x y → Sm K H' n x y
  | 0, _, _, h => h
  | n + 1, x, y, h => by
    rcases h with h | ⟨a, b, xs, ys, h1, h2, h3, h4, h5, h6, h7⟩ | ⟨a, b, xs, ys, h1, h2, h3, h4, h5, h6, h7⟩ | ⟨a, b, ks, ls, h1, h2, h3, h4, h5, h6, h7, h8, h8', h9⟩
    · exact .inl h
    · exact .inr (.inl ⟨a, b, xs, ys, h1, h2, sqT_up (up_same s) h3, sqT_up (up_same s) h4, h5, h6, fun i u v e e' => (h7 i u v e e').same s⟩)
    · exact .inr (.inr (.inl ⟨a, b, xs, ys, h1, h2, sqL_up (up_same s) h3, sqL_up (up_same s) h4, h5, h6, fun i u v e e' => (h7 i u v e e').same s⟩))
    · exact .inr (.inr (.inr ⟨a, b, ks, ls, h1, h2, s _ _ h3, s _ _ h4, h5, h6, h7, h8, h8', fun k u v e e' => (h9 k u v e e').up (up_same s)⟩))
theorem SmT.flat {K : PySem.W.Frag} {H : Hp} {x : V} (h : flat1 x = true) : ∀ n, SmT K H n x x
  | 0 => ⟨h, rfl⟩
  | _ + 1 => .inl ⟨h, rfl⟩
theorem Sm.flat {K : PySem.W.Frag} {H : Hp} {x : V} (h : flat1 x = true) (n : Nat) : Sm K H n x x := (SmT.flat h n).sm
theorem SmT.tup {K : PySem.W.Frag} {H : Hp} {a b : Addr} {xs ys : List V} {n : Nat} (ha : SqT K H a xs) (hb : SqT K H b ys) (hl : xs.length = ys.length) (h1 : xs.length ≤ 1000) (hf : ∀ (i : Nat) u v, xs[i]? = some u → ys[i]? = some v → SmT K H n u v) : SmT K H (n + 1) (.ref a) (.ref b) :=
  .inr (.inl ⟨a, b, xs, ys, rfl, rfl, ha, hb, hl, h1, hf⟩)
theorem SmT.tup2 {K : PySem.W.Frag} {H : Hp} {a b : Addr} {x y x' y' : V} {n : Nat} (ha : SqT K H a [x, y]) (hb : SqT K H b [x', y']) (hx : SmT K H n x x') (hy : SmT K H n y y') : SmT K H (n + 1) (.ref a) (.ref b) :=
  SmT.tup ha hb rfl (by show 2 ≤ 1000; decide) fun i u v e e' => by
    match i, e, e' with
    | 0, e, e' => cases e; cases e'; exact hx
    | 1, e, e' => cases e; cases e'; exact hy
    | _ + 2, e, _ => cases e
theorem kA {K : PySem.W.Frag} {t : String} (h1 : kitB t "bool" = some false) (h2 : kitB t "str" = some false) : PySem.W.kitAny K (.type t) [.type "bool", .type "str"] = some false :=
  kitAny_cons (kit_ty h1) (fun _ => kitAny_cons (kit_ty h2) (fun _ => rfl) (fun z => nomatch z)) (fun z => nomatch z)
theorem kBool {K : PySem.W.Frag} : PySem.W.kitAny K (.type "bool") [.type "bool", .type "str"] = some true :=
  kitAny_cons (b := true) (kit_ty (by decide +kernel)) (fun z => nomatch z) (fun _ => rfl)
theorem kStr {K : PySem.W.Frag} : PySem.W.kitAny K (.type "str") [.type "bool", .type "str"] = some true :=
  kitAny_cons (b := false) (kit_ty (by decide +kernel)) (fun _ => kitAny_cons (b := true) (kit_ty (by decide +kernel)) (fun z => nomatch z) (fun _ => rfl)) (fun z => nomatch z)
theorem prBS : Paired ClsV [V.ty "bool", V.ty "str"] [.type "bool", .type "str"] := .cons (.ty _) (.cons (.ty _) .nil)
theorem dpS {K : PySem.W.Frag} {H : Hp} : ∀ l : List Str, DpAll K H (l.map V.str) (l.map PyData.str)
  | [] => .nil
  | z :: r => .cons (.str z) (dpS r)
theorem dpI {K : PySem.W.Frag} {H : Hp} : ∀ l : List Int, DpAll K H (l.map V.int) (l.map PyData.int)
  | [] => .nil
  | z :: r => .cons (.int z) (dpI r)
theorem shS {l : List Str} (h : ∀ z ∈ l, PyData.strOk z = true) : SeqAt.shaped (.list (l.map PyData.str)) = true := by
  unfold SeqAt.shaped
  rw [Bool.and_eq_true]
  refine ⟨?_, decide_eq_true ?_⟩
  · show PyData.canLayAll0 (l.map PyData.str) = true
    refine lay_all fun d hd => ?_
    obtain ⟨z, hz, rfl⟩ := List.mem_map.mp hd
    exact h z hz
  · have := depth_all (ds := l.map PyData.str) (n := 2) fun d hd => by
      obtain ⟨z, hz, rfl⟩ := List.mem_map.mp hd
      show PyData.depth (.str z) ≤ 2
      unfold PyData.depth
      omega
    unfold PyData.depth
    omega
theorem shI (l : List Int) : SeqAt.shaped (.list (l.map PyData.int)) = true := by
  unfold SeqAt.shaped
  rw [Bool.and_eq_true]
  refine ⟨?_, decide_eq_true ?_⟩
  · show PyData.canLayAll0 (l.map PyData.int) = true
    refine lay_all fun d hd => ?_
    obtain ⟨z, hz, rfl⟩ := List.mem_map.mp hd
    rfl
  · have := depth_all (ds := l.map PyData.int) (n := 2) fun d hd => by
      obtain ⟨z, hz, rfl⟩ := List.mem_map.mp hd
      show PyData.depth (.int z) ≤ 2
      unfold PyData.depth
      omega
    unfold PyData.depth
    omega
theorem perm_inl {a b : List Int} (h : (a.map (Sum.inl : Int → Key)).Perm (b.map Sum.inl)) : a.Perm b := by
  have e : ∀ l : List Int, (l.map (Sum.inl : Int → Key)).filterMap Sum.getLeft? = l := fun l => by
    induction l with
    | nil => rfl
    | cons x r ih =>
      rw [List.map_cons, List.filterMap_cons]
      simp [ih]
  have q := h.filterMap Sum.getLeft?
  rw [e, e] at q
  exact q
theorem perm_inr {a b : List Str} (h : (a.map (Sum.inr : Str → Key)).Perm (b.map Sum.inr)) : a.Perm b := by
  have e : ∀ l : List Str, (l.map (Sum.inr : Str → Key)).filterMap Sum.getRight? = l := fun l => by
    induction l with
    | nil => rfl
    | cons x r ih =>
      rw [List.map_cons, List.filterMap_cons]
      simp [ih]
  have q := h.filterMap Sum.getRight?
  rw [e, e] at q
  exact q
def spSame (K : PySem.W.Frag) : Nat → Sp
  | 0 => fun _ _ _ _ => False
  | n + 1 => fun vs H Q _ => ∃ x y : V, vs = [x, y] ∧ Sm K H n x y ∧ ∀ H', Same H H' → Q (.bl true) H'
theorem ok_same1 {n : Nat} (ev : Env P K mg) (GS : FnOk P w K mg base CX0 (n + 1) ev.f_law_same ev.d_law_same p_law_same (spSame K n)) : FnOk P w K mg base CX0 (n + 2) ev.f_law_same ev.d_law_same p_law_same (spSame K (n + 1)) := by
  refine ev.A_law_same.F.ok sc_law_same (fun vs H Q E h => ?_) (fun cdv A outer s H vs Q E hr h => ?_)
  · obtain ⟨x, y, rfl, _⟩ := h
    rfl
  obtain ⟨x, y, rfl, hS, q⟩ := h
  have hr1 : Room 1 _ := hr.mono (by omega)
  have hu := hu_of hr
  refine ⟨_, (pss_cons (ps_if (PW.pt (pw_or (pt_cmpR op_isN (pv 1) pe_non (nomark _)) (pw_or1 (pt_val (pe_callB call_isiT (by rfl) ev.B.isinstance_ (by decide +kernel) (pa_cons (pv 1) (pa_cons (pe_tup (pa_cons (pe_bltn (v := .ty "bool") (by rfl) ev.B.bool_ (by decide +kernel) rfl) (pa_cons (pe_bltn (v := .ty "str") (by rfl) ev.B.str_ (by decide +kernel) rfl) pa_nil))) pa_nil)))))))
    (pss_cons (ps_if (pt_cmpR op_isN (pv 1) pe_non (nomark _))
    (pss_one (ps_ret (pe_cmpR op_isN (pv 0) pe_non (nomark _)))) pss_nil)
    (pss_one (ps_ret (pe_and (pe_callB call_isiT (by rfl) ev.B.isinstance_ (by decide +kernel) (pa_cons (pv 0) (pa_cons (pe_tup (pa_cons (pe_bltn (v := .ty "bool") (by rfl) ev.B.bool_ (by decide +kernel) rfl) (pa_cons (pe_bltn (v := .ty "str") (by rfl) ev.B.str_ (by decide +kernel) rfl) pa_nil))) pa_nil))) (pe_one (pe_cmpR op_eq (pv 0) (pv 1) (nomark _))))))) pss_nil)
    (pss_cons (ps_if (pt_val (pe_callB call_isi (by rfl) ev.B.isinstance_ (by decide +kernel) (pa_cons (pv 1) (pa_cons (pe_bltn (v := .ty "int") (by rfl) ev.B.int_ (by decide +kernel) rfl) pa_nil))))
    (pss_one (ps_ret (pe_and (pe_call (ok_law_whole ev) hr1 (by rfl) ev.A_law_whole.m ev.A_law_whole.F.kp ev.A_law_whole.b .nil pass0 (pa_cons (pv 0) pa_nil)) (pe_one (pe_cmpR op_eq (pv 0) (pv 1) (nomark _)))))) pss_nil)
    (pss_cons (ps_if (pt_val (pe_callB call_isi (by rfl) ev.B.isinstance_ (by decide +kernel) (pa_cons (pv 1) (pa_cons (pe_bltn (v := .ty "dict") (by rfl) ev.B.dict_ (by decide +kernel) rfl) pa_nil))))
    (pss_cons (ps_if (PW.pt (pw_or (pt_not (pt_val (pe_callB call_isi (by rfl) ev.B.isinstance_ (by decide +kernel) (pa_cons (pv 0) (pa_cons (pe_bltn (v := .ty "dict") (by rfl) ev.B.dict_ (by decide +kernel) rfl) pa_nil))))) (pw_or1 (pt_cmpR (op_neD hr.units) (pe_callB (call_srtK rfl) (by rfl) ev.B.sorted_ (by decide +kernel) (pa_cons (pv 0) pa_nil)) (pe_callB (call_srtK rfl) (by rfl) ev.B.sorted_ (by decide +kernel) (pa_cons (pv 1) pa_nil)) (nomark _)))))
    (pss_one (ps_ret pe_bl)) pss_nil)
    (pss_one (ps_ret (pe_callB (cr_all rfl) (by rfl) ev.B.all_ (by decide +kernel) (pa_cons (pe_lock (pe_lc (own := [("_law_name_here", 2)]) (g := gName 2) (tt := tYes) (by rfl) sc_law_same.nd (pi_keys (pv 1)) (blkOk_by (own := [("_law_name_here", 2)]) (N := n_law_same) (sc := defScope s_law_same) (by decide +kernel)) (fun _ _ _ _ _ => pg_name (i := 2) sc_law_same.nd rfl (Or.inl rfl)) (fun _ _ _ _ _ => pts_nil) (fun _ _ _ _ _ => (pe_call GS hr (by rfl) ev.A_law_same.m ev.A_law_same.F.kp ev.A_law_same.b .nil pass0 (pa_cons (pe_dget hu (pv 0) (pv 2) (fun _ _ => rfl)) (pa_cons (pe_dget hu (pv 1) (pv 2) (fun _ _ => rfl)) pa_nil)))))) pa_nil))))) pss_nil)
    (pss_cons (ps_if (pt_cmpR op_ne (pe_callB call_isi (by rfl) ev.B.isinstance_ (by decide +kernel) (pa_cons (pv 1) (pa_cons (pe_bltn (v := .ty "tuple") (by rfl) ev.B.tuple_ (by decide +kernel) rfl) pa_nil))) (pe_callB call_isi (by rfl) ev.B.isinstance_ (by decide +kernel) (pa_cons (pv 0) (pa_cons (pe_bltn (v := .ty "tuple") (by rfl) ev.B.tuple_ (by decide +kernel) rfl) pa_nil))) (nomark _))
    (pss_one (ps_ret pe_bl)) pss_nil)
    (pss_cons (ps_if (PW.pt (pw_or (pt_cmpR op_ne (pe_callB call_isi (by rfl) ev.B.isinstance_ (by decide +kernel) (pa_cons (pv 1) (pa_cons (pe_bltn (v := .ty "list") (by rfl) ev.B.list_ (by decide +kernel) rfl) pa_nil))) (pe_callB call_isi (by rfl) ev.B.isinstance_ (by decide +kernel) (pa_cons (pv 0) (pa_cons (pe_bltn (v := .ty "list") (by rfl) ev.B.list_ (by decide +kernel) rfl) pa_nil))) (nomark _)) (pw_or1 (pt_cmpR op_ne (pe_callB call_len_seq (by rfl) ev.B.len_ PySem.boot_len (pa_cons (pv 0) pa_nil)) (pe_callB call_len_seq (by rfl) ev.B.len_ PySem.boot_len (pa_cons (pv 1) pa_nil)) (nomark _)))))
    (pss_one (ps_ret pe_bl)) pss_nil)
    (pss_one (ps_ret (pe_callB (cr_all rfl) (by rfl) ev.B.all_ (by decide +kernel) (pa_cons (pe_lc (own := [("_law_k", 3)]) (g := gName 3) (tt := tYes) (by rfl) sc_law_same.nd (pi_range1 rfl ev.B.range_ (pa_cons (pe_callB call_len_seq (by rfl) ev.B.len_ PySem.boot_len (pa_cons (pv 1) pa_nil)) pa_nil)) (blkOk_by (own := [("_law_k", 3)]) (N := n_law_same) (sc := defScope s_law_same) (by decide +kernel)) (fun _ _ _ _ _ => pg_name (i := 3) sc_law_same.nd rfl (Or.inl rfl)) (fun _ _ _ _ _ => pts_nil) (fun _ _ _ _ _ => (pe_call GS hr (by rfl) ev.A_law_same.m ev.A_law_same.F.kp ev.A_law_same.b .nil pass0 (pa_cons (pe_ix (show IxR _ (rIx K) from ix_seq) (pv 0) (pv 3) (fun _ _ => rfl)) (pa_cons (pe_ix (show IxR _ (rIx K) from ix_seq) (pv 1) (pv 3) (fun _ _ => rfl)) pa_nil))))) pa_nil))))))))), ?_⟩
  by_cases hf : flat1 x = true ∧ x = y
  · obtain ⟨hf, rfl⟩ := hf
    cases x with
    | non =>
      refine ⟨_, rfl, rfl, _, rfl, iteT (iteT ?_)⟩
      refine ⟨_, rfl, rfl, _, rfl, iteT ?_⟩
      exact ⟨_, rfl, rfl, q H fun _ _ e => e⟩
    | bl b =>
      refine ⟨_, rfl, rfl, _, rfl, iteF ⟨_, rfl, two, fun tp htp => ⟨_, tp, _, _, _, true, rfl, upd_same, prBS, .base (.bl b), kBool, true, rfl, iteT ?_⟩⟩⟩
      refine ⟨_, rfl, rfl, _, rfl, iteF ?_⟩
      refine ⟨_, rfl, two, fun tq htq => ⟨_, tq, _, _, _, true, rfl, upd_same, prBS, .base (.bl b), kBool, true, rfl, iteT ?_⟩⟩
      refine ⟨_, rfl, _, rfl, rfl, ?_⟩
      rw [decide_eq_true rfl]
      exact q _ ((same_upd htp).trans (same_upd htq))
    | int i =>
      refine ⟨_, rfl, rfl, _, rfl, iteF ⟨_, rfl, two, fun tp htp => ⟨_, tp, _, _, _, false, rfl, upd_same, prBS, .base (.int i), kA (by decide +kernel) (by decide +kernel), false, rfl, iteF ?_⟩⟩⟩
      refine ⟨_, rfl, _, _, _, _, true, rfl, .ty _, .base (.int i), kit_ty (by decide +kernel), true, rfl, iteT ?_⟩
      refine ⟨_, rfl, i, rfl, true, rfl, iteT ?_⟩
      refine ⟨_, rfl, _, rfl, rfl, ?_⟩
      rw [decide_eq_true rfl]
      exact q _ (same_upd htp)
    | str z =>
      refine ⟨_, rfl, rfl, _, rfl, iteF ⟨_, rfl, two, fun tp htp => ⟨_, tp, _, _, _, true, rfl, upd_same, prBS, .base (.str z), kStr, true, rfl, iteT ?_⟩⟩⟩
      refine ⟨_, rfl, rfl, _, rfl, iteF ?_⟩
      refine ⟨_, rfl, two, fun tq htq => ⟨_, tq, _, _, _, true, rfl, upd_same, prBS, .base (.str z), kStr, true, rfl, iteT ?_⟩⟩
      refine ⟨_, rfl, _, rfl, rfl, ?_⟩
      rw [decide_eq_true rfl]
      exact q _ ((same_upd htp).trans (same_upd htq))
    | _ => cases hf
  · cases n with
    | zero => exact absurd hS hf
    | succ m =>
      rcases hS with hS | ⟨a, b, xs, ys, rfl, rfl, ha, hb, hl, h1000, he⟩ | ⟨a, b, xs, ys, rfl, rfl, ha, hb, hl, h1000, he⟩ | ⟨a, b, ks, ls, rfl, rfl, ha, hb, hpm, hnd, h64, ok1, ok2, he⟩
      · exact absurd hS hf
      · refine ⟨_, rfl, rfl, _, rfl, iteF ⟨_, rfl, two, fun tp htp => ⟨_, tp, _, _, _, false, rfl, upd_same, prBS, tyT (xs := ys) ?_, kA (by decide +kernel) (by decide +kernel), false, rfl, iteF ?_⟩⟩⟩
        · exact sqT_up (up_same (same_upd htp)) hb
        have s1 : Same H (upd H tp (.tup [V.ty "bool", V.ty "str"])) := same_upd htp
        generalize upd H tp (.tup [V.ty "bool", V.ty "str"]) = H1 at s1
        have ha' := sqT_up (up_same s1) ha
        have hb' := sqT_up (up_same s1) hb
        refine ⟨_, rfl, _, _, _, _, false, rfl, .ty _, tyT hb', kit_ty (by decide +kernel), false, rfl, iteF ?_⟩
        refine ⟨_, rfl, _, _, _, _, false, rfl, .ty _, tyT hb', kit_ty (by decide +kernel), false, rfl, iteF ?_⟩
        refine ⟨_, rfl, _, _, _, _, true, rfl, .ty _, tyT hb', kit_ty (by decide +kernel), _, rfl, _, _, _, _, true, rfl, .ty _, tyT ha', kit_ty (by decide +kernel), rfl, _, rfl, iteF ?_⟩
        refine ⟨_, rfl, _, _, _, _, false, rfl, .ty _, tyT hb', kit_ty (by decide +kernel), _, rfl, _, _, _, _, false, rfl, .ty _, tyT ha', kit_ty (by decide +kernel), rfl, _, rfl, iteF ?_⟩
        refine ⟨_, rfl, a, _, rfl, .inr ha', _, rfl, b, _, rfl, .inr hb', rfl, _, rfl, ?_⟩
        refine iteNS (by rw [hl]) ?_
        refine ⟨_, rfl, b, _, rfl, .inr hb', _, rfl, by omega, by omega, fun D hD => ?_⟩
        refine lc_range (lo := 0) (n := ys.length) (fun i H2 => Same H1 H2 ∧ H2 D = some (.lst ((List.replicate i true).map V.bl))) ⟨same_upd hD, upd_same⟩ ?_ ?_
        · rintro i H2 hi ⟨s2, hD2⟩
          have e1 : atI xs (0 + (i : Int)) = some xs[i] := by
            rw [Int.zero_add]
            exact atI_nat (List.getElem?_eq_getElem (by omega))
          have e2 : atI ys (0 + (i : Int)) = some ys[i] := by
            rw [Int.zero_add]
            exact atI_nat (List.getElem?_eq_getElem hi)
          refine ⟨rfl, yes_ ?_⟩
          refine ⟨_, rfl, _, rfl, .inr <| .inl ⟨a, xs, _, _, rfl, rfl, sqT_up (up_same s2) ha', e1, ?_⟩⟩
          refine ⟨_, rfl, _, rfl, .inr <| .inl ⟨b, ys, _, _, rfl, rfl, sqT_up (up_same s2) hb', e2, ?_⟩⟩
          refine ⟨_, _, rfl, (he i _ _ (List.getElem?_eq_getElem (by omega)) (List.getElem?_eq_getElem hi)).same (s1.trans s2), fun H3 s3 => ?_⟩
          refine ⟨_, s3 _ _ hD2, ?_, fun p o e => ?_, ?_⟩
          · rw [List.length_map, List.length_replicate]
            exact small1000 (by omega)
          · have np : p ≠ D := ne_of_none e hD
            rw [upd_ne np]
            exact s3 _ _ (s2 _ _ e)
          · rw [upd_same, List.replicate_succ', List.map_append]
            rfl
        · rintro H2 ⟨s2, hD2⟩
          refine ⟨D, _, rfl, SqL.of hD2, ?_⟩
          rw [show (List.replicate ys.length true).all id = true by simp]
          exact q H2 (s1.trans s2)
      · refine ⟨_, rfl, rfl, _, rfl, iteF ⟨_, rfl, two, fun tp htp => ⟨_, tp, _, _, _, false, rfl, upd_same, prBS, tyL (xs := ys) ?_, kA (by decide +kernel) (by decide +kernel), false, rfl, iteF ?_⟩⟩⟩
        · exact sqL_up (up_same (same_upd htp)) hb
        have s1 : Same H (upd H tp (.tup [V.ty "bool", V.ty "str"])) := same_upd htp
        generalize upd H tp (.tup [V.ty "bool", V.ty "str"]) = H1 at s1
        have ha' := sqL_up (up_same s1) ha
        have hb' := sqL_up (up_same s1) hb
        refine ⟨_, rfl, _, _, _, _, false, rfl, .ty _, tyL hb', kit_ty (by decide +kernel), false, rfl, iteF ?_⟩
        refine ⟨_, rfl, _, _, _, _, false, rfl, .ty _, tyL hb', kit_ty (by decide +kernel), false, rfl, iteF ?_⟩
        refine ⟨_, rfl, _, _, _, _, false, rfl, .ty _, tyL hb', kit_ty (by decide +kernel), _, rfl, _, _, _, _, false, rfl, .ty _, tyL ha', kit_ty (by decide +kernel), rfl, _, rfl, iteF ?_⟩
        refine ⟨_, rfl, _, _, _, _, true, rfl, .ty _, tyL hb', kit_ty (by decide +kernel), _, rfl, _, _, _, _, true, rfl, .ty _, tyL ha', kit_ty (by decide +kernel), rfl, _, rfl, iteF ?_⟩
        refine ⟨_, rfl, a, _, rfl, .inl ha', _, rfl, b, _, rfl, .inl hb', rfl, _, rfl, ?_⟩
        refine iteNS (by rw [hl]) ?_
        refine ⟨_, rfl, b, _, rfl, .inl hb', _, rfl, by omega, by omega, fun D hD => ?_⟩
        refine lc_range (lo := 0) (n := ys.length) (fun i H2 => Same H1 H2 ∧ H2 D = some (.lst ((List.replicate i true).map V.bl))) ⟨same_upd hD, upd_same⟩ ?_ ?_
        · rintro i H2 hi ⟨s2, hD2⟩
          have e1 : atI xs (0 + (i : Int)) = some xs[i] := by
            rw [Int.zero_add]
            exact atI_nat (List.getElem?_eq_getElem (by omega))
          have e2 : atI ys (0 + (i : Int)) = some ys[i] := by
            rw [Int.zero_add]
            exact atI_nat (List.getElem?_eq_getElem hi)
          refine ⟨rfl, yes_ ?_⟩
          refine ⟨_, rfl, _, rfl, .inl ⟨a, xs, _, _, rfl, rfl, sqL_up (up_same s2) ha', e1, ?_⟩⟩
          refine ⟨_, rfl, _, rfl, .inl ⟨b, ys, _, _, rfl, rfl, sqL_up (up_same s2) hb', e2, ?_⟩⟩
          refine ⟨_, _, rfl, (he i _ _ (List.getElem?_eq_getElem (by omega)) (List.getElem?_eq_getElem hi)).same (s1.trans s2), fun H3 s3 => ?_⟩
          refine ⟨_, s3 _ _ hD2, ?_, fun p o e => ?_, ?_⟩
          · rw [List.length_map, List.length_replicate]
            exact small1000 (by omega)
          · have np : p ≠ D := ne_of_none e hD
            rw [upd_ne np]
            exact s3 _ _ (s2 _ _ e)
          · rw [upd_same, List.replicate_succ', List.map_append]
            rfl
        · rintro H2 ⟨s2, hD2⟩
          refine ⟨D, _, rfl, SqL.of hD2, ?_⟩
          rw [show (List.replicate ys.length true).all id = true by simp]
          exact q H2 (s1.trans s2)
      · have nb : ∀ o v, HO.dK ls ≠ .frz o v := fun o v z => nomatch z
        refine ⟨_, rfl, rfl, _, rfl, iteF ⟨_, rfl, two, fun tp htp => ⟨_, tp, _, _, _, false, rfl, upd_same, prBS, tyD (xs := ls) ?_, kA (by decide +kernel) (by decide +kernel), false, rfl, iteF ?_⟩⟩⟩
        · exact up_same (same_upd htp) _ _ (.inl hb)
        have s1 : Same H (upd H tp (.tup [V.ty "bool", V.ty "str"])) := same_upd htp
        generalize upd H tp (.tup [V.ty "bool", V.ty "str"]) = H1 at s1
        have ha' := s1 _ _ ha
        have hb' := s1 _ _ hb
        refine ⟨_, rfl, _, _, _, _, false, rfl, .ty _, tyD (.inl hb'), kit_ty (by decide +kernel), false, rfl, iteF ?_⟩
        refine ⟨_, rfl, _, _, _, _, true, rfl, .ty _, tyD (.inl hb'), kit_ty (by decide +kernel), true, rfl, iteT ?_⟩
        refine seq_by (fun σ H2 => σ = [some (.ref a), some (.ref b), none, none] ∧ Same H1 H2) ?_ (fun k => ?_)
        rotate_left
        · refine ⟨_, rfl, _, _, _, _, true, rfl, .ty _, tyD (.inl ha'), kit_ty (by decide +kernel), true, rfl, iteF ?_⟩
          have lk : ks.length = ls.length := by
            have := hpm.length_eq
            rw [List.length_map, List.length_map] at this
            exact this
          rcases ok1 with ⟨li, eli⟩ | ⟨lt, elt, lok⟩
          · obtain ⟨ki, eki⟩ : ∃ l : List Int, ks.map (·.1) = l.map Sum.inl := by
              rcases ok2 with ⟨l, e⟩ | ⟨l, e, _⟩
              · exact ⟨l, e⟩
              · cases l with
                | nil => exact ⟨[], e⟩
                | cons z r =>
                  rw [e, eli] at hpm
                  have := hpm.mem_iff.mp (List.mem_cons_self (a := (Sum.inr z : Key)) (l := r.map Sum.inr))
                  obtain ⟨i, _, hi⟩ := List.mem_map.mp this
                  cases hi
            have pki : ki.Perm li := by
              rw [eki, eli] at hpm
              exact perm_inl hpm
            refine ⟨_, rfl, .inr ⟨a, ks, ki, rfl, .inl ha', eki, ?_, fun ys p pm pw np => ?_⟩⟩
            · have := congrArg List.length eki
              rw [List.length_map, List.length_map] at this
              omega
            have s2 : Same H1 (upd H1 p (.lst (ys.map V.int))) := same_upd np
            refine ⟨_, rfl, .inr ⟨b, ls, li, rfl, .inl (s2 _ _ hb'), eli, ?_, fun zs p2 pm2 pw2 np2 => ?_⟩⟩
            · have := congrArg List.length eli
              rw [List.length_map, List.length_map] at this
              omega
            have e : ys = zs := srtI_same (pm.trans (pki.trans pm2.symm)) pw pw2
            subst e
            refine ⟨_, _, .lst (SqL.of (same_upd np2 _ _ upd_same)) (dpI ys), .lst (SqL.of upd_same) (dpI ys), shI ys, shI ys, _, rfl, ?_⟩
            rw [PySem.SeqAt.eqv_refl _ (SeqAt.canLay_of_shaped (shI ys))]
            exact iteF (k _ _ ⟨rfl, s2.trans (same_upd np2)⟩)
          · obtain ⟨kt, ekt, kok⟩ : ∃ l : List Str, ks.map (·.1) = l.map Sum.inr ∧ ∀ z ∈ l, PyData.strOk z = true := by
              rcases ok2 with ⟨l, e⟩ | h
              · cases l with
                | nil => exact ⟨[], e, (fun z hz => nomatch hz)⟩
                | cons z r =>
                  rw [e, elt] at hpm
                  have := hpm.mem_iff.mp (List.mem_cons_self (a := (Sum.inl z : Key)) (l := r.map Sum.inl))
                  obtain ⟨i, _, hi⟩ := List.mem_map.mp this
                  cases hi
              · exact h
            have pki : kt.Perm lt := by
              rw [ekt, elt] at hpm
              exact perm_inr hpm
            refine ⟨_, rfl, .inl ⟨a, ks, kt, rfl, .inl ha', ekt, ?_, fun ys p pm pw np => ?_⟩⟩
            · have := congrArg List.length ekt
              rw [List.length_map, List.length_map] at this
              omega
            have s2 : Same H1 (upd H1 p (.lst (ys.map V.str))) := same_upd np
            refine ⟨_, rfl, .inl ⟨b, ls, lt, rfl, .inl (s2 _ _ hb'), elt, ?_, fun zs p2 pm2 pw2 np2 => ?_⟩⟩
            · have := congrArg List.length elt
              rw [List.length_map, List.length_map] at this
              omega
            have e : ys = zs := srt_same (pm.trans (pki.trans pm2.symm)) pw pw2
            subst e
            have yok : ∀ z ∈ ys, PyData.strOk z = true := fun z hz => kok z (pm.mem_iff.mp hz)
            refine ⟨_, _, .lst (SqL.of (same_upd np2 _ _ upd_same)) (dpS ys), .lst (SqL.of upd_same) (dpS ys), shS yok, shS yok, _, rfl, ?_⟩
            rw [PySem.SeqAt.eqv_refl _ (SeqAt.canLay_of_shaped (shS yok))]
            exact iteF (k _ _ ⟨rfl, s2.trans (same_upd np2)⟩)
        rintro σ H2 ⟨rfl, s2⟩
        have hb2 := s2 _ _ hb'
        refine ⟨b, .dK ls, hb2, trivial, fun od => ?_⟩
        refine ⟨_, rfl, b, od, rfl, .inl ⟨ls, upd_same, fun D hD => ?_⟩⟩
        have nbD : D ≠ b := fun z => by
          rw [z, upd_same] at hD
          cases hD
        have ul : Up H (upd H2 b (.frz od (.dK ls))) := (up_same (s1.trans s2)).trans (up_lock hb2 nb)
        refine lc_keys (fun i H3 => Same (upd H2 b (.frz od (.dK ls))) H3 ∧ H3 D = some (.lst ((List.replicate i true).map V.bl))) ⟨same_upd hD, upd_same⟩ (fun i H3 _ h => h.1 _ _ upd_same) ?_ ?_
        · rintro i k v H3 hi ⟨s3, hD3⟩
          have u3 : Up H H3 := ul.trans (up_same s3)
          have evl : valV ls k = some v := val_nodup hnd (k, v) (List.mem_of_getElem? hi)
          obtain ⟨u, eu⟩ : ∃ u, valV ks k = some u := by
            have mk : k ∈ ks.map (·.1) := hpm.mem_iff.mpr (List.mem_map.mpr ⟨(k, v), List.mem_of_getElem? hi, rfl⟩)
            obtain ⟨p, hp, rfl⟩ := List.mem_map.mp mk
            exact ⟨_, val_nodup (hpm.nodup_iff.mpr hnd) p hp⟩
          refine ⟨rfl, yes_ ?_⟩
          refine ⟨_, rfl, _, rfl, a, u, rfl, .inl ⟨ks, k, u3 _ _ (.inl ha), rfl, eu.symm⟩, ?_⟩
          refine ⟨_, rfl, _, rfl, b, v, rfl, .inl ⟨ls, k, u3 _ _ (.inl hb), rfl, evl.symm⟩, ?_⟩
          refine ⟨_, _, rfl, ((he k u v eu evl).up u3).sm, fun H4 s4 => ?_⟩
          refine ⟨_, s4 _ _ hD3, ?_, fun p o e => ?_, ?_⟩
          · rw [List.length_map, List.length_replicate]
            have := (List.getElem?_eq_some_iff.mp hi).1
            exact small1000 (by omega)
          · have np : p ≠ D := ne_of_none e hD
            rw [upd_ne np]
            exact s4 _ _ (s3 _ _ e)
          · rw [upd_same, List.replicate_succ', List.map_append]
            rfl
        · rintro H3 ⟨s3, hD3⟩
          refine ⟨s3 _ _ upd_same, D, _, rfl, SqL.of (by rw [upd_ne nbD]; exact hD3), ?_⟩
          rw [show (List.replicate ls.length true).all id = true by simp]
          refine q _ fun p o e => ?_
          by_cases z : p = b
          · rw [z, upd_same, ← hb, ← z, e]
          · rw [upd_ne z]
            exact s3 _ _ (by rw [upd_ne z]; exact s2 _ _ (s1 _ _ e))
theorem same_none {f : Addr} {fd : FuncData} : FnOk P w K mg base CX0 1 f fd p_law_same (spSame K 0) :=
  ⟨fun _ _ _ _ h => h.elim, fun _ _ _ _ _ _ _ _ _ _ _ _ _ h => h.elim⟩
theorem ok_same (ev : Env P K mg) : ∀ n, FnOk P w K mg base CX0 (n + 1) ev.f_law_same ev.d_law_same p_law_same (spSame K n)
  | 0 => same_none
  | n + 1 => ok_same1 ev (ok_same ev n)

/-! ### one of several -/
def spAny : Sp := fun vs H Q _ => ∃ (b c l : Addr) (xs : List V), vs = [.ref b, .ref l] ∧ Bag H b c ∧ l ≠ b ∧ l ≠ c ∧ H l = some (.lst xs) ∧ xs ≠ [] ∧ xs.length ≤ 1000 ∧ ∀ (v : V) (H' : Hp), v ∈ xs → Bag H' b c → Els b c H H' → Q v H'
theorem ok_law_any (ev : Env P K mg) : FnOk P w K mg base CX0 2 ev.f_law_any ev.d_law_any p_law_any spAny := by
  refine ev.A_law_any.F.ok sc_law_any (fun vs H Q E h => ?_) (fun cdv A outer s H vs Q E hr h => ?_)
  · obtain ⟨b, c, l, xs, rfl, _⟩ := h
    rfl
  obtain ⟨b, c, l, xs, rfl, hB, lb, lc, hl, hx, h1000, q⟩ := h
  refine ⟨_, (pss_one (ps_ret (pe_ix ix_list (pv 1) (pe_call (ok_law_draw ev) (hr.mono (by decide)) (by rfl) ev.A_law_draw.m ev.A_law_draw.F.kp ev.A_law_draw.b .nil pass0 (pa_cons (pv 0) (pa_cons (pe_callB call_len_seq (by rfl) ev.B.len_ PySem.boot_len (pa_cons (pv 1) pa_nil)) pa_nil))) (fun _ _ => rfl)))), ?_⟩
  have l0 := List.length_pos_iff.mpr hx
  refine ⟨_, rfl, _, rfl, _, rfl, l, _, rfl, .inl (SqL.of hl), b, c, _, rfl, hB, by omega, by omega, fun r H' r0 r1 hB' ex => ?_⟩
  have hl' : H' l = some (.lst xs) := (ex l lb lc).trans hl
  obtain ⟨v, hv, e⟩ := at_mem (xs := xs) r0 r1
  exact ⟨l, _, _, _, rfl, rfl, SqL.of hl', e, q _ _ hv hB' ex⟩

/-! ### names -/
def lowB (z : Str) : Bool := decide (1 ≤ z.cps.toList.length) && decide (z.cps.toList.length ≤ 6) && z.cps.toList.all fun c => decide (97 ≤ c) && decide (c ≤ 122)
theorem lowB_mk {z : Str} (h1 : 1 ≤ z.cps.toList.length) (h2 : z.cps.toList.length ≤ 6) (h : ∀ c ∈ z.cps.toList, 97 ≤ c ∧ c ≤ 122) : lowB z = true := by
  unfold lowB
  rw [decide_eq_true h1, decide_eq_true h2, Bool.true_and, Bool.true_and, List.all_eq_true]
  intro c hc
  rw [decide_eq_true (h c hc).1, decide_eq_true (h c hc).2]
  rfl
theorem lowB_all {z : Str} (h : lowB z = true) : (1 ≤ z.cps.toList.length ∧ z.cps.toList.length ≤ 6) ∧ ∀ c ∈ z.cps.toList, 97 ≤ c ∧ c ≤ 122 := by
  unfold lowB at h
  rw [Bool.and_eq_true, Bool.and_eq_true, List.all_eq_true] at h
  refine ⟨⟨of_decide_eq_true h.1.1, of_decide_eq_true h.1.2⟩, fun c hc => ?_⟩
  have := h.2 c hc
  rw [Bool.and_eq_true] at this
  exact ⟨of_decide_eq_true this.1, of_decide_eq_true this.2⟩
theorem low_ok {z : Str} (h : lowB z = true) : PyData.strOk z = true := by
  unfold PyData.strOk
  rw [← Array.all_toList, List.all_eq_true]
  intro c hc
  have := ((lowB_all h).2 c hc).2
  exact decide_eq_true (by omega)
theorem at_memA {α : Type} {xs : List α} {r : Int} (h0 : 0 ≤ r) (h : r < (xs.length : Int)) : ∃ v, v ∈ xs ∧ atI xs r = some v := by
  have hk : r.toNat < xs.length := by omega
  have e := atI_nat (xs := xs) (j := r.toNat) (List.getElem?_eq_getElem hk)
  rw [show ((r.toNat : Nat) : Int) = r by omega] at e
  exact ⟨_, List.getElem_mem hk, e⟩
/-- texts of one letter each, glued -/
theorem glue_low : ∀ (zs : List Str), (∀ z ∈ zs, ∃ c : Nat, z = ⟨#[c]⟩ ∧ 97 ≤ c ∧ c ≤ 122) → (Str.join (Str.ofString "") zs).cps.toList.length = zs.length ∧ ∀ c ∈ (Str.join (Str.ofString "") zs).cps.toList, 97 ≤ c ∧ c ≤ 122 := by
  intro zs h
  have e : (Str.join (Str.ofString "") zs).cps.toList = TL.joinL [] (zs.map TL.tl) := TL.tl_join (Str.ofString "") zs
  rw [e]
  clear e
  induction zs with
  | nil => exact ⟨rfl, (fun _ hc => nomatch hc)⟩
  | cons z r ih =>
    obtain ⟨c, rfl, c1, c2⟩ := h z List.mem_cons_self
    have ih' := ih fun x hx => h x (List.mem_cons_of_mem _ hx)
    have e : TL.joinL [] (((⟨#[c]⟩ : Str) :: r).map TL.tl) = c :: TL.joinL [] (r.map TL.tl) := by
      cases r with
      | nil => rfl
      | cons y s => rfl
    rw [e]
    refine ⟨by rw [List.length_cons, ih'.1, List.length_cons], fun x hx => ?_⟩
    rcases List.mem_cons.mp hx with rfl | hx
    · exact ⟨c1, c2⟩
    · exact ih'.2 x hx
theorem lens1 : ∀ (zs : List Str), (∀ z ∈ zs, ∃ c : Nat, z = ⟨#[c]⟩ ∧ 97 ≤ c ∧ c ≤ 122) → (zs.map (·.length)).sum = zs.length
  | [], _ => rfl
  | z :: r, h => by
    obtain ⟨c, rfl, _⟩ := h z List.mem_cons_self
    rw [List.map_cons, List.sum_cons, lens1 r fun x hx => h x (List.mem_cons_of_mem _ hx), List.length_cons]
    show 1 + r.length = r.length + 1
    omega
def spName : Sp := fun vs H Q _ => ∃ (b c : Addr), vs = [.ref b] ∧ Bag H b c ∧ ∀ (z : Str) (H' : Hp), lowB z = true → Bag H' b c → Kept b c H H' → Q (.str z) H'
theorem ok_law_name (ev : Env P K mg) : FnOk P w K mg base CX0 3 ev.f_law_name ev.d_law_name p_law_name spName := by
  refine ev.A_law_name.F.ok sc_law_name (fun vs H Q E h => ?_) (fun cdv A outer s H vs Q E hr h => ?_)
  · obtain ⟨b, c, rfl, _⟩ := h
    rfl
  obtain ⟨b, c, rfl, hB, q⟩ := h
  refine ⟨_, (pss_cons (ps_if (pt_cmpR op_gt (pe_call (ok_law_draw ev) (hr.mono (by decide)) (by rfl) ev.A_law_draw.m ev.A_law_draw.F.kp ev.A_law_draw.b .nil pass0 (pa_cons (pv 0) (pa_cons pe_int pa_nil))) pe_int (nomark _))
    (pss_one (ps_ret (pe_call (ok_law_any ev) (hr.mono (by decide)) (by rfl) ev.A_law_any.m ev.A_law_any.F.kp ev.A_law_any.b .nil pass0 (pa_cons (pv 0) (pa_cons (pe_lst (pa_cons pe_str (pa_cons pe_str (pa_cons pe_str (pa_cons pe_str (pa_cons pe_str (pa_cons pe_str (pa_cons pe_str (pa_cons pe_str pa_nil))))))))) pa_nil))))) pss_nil)
    (pss_cons (ps_set (i := 1) sc_law_name.nd rfl (Or.inr rfl) pe_str)
    (pss_one (ps_ret (pe_join pe_str (pe_lc (own := [("_law_k", 2)]) (g := gName 2) (tt := tYes) (by rfl) sc_law_name.nd (pi_range1 rfl ev.B.range_ (pa_cons (pe_op op_add pe_int (pe_call (ok_law_draw ev) (hr.mono (by decide)) (by rfl) ev.A_law_draw.m ev.A_law_draw.F.kp ev.A_law_draw.b .nil pass0 (pa_cons (pv 0) (pa_cons pe_int pa_nil)))) pa_nil)) (blkOk_by (own := [("_law_k", 2)]) (N := n_law_name) (sc := defScope s_law_name) (by decide +kernel)) (fun _ _ _ _ _ => pg_name (i := 2) sc_law_name.nd rfl (Or.inl rfl)) (fun _ _ _ _ _ => pts_nil) (fun _ _ _ _ _ => (pe_ix ix_str (pv 1) (pe_call (ok_law_draw ev) (hr.mono (by decide)) (by rfl) ev.A_law_draw.m ev.A_law_draw.F.kp ev.A_law_draw.b .nil pass0 (pa_cons (pv 0) (pa_cons pe_int pa_nil))) (fun _ _ => rfl))))))))), ?_⟩
  refine ⟨_, rfl, b, c, 4, rfl, hB, by decide, by decide, fun r H1 r0 r1 hB1 ex1 => ⟨_, _, rfl, rfl, _, rfl, ite2 (fun _ => ?_) (fun _ => ?_)⟩⟩
  · refine ⟨_, rfl, (by show 8 ≤ sizeLine; decide), fun l nl => ?_⟩
    obtain ⟨lb, lc⟩ := hB1.off nl
    refine ⟨b, c, l, _, rfl, hB1.upd nl, lb, lc, upd_same, (fun z => nomatch z), (by show 8 ≤ 1000; decide), fun v H2 hv hB2 ex2 => ?_⟩
    obtain ⟨z, rfl, hz⟩ : ∃ z : Str, v = .str z ∧ lowB z = true := by
      simp only [List.mem_cons, List.not_mem_nil, or_false] at hv
      rcases hv with rfl | rfl | rfl | rfl | rfl | rfl | rfl | rfl <;> exact ⟨_, rfl, by decide +kernel⟩
    exact q z H2 hz hB2 (ex1.kept.trans ((kept_same (same_upd nl)).trans ex2.kept))
  refine next_u ?_
  refine seq_c ?_
  refine ⟨⟨_, rfl⟩, _, rfl, b, c, 6, rfl, hB1, by decide, by decide, fun r2 H2 g0 g1 hB2 ex2 => ⟨_, _, rfl, rfl, _, rfl, by omega, by omega, fun D hD => ?_⟩⟩
  obtain ⟨Db, Dc⟩ := hB2.off hD
  refine lc_range (lo := 0) (n := (1 + r2).toNat) (fun i H3 => Bag H3 b c ∧ Kept b c H2 H3 ∧ ∃ zs : List Str, H3 D = some (.lst (zs.map V.str)) ∧ zs.length = i ∧ ∀ z ∈ zs, ∃ ch : Nat, z = ⟨#[ch]⟩ ∧ 97 ≤ ch ∧ ch ≤ 122)
    ⟨hB2.upd hD, kept_same (same_upd hD), [], upd_same, rfl, (fun _ hz => nomatch hz)⟩ ?_ ?_
  · rintro i H3 hi ⟨hB3, kp3, zs, hD3, hl, hz⟩
    refine ⟨rfl, yes_ ?_⟩
    refine ⟨_, rfl, _, rfl, b, c, 26, rfl, hB3, by decide, by decide, fun r3 H4 f0 f1 hB4 ex4 => ?_⟩
    have hD4 : H4 D = some (.lst (zs.map V.str)) := (ex4 D Db Dc).trans hD3
    have all26 : ∀ ch ∈ (Str.ofString "abcdefghijklmnopqrstuvwxyz").cps.toList, 97 ≤ ch ∧ ch ≤ 122 := by decide +kernel
    obtain ⟨ch, hc, e⟩ := at_memA (xs := (Str.ofString "abcdefghijklmnopqrstuvwxyz").cps.toList) f0 (show r3 < ((Str.ofString "abcdefghijklmnopqrstuvwxyz").cps.toList.length : Int) from f1)
    refine ⟨_, _, ch, rfl, rfl, (by decide), e, _, hD4, ?_, ?_, ?_, zs ++ [⟨#[ch]⟩], ?_, ?_, ?_⟩
    · rw [List.length_map, hl]
      exact small1000 (by omega)
    · obtain ⟨ne, ns, sl, sd, h1, h2, rr⟩ := hB4
      exact ⟨ne, ns, sl, sd, by rw [upd_ne Db.symm]; exact h1, by rw [upd_ne Dc.symm]; exact h2, rr⟩
    · intro p o e1 n1 n2
      have z := kp3 p o e1 n1 n2
      have np : p ≠ D := ne_of_none e1 hD
      rw [upd_ne np]
      exact ex4.kept p o z n1 n2
    · rw [upd_same, List.map_append]
      rfl
    · rw [List.length_append, hl]
      rfl
    · intro z hzz
      rcases List.mem_append.mp hzz with hzz | hzz
      · exact hz z hzz
      · rw [List.mem_singleton.mp hzz]
        exact ⟨ch, rfl, all26 ch hc⟩
  · rintro H3 ⟨hB3, kp3, zs, hD3, hl, hz⟩
    have g := glue_low zs hz
    have ln : zs.length ≤ 6 ∧ 1 ≤ zs.length := by omega
    refine ⟨_, D, zs, rfl, rfl, .inl (SqL.of hD3), ?_, ?_⟩
    · rw [lens1 zs hz]
      show zs.length + zs.length * 0 ≤ 16777216
      omega
    · rw [TL.join_eq]
      exact q _ H3 (lowB_mk (by rw [g.1]; exact ln.2) (by rw [g.1]; exact ln.1) g.2) hB3 (ex1.kept.trans (ex2.kept.trans kp3))

/-- a row of names, no two alike -/
structure NamesAt (H : Hp) (l : Addr) (zs : List Str) : Prop where
  at_ : H l = some (.lst (zs.map V.str))
  nd : zs.Nodup
  low : ∀ z ∈ zs, lowB z = true
theorem inV_strs {z : Str} : ∀ {zs : List Str}, inV (.str z) (zs.map V.str) = decide (z ∈ zs)
  | [] => rfl
  | x :: r => by
    have ih := inV_strs (z := z) (zs := r)
    unfold inV at ih ⊢
    rw [List.map_cons, List.any_cons, ih]
    have ex : eqV (V.str x) (V.str z) = decide (x = z) := by
      show (x == z) = decide (x = z)
      by_cases e : x = z
      · subst e
        simp
      · simp [e]
    rw [ex]
    by_cases e : x = z
    · subst e
      simp
    · have e' : ¬ z = x := fun q => e q.symm
      simp [e, e']
def spNames : Sp := fun vs H Q _ => ∃ (b c : Addr) (m : Int), vs = [.ref b, .int m] ∧ Bag H b c ∧ 1 ≤ m ∧ m ≤ 20 ∧ ∀ (l : Addr) (zs : List Str) (H' : Hp), H l = none → NamesAt H' l zs → 1 ≤ zs.length → (zs.length : Int) ≤ m → Bag H' b c → Kept b c H H' → l ≠ b → l ≠ c → Q (.ref l) H'
theorem ok_law_names (ev : Env P K mg) : FnOk P w K mg base CX0 4 ev.f_law_names ev.d_law_names p_law_names spNames := by
  refine ev.A_law_names.F.ok sc_law_names (fun vs H Q E h => ?_) (fun cdv A outer s H vs Q E hr h => ?_)
  · obtain ⟨b, c, m, rfl, _⟩ := h
    rfl
  obtain ⟨b, c, m, rfl, hB, m1, m2, q⟩ := h
  refine ⟨_, (pss_cons (ps_set (i := 2) sc_law_names.nd rfl (Or.inl rfl) (pe_lst pa_nil))
    (pss_cons (ps_for PassesOwn.never rfl (pi_range1 rfl ev.B.range_ (pa_cons (pv 1) pa_nil)) (pg_name (i := 3) sc_law_names.nd rfl (Or.inl rfl))
    (pss_cons (ps_set (i := 4) sc_law_names.nd rfl (Or.inl rfl) (pe_call (ok_law_name ev) (hr.mono (by decide)) (by rfl) ev.A_law_name.m ev.A_law_name.F.kp ev.A_law_name.b .nil pass0 (pa_cons (pv 0) pa_nil)))
    (pss_one (ps_if (pt_cmpR op_notIn_seq (pv 4) (pv 2) (by rfl))
    (pss_one (ps_expr (pe_bm PySem.F.plainAttrs_list PySem.F.slot_list_append PySem.F.type_list_append mt_append (pv 2) (pa_cons (pv 4) pa_nil)))) pss_nil))))
    (pss_one (ps_ret (pv 2))))), ?_⟩
  refine seq_asg ⟨Nat.zero_le _, fun l nl => ?_⟩
  obtain ⟨lb, lc⟩ := hB.off nl
  refine ⟨_, rfl, m, rfl, by omega, by omega, for_range (lo := 0) (n := m.toNat) (fun i σ H2 => Bag H2 b c ∧ Kept b c H H2 ∧ ∃ y3 y4 zs, σ = [some (.ref b), some (.int m), some (.ref l), y3, y4] ∧ NamesAt H2 l zs ∧ zs.length ≤ i ∧ (0 < i → 1 ≤ zs.length))
    ⟨hB.upd nl, kept_same (same_upd nl), none, none, [], rfl, ⟨upd_same, List.nodup_nil, (fun _ hz => nomatch hz)⟩, Nat.le_refl _, fun h => absurd h (Nat.lt_irrefl _)⟩ ?_ ?_⟩
  · rintro i σ H2 hi ⟨hB2, kp2, y3, y4, zs, rfl, ⟨hl, nd, low⟩, le, l1⟩
    refine seq_asg ⟨_, rfl, b, c, rfl, hB2, fun z H3 hz hB3 kp3 => ?_⟩
    have hl3 : H3 l = some (.lst (zs.map V.str)) := kp3 l _ hl lb lc
    refine ⟨_, rfl, _, rfl, l, _, rfl, .inl (SqL.of hl3), rfl, ?_, _, rfl, ?_⟩
    · rw [List.all_eq_true]
      intro x hx
      obtain ⟨y, _, rfl⟩ := List.mem_map.mp hx
      rfl
    rw [inV_strs]
    refine ite2 (fun w => ?_) (fun w => ?_)
    · have nz : z ∉ zs := fun e => by
        rw [decide_eq_true e] at w
        exact absurd w (by decide)
      refine ⟨_, rfl, .inl ⟨rfl, _, SqL.of hl3⟩, _, rfl, l, _, _, rfl, rfl, hl3, ?_, ?_⟩
      · rw [List.length_map]
        exact small1000 (by omega)
      refine ⟨?_, ?_, _, _, zs ++ [z], rfl, ⟨?_, ?_, ?_⟩, ?_, ?_⟩
      · obtain ⟨ne, ns, sl, sd, h1, h2, rr⟩ := hB3
        exact ⟨ne, ns, sl, sd, by rw [upd_ne lb.symm]; exact h1, by rw [upd_ne lc.symm]; exact h2, rr⟩
      · intro p o e n1 n2
        have np : p ≠ l := ne_of_none e nl
        rw [upd_ne np]
        exact kp3 p o (kp2 p o e n1 n2) n1 n2
      · rw [upd_same, List.map_append]
        rfl
      · rw [List.nodup_append]
        refine ⟨nd, List.nodup_cons.mpr ⟨(fun h => nomatch h), List.nodup_nil⟩, fun x hx y hy e => ?_⟩
        rw [List.mem_singleton] at hy
        subst e hy
        exact nz hx
      · intro x hx
        rcases List.mem_append.mp hx with hx | hx
        · exact low x hx
        · rw [List.mem_singleton.mp hx]
          exact hz
      · rw [List.length_append]
        show zs.length + 1 ≤ i + 1
        omega
      · intro _
        rw [List.length_append]
        show 1 ≤ zs.length + 1
        omega
    · have zin : z ∈ zs := by
        by_cases e : z ∈ zs
        · exact e
        · rw [decide_eq_false e] at w
          exact absurd rfl w
      refine ⟨hB3, kp2.trans kp3, _, _, zs, rfl, ⟨hl3, nd, low⟩, by omega, fun _ => ?_⟩
      exact List.length_pos_iff.mpr fun e => by rw [e] at zin; cases zin
  · rintro σ H2 ⟨hB2, kp2, y3, y4, zs, rfl, hN, le, l1⟩
    exact ⟨_, rfl, q l zs H2 nl hN (l1 (by omega)) (by omega) hB2 kp2 lb lc⟩


/-! ### marks, readings -/
/-- tuples stay -/
def Tups (H H' : Hp) : Prop := ∀ p xs, H p = some (.tup xs) → H' p = some (.tup xs)
theorem Tups.refl {H : Hp} : Tups H H := fun _ _ e => e
theorem Tups.trans {H H' H'' : Hp} (h : Tups H H') (h' : Tups H' H'') : Tups H H'' := fun p xs e => h' p xs (h p xs e)
theorem tups_same {H H' : Hp} (s : Same H H') : Tups H H' := fun p xs e => s _ _ e
theorem tups_kept {H H' : Hp} {b c : Addr} (hB : Bag H b c) (k : Kept b c H H') : Tups H H' := fun p xs e => k p _ e (hB.tup e).1 (hB.tup e).2
theorem tups_upd {H : Hp} {d : Addr} {u o : HO} (h : H d = some u) (nu : ∀ xs, u ≠ .tup xs) : Tups H (upd H d o) := fun p xs e => by
  have ne : p ≠ d := fun z => by
    rw [z, h] at e
    exact nu xs (Option.some.inj e)
  rw [upd_ne ne]
  exact e
theorem bag_upd {H : Hp} {b c d : Addr} {o : HO} (h : Bag H b c) (db : d ≠ b) (dc : d ≠ c) : Bag (upd H d o) b c := by
  obtain ⟨ne, ns, sl, sd, h1, h2, rr⟩ := h
  exact ⟨ne, ns, sl, sd, by rw [upd_ne db.symm]; exact h1, by rw [upd_ne dc.symm]; exact h2, rr⟩
/-- a new thing was changed -/
theorem kept_upd {H H' : Hp} {b c d : Addr} {o : HO} (k : Kept b c H H') (nd : H d = none) : Kept b c H (upd H' d o) := fun p x e n1 n2 => by
  rw [upd_ne (ne_of_none e nd)]
  exact k p x e n1 n2
theorem valV_none {κ : Type} [DecidableEq κ] {kvs : List (κ × V)} {k : κ} (h : k ∉ kvs.map (·.1)) : valV kvs k = none := by
  unfold valV
  rw [List.find?_eq_none.mpr fun p hp => ?_]
  · rfl
  · intro z
    exact h (List.mem_map.mpr ⟨p, hp, of_decide_eq_true z⟩)
theorem putK_app {kvs : List (Key × V)} {k : Key} {u v : V} (h : k ∉ kvs.map (·.1)) : putK (kvs ++ [(k, u)]) k v = kvs ++ [(k, v)] := by
  induction kvs with
  | nil =>
    unfold putK
    simp
  | cons p r ih =>
    have hn : ¬ p.1 = k := fun z => h (by rw [List.map_cons, z]; exact List.mem_cons_self)
    have hr : k ∉ r.map (·.1) := fun z => h (by rw [List.map_cons]; exact List.mem_cons_of_mem _ z)
    have ih' := ih hr
    unfold putK at ih' ⊢
    simp [hn] at ih' ⊢
    exact ih'
def MarkV (H : Hp) (v : V) : Prop := v = .non ∨ ∃ (t : Addr) (x y : Int), v = .ref t ∧ H t = some (.tup [.int x, .int y]) ∧ -999 ≤ x ∧ x ≤ 999 ∧ -999 ≤ y ∧ y ≤ 999
theorem MarkV.mono {H H' : Hp} {v : V} (t : Tups H H') (h : MarkV H v) : MarkV H' v := by
  rcases h with h | ⟨a, x, y, e, h, r⟩
  · exact .inl h
  · exact .inr ⟨a, x, y, e, t _ _ h, r⟩
def mkv (ks : List (Str × V)) : List (Key × V) := ks.map fun p => (Sum.inr p.1, p.2)
theorem mkv_keys (ks : List (Str × V)) : (mkv ks).map (·.1) = (ks.map (·.1)).map Sum.inr := by
  unfold mkv
  rw [List.map_map, List.map_map]
  rfl
theorem mkv_app (ks : List (Str × V)) (z : Str) (v : V) : mkv ks ++ [(Sum.inr z, v)] = mkv (ks ++ [(z, v)]) := by
  unfold mkv
  rw [List.map_append]
  rfl
theorem mkv_no {ks : List (Str × V)} {z : Str} (h : z ∉ ks.map (·.1)) : (Sum.inr z : Key) ∉ (mkv ks).map (·.1) := fun hm => by
  rw [mkv_keys] at hm
  obtain ⟨y, hy, e⟩ := List.mem_map.mp hm
  cases e
  exact h hy
structure MarksIn (H : Hp) (ks : List (Str × V)) : Prop where
  nd : (ks.map (·.1)).Nodup
  low : ∀ z ∈ ks.map (·.1), lowB z = true
  val : ∀ p ∈ ks, MarkV H p.2
theorem MarksIn.mono {H H' : Hp} {ks : List (Str × V)} (t : Tups H H') (h : MarksIn H ks) : MarksIn H' ks := ⟨h.nd, h.low, fun p hp => (h.val p hp).mono t⟩
def spMarks : Sp := fun vs H Q _ => ∃ (b c : Addr) (m : Int), vs = [.ref b, .int m] ∧ Bag H b c ∧ 1 ≤ m ∧ m ≤ 20 ∧ ∀ (d : Addr) (ks : List (Str × V)) (H' : Hp), H d = none → H' d = some (.dK (mkv ks)) → MarksIn H' ks → 1 ≤ ks.length → (ks.length : Int) ≤ m → Bag H' b c → Kept b c H H' → d ≠ b → d ≠ c → Q (.ref d) H'
theorem ok_law_marks (ev : Env P K mg) : FnOk P w K mg base CX0 5 ev.f_law_marks ev.d_law_marks p_law_marks spMarks := by
  refine ev.A_law_marks.F.ok sc_law_marks (fun vs H Q E h => ?_) (fun cdv A outer s H vs Q E hr h => ?_)
  · obtain ⟨b, c, m, rfl, _⟩ := h
    rfl
  obtain ⟨b, c, m, rfl, hB, m1, m2, q⟩ := h
  have hu := hu_of hr
  refine ⟨_, (pss_cons (ps_set (i := 2) sc_law_marks.nd rfl (Or.inl rfl) pe_dnewK)
    (pss_cons (ps_for PassesOwn.never rfl (pi_list (pe_call (ok_law_names ev) (hr.mono (by decide)) (by rfl) ev.A_law_names.m ev.A_law_names.F.kp ev.A_law_names.b .nil pass0 (pa_cons (pv 0) (pa_cons (pv 1) pa_nil)))) (pg_name (i := 3) sc_law_marks.nd rfl (Or.inl rfl))
    (pss_cons (ps_dput hu (pv 2) (pv 3) pe_non rfl)
    (pss_one (ps_if (pt_cmpR op_eq (pe_call (ok_law_draw ev) (hr.mono (by decide)) (by rfl) ev.A_law_draw.m ev.A_law_draw.F.kp ev.A_law_draw.b .nil pass0 (pa_cons (pv 0) (pa_cons pe_int pa_nil))) pe_int (nomark _))
    (pss_one (ps_dput hu (pv 2) (pv 3) (pe_tup (pa_cons (pe_op op_sub (pe_call (ok_law_draw ev) (hr.mono (by decide)) (by rfl) ev.A_law_draw.m ev.A_law_draw.F.kp ev.A_law_draw.b .nil pass0 (pa_cons (pv 0) (pa_cons pe_int pa_nil))) pe_int) (pa_cons (pe_op op_sub (pe_call (ok_law_draw ev) (hr.mono (by decide)) (by rfl) ev.A_law_draw.m ev.A_law_draw.F.kp ev.A_law_draw.b .nil pass0 (pa_cons (pv 0) (pa_cons pe_int pa_nil))) pe_int) pa_nil))) rfl)) (pss_one (ps_if (pt_cmpR op_eq (pe_call (ok_law_draw ev) (hr.mono (by decide)) (by rfl) ev.A_law_draw.m ev.A_law_draw.F.kp ev.A_law_draw.b .nil pass0 (pa_cons (pv 0) (pa_cons pe_int pa_nil))) pe_int (nomark _))
    (pss_one (ps_dput hu (pv 2) (pv 3) (pe_tup (pa_cons (pe_call (ok_law_any ev) (hr.mono (by decide)) (by rfl) ev.A_law_any.m ev.A_law_any.F.kp ev.A_law_any.b .nil pass0 (pa_cons (pv 0) (pa_cons (pe_lst (pa_cons pe_int (pa_cons (pe_op op_sub pe_int pe_int) (pa_cons pe_int pa_nil)))) pa_nil))) (pa_cons (pe_call (ok_law_any ev) (hr.mono (by decide)) (by rfl) ev.A_law_any.m ev.A_law_any.F.kp ev.A_law_any.b .nil pass0 (pa_cons (pv 0) (pa_cons (pe_lst (pa_cons pe_int (pa_cons (pe_op op_sub pe_int pe_int) (pa_cons pe_int pa_nil)))) pa_nil))) pa_nil))) rfl)) pss_nil))))))
    (pss_one (ps_ret (pv 2))))), ?_⟩
  intro d nd
  obtain ⟨db, dc⟩ := hB.off nd
  refine ⟨_, rfl, _, rfl, b, c, m, rfl, hB.upd nd, m1, m2, fun l zs H1 nl hN z1 z2 hB1 kp1 lb lc => ?_⟩
  have hd1 : H1 d = some (.dK []) := kp1 d _ upd_same db dc
  have ld : l ≠ d := fun z => by
    rw [z, upd_same] at nl
    cases nl
  have kp0 : Kept b c H H1 := (kept_same (same_upd nd)).trans kp1
  refine ⟨l, rfl, ⟨_, SqL.of hN.at_⟩, for_list (K := K) (a := l) (xs := zs.map V.str) (fun i σ H2 => Bag H2 b c ∧ Kept b c H H2 ∧ H2 l = some (.lst (zs.map V.str)) ∧ ∃ y3 ks, σ = [some (.ref b), some (.int m), some (.ref d), y3] ∧ H2 d = some (.dK (mkv ks)) ∧ ks.map (·.1) = zs.take i ∧ ∀ p ∈ ks, MarkV H2 p.2)
    ⟨hB1, kp0, hN.at_, none, [], rfl, hd1, rfl, (fun _ hp => nomatch hp)⟩ (fun i σ H2 _ h => SqL.of h.2.2.1) ?_ ?_⟩
  · rintro i x σ H2 hi ⟨hB2, kp2, hl2, y3, ks, rfl, hd2, hk, hv⟩
    obtain ⟨z, hz, rfl⟩ : ∃ z, zs[i]? = some z ∧ x = V.str z := by
      rw [List.getElem?_map] at hi
      cases e : zs[i]? with
      | none => rw [e] at hi; cases hi
      | some z => rw [e] at hi; exact ⟨z, rfl, (Option.some.inj hi).symm⟩
    have zi : i < zs.length := (List.getElem?_eq_some_iff.mp hz).1
    have zn : z ∉ ks.map (·.1) := by
      rw [hk]
      intro hm
      obtain ⟨j, hj, ej⟩ := List.mem_iff_getElem.mp hm
      rw [List.length_take] at hj
      rw [List.getElem_take] at ej
      have e2 : zs[j]? = zs[i]? := by
        rw [hz, List.getElem?_eq_getElem (by omega), ej]
      have := (List.getElem?_inj (by omega) hN.nd).mp e2
      omega
    have tk : zs.take (i + 1) = zs.take i ++ [z] := by rw [List.take_add_one, hz]; rfl
    have kl : ks.length ≤ 20 := by
      have := congrArg List.length hk
      rw [List.length_map, List.length_take] at this
      omega
    have ml : (mkv ks).length = ks.length := by unfold mkv; rw [List.length_map]
    have sl : (mkv ks).length < sizeLine := small1000 (by omega)
    -- found[name] = None
    refine ⟨_, rfl, _, rfl, d, _, rfl, DPut.k (k := Sum.inr z) hd2 sl, ?_⟩
    rw [putK_new _ (valV_none (mkv_no zn))]
    have hB3 := bag_upd (o := .dK (mkv ks ++ [(Sum.inr z, .non)])) hB2 db dc
    have hd3 : (upd H2 d (.dK (mkv ks ++ [(Sum.inr z, .non)]))) d = some (.dK (mkv ks ++ [(Sum.inr z, .non)])) := upd_same
    have kp3 := kept_upd (o := .dK (mkv ks ++ [(Sum.inr z, .non)])) kp2 nd
    have hl3 : (upd H2 d (.dK (mkv ks ++ [(Sum.inr z, .non)]))) l = some (.lst (zs.map V.str)) := by rw [upd_ne ld]; exact hl2
    have tu3 : Tups H2 (upd H2 d (.dK (mkv ks ++ [(Sum.inr z, .non)]))) := tups_upd hd2 (fun xs z => nomatch z)
    generalize upd H2 d (.dK (mkv ks ++ [(Sum.inr z, .non)])) = H3 at hB3 hd3 kp3 hl3 tu3
    -- what an end of the turn asks
    have fin : ∀ (H9 : Hp) (v : V), Bag H9 b c → Kept b c H H9 → H9 l = some (.lst (zs.map V.str)) → H9 d = some (.dK (mkv ks ++ [(Sum.inr z, v)])) → Tups H3 H9 → MarkV H9 v → Bag H9 b c ∧ Kept b c H H9 ∧ H9 l = some (.lst (zs.map V.str)) ∧ ∃ y3 ks, [some (V.ref b), some (V.int m), some (V.ref d), some (V.str z)] = [some (.ref b), some (.int m), some (.ref d), y3] ∧ H9 d = some (.dK (mkv ks)) ∧ ks.map (·.1) = zs.take (i + 1) ∧ ∀ p ∈ ks, MarkV H9 p.2 :=
      fun H9 v g1 g2 g3 g4 g5 g6 => ⟨g1, g2, g3, _, ks ++ [(z, v)], rfl, by rw [← mkv_app]; exact g4, by rw [List.map_append, hk, tk]; rfl, fun p hp => by
        rcases List.mem_append.mp hp with hp | hp
        · exact (hv p hp).mono (tu3.trans g5)
        · rw [List.mem_singleton.mp hp]
          exact g6⟩
    have put : ∀ (H8 : Hp) (t : Addr) (x y : Int), Bag H8 b c → Kept b c H3 H8 → -999 ≤ x → x ≤ 999 → -999 ≤ y → y ≤ 999 → H8 t = none → _ := fun H8 t x y g1 g2 x0 x1 y0 y1 nt => by
      have gd : H8 d = some (.dK (mkv ks ++ [(Sum.inr z, .non)])) := g2 d _ hd3 db dc
      have gl : H8 l = some (.lst (zs.map V.str)) := g2 l _ hl3 lb lc
      have td : d ≠ t := ne_of_none gd nt
      have tl : l ≠ t := ne_of_none gl nt
      exact fin (upd (upd H8 t (.tup [.int x, .int y])) d (.dK (mkv ks ++ [(Sum.inr z, .ref t)]))) (.ref t) (bag_upd (g1.upd nt) db dc) (kept_upd ((kp3.trans g2).trans (kept_same (same_upd nt))) nd)
        (by rw [upd_ne ld, upd_ne tl]; exact gl) upd_same ((tups_kept hB3 g2).trans ((tups_same (same_upd nt)).trans (tups_upd (u := .dK (mkv ks ++ [(Sum.inr z, .non)])) (by rw [upd_ne td]; exact gd) (fun xs z => nomatch z))))
        (.inr ⟨t, x, y, rfl, by rw [upd_ne td.symm, upd_same], x0, x1, y0, y1⟩)
    have putD : ∀ (H8 : Hp) (t : Addr) (x y : Int), Kept b c H3 H8 → H8 t = none → DPut (upd H8 t (.tup [.int x, .int y])) d (.str z) (.ref t) (upd (upd H8 t (.tup [.int x, .int y])) d (.dK (mkv ks ++ [(Sum.inr z, .ref t)]))) := fun H8 t x y g2 nt => by
      have gd : H8 d = some (.dK (mkv ks ++ [(Sum.inr z, .non)])) := g2 d _ hd3 db dc
      have td : d ≠ t := ne_of_none gd nt
      have e := DPut.k (H := upd H8 t (.tup [.int x, .int y])) (a := d) (k := Sum.inr z) (v := .ref t) (by rw [upd_ne td]; exact gd) (show (mkv ks ++ [(Sum.inr z, V.non)]).length < sizeLine from small1000 (by rw [List.length_append]; show (mkv ks).length + 1 ≤ 1000; omega))
      rw [putK_app (mkv_no zn)] at e
      exact e
    refine ⟨_, rfl, b, c, 3, rfl, hB3, by decide, by decide, fun r H4 r0 r1 hB4 ex4 => ⟨rfl, _, rfl, ite2 (fun _ => ?_) (fun _ => ?_)⟩⟩
    · refine ⟨_, rfl, b, c, 1999, rfl, hB4, by decide, by decide, fun x H5 x0 x1 hB5 ex5 => ⟨_, _, rfl, rfl, _, rfl, b, c, 1999, rfl, hB5, by decide, by decide, fun y H6 y0 y1 hB6 ex6 => ⟨_, _, rfl, rfl, two, fun t nt => ?_⟩⟩⟩
      have ex := (ex4.trans (ex5.trans ex6)).kept
      exact ⟨_, rfl, _, rfl, d, _, rfl, putD H6 t (x - 999) (y - 999) ex nt, put H6 t (x - 999) (y - 999) hB6 ex (by omega) (by omega) (by omega) (by omega) nt⟩
    · refine ⟨_, rfl, b, c, 6, rfl, hB4, by decide, by decide, fun r H5 r0 r1 hB5 ex5 => ⟨rfl, _, rfl, ite2 (fun _ => ?_) (fun _ => ?_)⟩⟩
      · have any3 : ∀ v : V, v ∈ [V.int 999, V.int (0 - 999), V.int 0] → ∃ x : Int, v = .int x ∧ -999 ≤ x ∧ x ≤ 999 := fun v hv => by
          simp only [List.mem_cons, List.not_mem_nil, or_false] at hv
          rcases hv with rfl | rfl | rfl
          · exact ⟨_, rfl, by decide, by decide⟩
          · exact ⟨_, rfl, by decide, by decide⟩
          · exact ⟨_, rfl, by decide, by decide⟩
        refine ⟨_, rfl, _, _, rfl, rfl, (by show 3 ≤ sizeLine; decide), fun l1 nl1 => ?_⟩
        obtain ⟨l1b, l1c⟩ := hB5.off nl1
        refine ⟨b, c, l1, _, rfl, hB5.upd nl1, l1b, l1c, upd_same, (fun z => nomatch z), (by show 3 ≤ 1000; decide), fun v H6 hv hB6 ex6 => ?_⟩
        obtain ⟨x, rfl, x0, x1⟩ := any3 v hv
        refine ⟨_, rfl, _, _, rfl, rfl, (by show 3 ≤ sizeLine; decide), fun l2 nl2 => ?_⟩
        obtain ⟨l2b, l2c⟩ := hB6.off nl2
        refine ⟨b, c, l2, _, rfl, hB6.upd nl2, l2b, l2c, upd_same, (fun z => nomatch z), (by show 3 ≤ 1000; decide), fun v H7 hv hB7 ex7 => ⟨two, fun t nt => ?_⟩⟩
        obtain ⟨y, rfl, y0, y1⟩ := any3 v hv
        have ex : Kept b c H3 H7 := (ex4.trans ex5).kept.trans ((kept_same (same_upd nl1)).trans (ex6.kept.trans ((kept_same (same_upd nl2)).trans ex7.kept)))
        exact ⟨_, rfl, _, rfl, d, _, rfl, putD H7 t x y ex nt, put H7 t x y hB7 ex x0 x1 y0 y1 nt⟩
      · have ex := ex4.trans ex5
        exact fin H5 .non hB5 (kp3.trans ex.kept) ((ex l lb lc).trans hl3) ((ex d db dc).trans hd3) (tups_kept hB3 ex.kept) (.inl rfl)
  · rintro σ H2 ⟨hB2, kp2, hl2, y3, ks, rfl, hd2, hk, hv⟩
    rw [List.length_map, List.take_length] at hk
    have kl := congrArg List.length hk
    rw [List.length_map] at kl
    exact ⟨_, rfl, q d ks H2 nd hd2 ⟨by rw [hk]; exact hN.nd, by rw [hk]; exact hN.low, hv⟩ (by omega) (by omega) hB2 kp2 db dc⟩

def ReadV (H : Hp) (zs : List Str) (v : V) : Prop := ∃ (t : Addr) (one two : Str) (ac hi wt : Int), v = .ref t ∧ H t = some (.tup [.str one, .str two, .int ac, .int hi, .int wt]) ∧ one ∈ zs ∧ two ∈ zs ∧ one ≠ two ∧ -999 ≤ ac ∧ ac ≤ 999 ∧ -999 ≤ hi ∧ hi ≤ 999 ∧ 1 ≤ wt ∧ wt ≤ 9
theorem ReadV.mono {H H' : Hp} {zs : List Str} {v : V} (t : Tups H H') (h : ReadV H zs v) : ReadV H' zs v := by
  obtain ⟨a, o, w, ac, hi, wt, e, h, r⟩ := h
  exact ⟨a, o, w, ac, hi, wt, e, t _ _ h, r⟩
def rdv (rs : List (Int × V)) : List (Key × V) := rs.map fun p => (Sum.inl p.1, p.2)
theorem rdv_keys (rs : List (Int × V)) : (rdv rs).map (·.1) = (rs.map (·.1)).map Sum.inl := by
  unfold rdv
  rw [List.map_map, List.map_map]
  rfl
theorem rdv_app (rs : List (Int × V)) (z : Int) (v : V) : rdv rs ++ [(Sum.inl z, v)] = rdv (rs ++ [(z, v)]) := by
  unfold rdv
  rw [List.map_append]
  rfl
theorem rdv_no {rs : List (Int × V)} {z : Int} (h : z ∉ rs.map (·.1)) : (Sum.inl z : Key) ∉ (rdv rs).map (·.1) := fun hm => by
  rw [rdv_keys] at hm
  obtain ⟨y, hy, e⟩ := List.mem_map.mp hm
  cases e
  exact h hy
structure ReadsIn (H : Hp) (zs : List Str) (rs : List (Int × V)) : Prop where
  up : (rs.map (·.1)).Pairwise (· < ·)
  one : ∀ n ∈ rs.map (·.1), 1 ≤ n
  val : ∀ p ∈ rs, ReadV H zs p.2
theorem ReadsIn.mono {H H' : Hp} {zs : List Str} {rs : List (Int × V)} (t : Tups H H') (h : ReadsIn H zs rs) : ReadsIn H' zs rs := ⟨h.up, h.one, fun p hp => (h.val p hp).mono t⟩
def spReads : Sp := fun vs H Q _ => ∃ (b c l : Addr) (zs : List Str) (m : Int), vs = [.ref b, .ref l, .int m] ∧ Bag H b c ∧ l ≠ b ∧ l ≠ c ∧ H l = some (.lst (zs.map V.str)) ∧ 1 ≤ zs.length ∧ zs.length ≤ 60 ∧ 0 ≤ m ∧ m ≤ 30 ∧
  ∀ (d : Addr) (rs : List (Int × V)) (H' : Hp), H d = none → H' d = some (.dK (rdv rs)) → ReadsIn H' zs rs → (rs.length : Int) ≤ m → (∀ n ∈ rs.map (·.1), n ≤ 90) → Bag H' b c → Kept b c H H' → d ≠ b → d ≠ c → Q (.ref d) H'
theorem ok_law_readings (ev : Env P K mg) : FnOk P w K mg base CX0 3 ev.f_law_readings ev.d_law_readings p_law_readings spReads := by
  refine ev.A_law_readings.F.ok sc_law_readings (fun vs H Q E h => ?_) (fun cdv A outer s H vs Q E hr h => ?_)
  · obtain ⟨b, c, l, zs, m, rfl, _⟩ := h
    rfl
  obtain ⟨b, c, l, zs, m, rfl, hB, lb, lc, hl, z1, z60, m0, m30, q⟩ := h
  have hu := hu_of hr
  refine ⟨_, (pss_cons (ps_set (i := 3) sc_law_readings.nd rfl (Or.inl rfl) pe_dnewK)
    (pss_cons (ps_set (i := 4) sc_law_readings.nd rfl (Or.inl rfl) pe_int)
    (pss_cons (ps_for PassesOwn.never rfl (pi_range1 rfl ev.B.range_ (pa_cons (pv 2) pa_nil)) (pg_name (i := 5) sc_law_readings.nd rfl (Or.inl rfl))
    (pss_cons (ps_set (i := 4) sc_law_readings.nd rfl (Or.inl rfl) (pe_op op_add (pe_op op_add (pv 4) pe_int) (pe_call (ok_law_draw ev) (hr.mono (by decide)) (by rfl) ev.A_law_draw.m ev.A_law_draw.F.kp ev.A_law_draw.b .nil pass0 (pa_cons (pv 0) (pa_cons pe_int pa_nil)))))
    (pss_cons (ps_set (i := 6) sc_law_readings.nd rfl (Or.inl rfl) (pe_call (ok_law_any ev) (hr.mono (by decide)) (by rfl) ev.A_law_any.m ev.A_law_any.F.kp ev.A_law_any.b .nil pass0 (pa_cons (pv 0) (pa_cons (pv 1) pa_nil))))
    (pss_cons (ps_set (i := 7) sc_law_readings.nd rfl (Or.inl rfl) (pe_call (ok_law_any ev) (hr.mono (by decide)) (by rfl) ev.A_law_any.m ev.A_law_any.F.kp ev.A_law_any.b .nil pass0 (pa_cons (pv 0) (pa_cons (pv 1) pa_nil))))
    (pss_one (ps_if (pt_cmpR op_ne (pv 6) (pv 7) (nomark _))
    (pss_cons (ps_set (i := 8) sc_law_readings.nd rfl (Or.inl rfl) (pe_ix ix_list (pe_lst (pa_cons (pe_op op_sub (pe_call (ok_law_draw ev) (hr.mono (by decide)) (by rfl) ev.A_law_draw.m ev.A_law_draw.F.kp ev.A_law_draw.b .nil pass0 (pa_cons (pv 0) (pa_cons pe_int pa_nil))) pe_int) (pa_cons (pe_op op_sub (pe_call (ok_law_draw ev) (hr.mono (by decide)) (by rfl) ev.A_law_draw.m ev.A_law_draw.F.kp ev.A_law_draw.b .nil pass0 (pa_cons (pv 0) (pa_cons pe_int pa_nil))) pe_int) pa_nil))) (pe_call (ok_law_draw ev) (hr.mono (by decide)) (by rfl) ev.A_law_draw.m ev.A_law_draw.F.kp ev.A_law_draw.b .nil pass0 (pa_cons (pv 0) (pa_cons pe_int pa_nil))) (fun _ _ => rfl)))
    (pss_cons (ps_set (i := 9) sc_law_readings.nd rfl (Or.inl rfl) (pe_op op_sub (pe_call (ok_law_draw ev) (hr.mono (by decide)) (by rfl) ev.A_law_draw.m ev.A_law_draw.F.kp ev.A_law_draw.b .nil pass0 (pa_cons (pv 0) (pa_cons pe_int pa_nil))) pe_int))
    (pss_one (ps_dput hu (pv 3) (pv 4) (pe_tup (pa_cons (pv 6) (pa_cons (pv 7) (pa_cons (pv 8) (pa_cons (pv 9) (pa_cons (pe_op op_add pe_int (pe_call (ok_law_draw ev) (hr.mono (by decide)) (by rfl) ev.A_law_draw.m ev.A_law_draw.F.kp ev.A_law_draw.b .nil pass0 (pa_cons (pv 0) (pa_cons pe_int pa_nil)))) pa_nil)))))) rfl)))) pss_nil))))))
    (pss_one (ps_ret (pv 3)))))), ?_⟩
  intro d nd
  obtain ⟨db, dc⟩ := hB.off nd
  have dl : l ≠ d := ne_of_none hl nd
  refine seq_c ?_
  refine ⟨_, rfl, m, rfl, by omega, by omega, for_range (lo := 0) (n := m.toNat) (fun i σ H2 => Bag H2 b c ∧ Kept b c H H2 ∧ ∃ (num : Int) (rs : List (Int × V)) (y5 y6 y7 y8 y9 : Option V), σ = [some (.ref b), some (.ref l), some (.int m), some (.ref d), some (.int num), y5, y6, y7, y8, y9] ∧ H2 d = some (.dK (rdv rs)) ∧ ReadsIn H2 zs rs ∧ rs.length ≤ i ∧ 0 ≤ num ∧ (∀ n ∈ rs.map (·.1), n ≤ num) ∧ num ≤ 3 * (i : Int))
    ⟨hB.upd nd, kept_same (same_upd nd), 0, [], none, none, none, none, none, rfl, upd_same, ⟨.nil, (fun _ h => nomatch h), (fun _ h => nomatch h)⟩, Nat.le_refl _, Int.le_refl _, (fun _ h => nomatch h), (by omega)⟩ ?_ ?_⟩
  · rintro i σ H2 hi ⟨hB2, kp2, num, rs, y5, y6, y7, y8, y9, rfl, hd2, hR, le, n0, hn, n3⟩
    refine seq_asg ⟨_, rfl, _, _, rfl, rfl, _, rfl, b, c, 3, rfl, hB2, by decide, by decide, fun r H3 r0 r1 hB3 ex3 => ⟨_, _, rfl, rfl, ?_⟩⟩
    have kp3 := kp2.trans ex3.kept
    have hl3 := kp3 l _ hl lb lc
    have zl : (zs.map V.str).length = zs.length := List.length_map _
    have zne : zs.map V.str ≠ [] := fun e => by
      rw [e] at zl
      exact absurd zl (by show 0 = zs.length → False; omega)
    refine seq_asg ⟨_, rfl, _, rfl, b, c, l, _, rfl, hB3, lb, lc, hl3, zne, by omega, fun v H4 hv hB4 ex4 => ?_⟩
    obtain ⟨one, o1, rfl⟩ := List.mem_map.mp hv
    have kp4 := kp3.trans ex4.kept
    refine seq_asg ⟨_, rfl, _, rfl, b, c, l, _, rfl, hB4, lb, lc, kp4 l _ hl lb lc, zne, by omega, fun v H5 hv hB5 ex5 => ?_⟩
    obtain ⟨tw, t1, rfl⟩ := List.mem_map.mp hv
    have kp5 := kp4.trans ex5.kept
    have ex25 : Els b c H2 H5 := ex3.trans (ex4.trans ex5)
    have hd5 : H5 d = some (.dK (rdv rs)) := (ex25 d db dc).trans hd2
    have tu5 : Tups H2 H5 := tups_kept hB2 ex25.kept
    refine ⟨_, rfl, _, rfl, rfl, _, rfl, ite2 (fun w => ?_) (fun w => ?_)⟩
    · have hne : one ≠ tw := fun e => by
        subst e
        rw [decide_eq_true rfl] at w
        exact absurd w (by decide)
      refine seq_asg ⟨_, rfl, b, c, 1999, rfl, hB5, by decide, by decide, fun x H6 x0 x1 hB6 ex6 => ⟨_, _, rfl, rfl, _, rfl, b, c, 41, rfl, hB6, by decide, by decide, fun x' H7 x0' x1' hB7 ex7 => ⟨_, _, rfl, rfl, two, fun ls nls => ?_⟩⟩⟩
      obtain ⟨lsb, lsc⟩ := hB7.off nls
      refine ⟨_, rfl, b, c, 2, rfl, hB7.upd nls, by decide, by decide, fun g H8 g0 g1 hB8 ex8 => ?_⟩
      have hls : H8 ls = some (.lst [.int (x - 999), .int (x' - 20)]) := (ex8 ls lsb lsc).trans upd_same
      obtain ⟨v, hv, ev⟩ := at_mem (xs := [V.int (x - 999), V.int (x' - 20)]) g0 g1
      obtain ⟨sz, rfl, s0, s1⟩ : ∃ sz : Int, v = .int sz ∧ -999 ≤ sz ∧ sz ≤ 999 := by
        simp only [List.mem_cons, List.not_mem_nil, or_false] at hv
        rcases hv with rfl | rfl
        · exact ⟨_, rfl, by omega, by omega⟩
        · exact ⟨_, rfl, by omega, by omega⟩
      refine ⟨ls, _, _, _, rfl, rfl, SqL.of hls, ev, ?_⟩
      refine seq_asg ⟨_, rfl, b, c, 1999, rfl, hB8, by decide, by decide, fun h H9 h0 h1 hB9 ex9 => ⟨_, _, rfl, rfl, ?_⟩⟩
      refine ⟨_, rfl, _, rfl, _, rfl, _, rfl, _, rfl, b, c, 9, rfl, hB9, by decide, by decide, fun g' H10 g0' g1' hB10 ex10 => ⟨_, _, rfl, rfl, (by show 5 ≤ sizeLine; decide), fun t nt => ?_⟩⟩
      have kp510 : Kept b c H5 H10 := (ex6.trans ex7).kept.trans ((kept_same (same_upd nls)).trans ((ex8.trans (ex9.trans ex10)).kept))
      have hd10 : H10 d = some (.dK (rdv rs)) := kp510 d _ hd5 db dc
      have tu10 : Tups H2 H10 := tu5.trans (tups_kept hB5 kp510)
      have td : d ≠ t := ne_of_none hd10 nt
      have hd11 : (upd H10 t (.tup [.str one, .str tw, .int sz, .int (h - 999), .int (1 + g')])) d = some (.dK (rdv rs)) := by rw [upd_ne td]; exact hd10
      have nw : num + 1 + r ∉ rs.map (·.1) := fun z => by
        have := hn _ z
        omega
      have ln : (rdv rs).length < sizeLine := by
        unfold rdv
        rw [List.length_map]
        exact small1000 (by omega)
      refine ⟨_, rfl, _, rfl, d, _, rfl, DPut.k (k := Sum.inl (num + 1 + r)) hd11 ln, ?_⟩
      rw [putK_new _ (valV_none (rdv_no nw)), rdv_app]
      have tu11 : Tups H2 (upd (upd H10 t (.tup [.str one, .str tw, .int sz, .int (h - 999), .int (1 + g')])) d (.dK (rdv (rs ++ [(num + 1 + r, .ref t)])))) := tu10.trans ((tups_same (same_upd nt)).trans (tups_upd hd11 (fun xs z => nomatch z)))
      refine ⟨bag_upd (hB10.upd nt) db dc, kept_upd ((kp5.trans kp510).trans (kept_same (same_upd nt))) nd, num + 1 + r, rs ++ [(num + 1 + r, .ref t)], _, _, _, _, _, rfl, upd_same, ⟨?_, ?_, ?_⟩, ?_, by omega, ?_, by omega⟩
      · rw [List.map_append, List.pairwise_append]
        refine ⟨hR.up, List.pairwise_singleton _ _, fun x hx y hy => ?_⟩
        rw [List.map_singleton, List.mem_singleton] at hy
        have := hn x hx
        omega
      · intro n hnn
        rw [List.map_append] at hnn
        rcases List.mem_append.mp hnn with z | z
        · exact hR.one n z
        · rw [List.map_singleton, List.mem_singleton] at z
          omega
      · intro p hp
        rcases List.mem_append.mp hp with z | z
        · exact (hR.val p z).mono tu11
        · rw [List.mem_singleton.mp z]
          exact ⟨t, one, tw, sz, h - 999, 1 + g', rfl, by rw [upd_ne td.symm, upd_same], o1, t1, hne, s0, s1, by omega, by omega, by omega, by omega⟩
      · rw [List.length_append]
        show rs.length + 1 ≤ i + 1
        omega
      · intro n hnn
        rw [List.map_append] at hnn
        rcases List.mem_append.mp hnn with z | z
        · have := hn n z
          omega
        · rw [List.map_singleton, List.mem_singleton] at z
          omega
    · exact ⟨hB5, kp5, num + 1 + r, rs, _, _, _, _, _, rfl, hd5, hR.mono tu5, by omega, by omega, (fun n z => by have := hn n z; omega), by omega⟩
  · rintro σ H2 ⟨hB2, kp2, num, rs, y5, y6, y7, y8, y9, rfl, hd2, hR, le, n0, hn, n3⟩
    exact ⟨_, rfl, q d rs H2 nd hd2 hR (by omega) (fun n z => by have := hn n z; omega) hB2 kp2 db dc⟩


/-! ### the survey -/
theorem lc_str {x : Str} {g : TG} {tt : TT} {te : TE} {vs : List Nat} {σ : L2.St} {H0 : Hp} {D : Addr} {Qd : Hp → Prop} (Pv : Nat → Hp → Prop) (h0 : Pv 0 (upd H0 D (.lst [])))
    (hs : ∀ i c H, x.cps.toList[i]? = some c → Pv i H → LcStep g tt te vs σ D (.str ⟨#[c]⟩) H (Pv (i + 1))) (hd : ∀ H, Pv x.cps.toList.length H → Qd H) : Wlk (Its x) (upd H0 D (.lst [])) (LcStep g tt te vs σ D) Qd :=
  wlk x.cps.toList.length Pv h0 (fun H p => ⟨Nat.le_refl _, hd H p⟩) fun i H c p => ⟨c, fun y G z => by
    obtain ⟨rfl, u, e, rfl⟩ := z
    exact hs i u _ (Array.getElem?_toList.trans e) p⟩
theorem dc_list {K : PySem.W.Frag} {a : Addr} {xs : List V} {g : TG} {tt : TT} {tk tv : TE} {vs : List Nat} {σ : L2.St} {H0 : Hp} {D : Addr} {Qd : Hp → Prop} (Pv : Nat → Hp → Prop) (h0 : Pv 0 (upd H0 D (.dK []))) (hl : ∀ i H, i ≤ xs.length → Pv i H → SqL K H a xs)
    (hs : ∀ i x H, xs[i]? = some x → Pv i H → DcStep g tt tk tv vs σ D x H (Pv (i + 1))) (hd : ∀ H, Pv xs.length H → Qd H) : Wlk (Itl K a) (upd H0 D (.dK [])) (DcStep g tt tk tv vs σ D) Qd :=
  wlk xs.length Pv h0 (fun H p => ⟨⟨xs, hl _ H (Nat.le_refl _) p, Nat.le_refl _⟩, hd H p⟩) fun i H c p => ⟨⟨xs, xs[i], hl i H (Nat.le_of_lt c) p, List.getElem?_eq_getElem c⟩, fun y G z => by
    obtain ⟨rfl, e⟩ := z
    exact hs i y _ (e xs (hl i _ (Nat.le_of_lt c) p)) p⟩
theorem len_cps (z : Str) : z.length = z.cps.toList.length := rfl
def spIsName : Sp := fun vs H Q _ => ∃ z : Str, vs = [.str z] ∧ z.cps.toList.length ≤ 900 ∧ ∀ H', Same H H' → Q (.bl (lowB z)) H'
theorem abc_in (c : Nat) : decide (c ∈ (Str.ofString "abcdefghijklmnopqrstuvwxyz").cps.toList) = (decide (97 ≤ c) && decide (c ≤ 122)) := by
  have e : (Str.ofString "abcdefghijklmnopqrstuvwxyz").cps.toList = [97, 98, 99, 100, 101, 102, 103, 104, 105, 106, 107, 108, 109, 110, 111, 112, 113, 114, 115, 116, 117, 118, 119, 120, 121, 122] := by decide +kernel
  rw [e, ← Bool.decide_and]
  apply decide_eq_decide.mpr
  simp only [List.mem_cons, List.not_mem_nil, or_false]
  omega
/-- one or more small letters -/
def wordB (z : Str) : Bool := decide (1 ≤ z.cps.toList.length) && z.cps.toList.all fun c => decide (97 ≤ c) && decide (c ≤ 122)
theorem str_nil {z : Str} : z = Str.ofString "" ↔ ¬ 1 ≤ z.cps.toList.length := by
  constructor
  · intro e
    subst e
    decide +kernel
  · intro h
    obtain ⟨a⟩ := z
    have e : a = #[] := by
      apply Array.eq_empty_of_size_eq_zero
      have h2 : ¬ 1 ≤ a.toList.length := h
      rw [Array.length_toList] at h2
      omega
    subst e
    decide +kernel
def spIsWord : Sp := fun vs H Q _ => ∃ z : Str, vs = [.str z] ∧ z.cps.toList.length ≤ 900 ∧ ∀ H', Same H H' → Q (.bl (wordB z)) H'
theorem ok_is_word (ev : Env P K mg) : FnOk P w K mg base CX0 1 ev.f_is_word ev.d_is_word p_is_word spIsWord := by
  refine ev.A_is_word.F.ok sc_is_word (fun vs H Q E h => ?_) (fun cdv A outer s H vs Q E hr h => ?_)
  · obtain ⟨z, rfl, _⟩ := h
    rfl
  obtain ⟨z, rfl, hz, q⟩ := h
  refine ⟨_, (pss_one (ps_ret (pe_and (pe_cmpR op_ne (pv 0) pe_str (nomark _)) (pe_one (pe_callB (cr_all rfl) (by rfl) ev.B.all_ (by decide +kernel) (pa_cons (pe_lc (own := [("sign", 1)]) (g := gName 1) (tt := tYes) (by rfl) sc_is_word.nd (pi_str (pv 0)) (blkOk_by (own := [("sign", 1)]) (N := n_is_word) (sc := defScope s_is_word) (by decide +kernel)) (fun _ _ _ _ _ => pg_name (i := 1) sc_is_word.nd rfl (Or.inl rfl)) (fun _ _ _ _ _ => pts_nil) (fun _ _ _ _ _ => (pe_cmpR op_in_sign (pv 1) (pe_glob (v := .str "abcdefghijklmnopqrstuvwxyz") (by rfl) ev.c_LETTERS ⟨_, rfl⟩) (by rfl)))) pa_nil)))))), ?_⟩
  have zl := len_cps z
  have lows : wordB z = (decide (1 ≤ z.cps.toList.length) && z.cps.toList.all fun c => decide (97 ≤ c) && decide (c ≤ 122)) := rfl
  refine ⟨_, rfl, rfl, _, rfl, ite2 (fun c1 => ?_) (fun c1 => ?_)⟩
  rotate_left
  · have c1' : ¬ 1 ≤ z.cps.toList.length := str_nil.mp (by
      apply Classical.byContradiction
      intro n
      exact c1 (by rw [decide_eq_false (fun e => n (V.str.inj e))]; rfl))
    have e : wordB z = false := by rw [lows, decide_eq_false c1']; rfl
    rw [e] at q
    exact q H (Same.refl _)
  have c1' : 1 ≤ z.cps.toList.length := Classical.byContradiction fun n => by
    rw [str_nil.mpr n] at c1
    exact absurd c1 (by simp)
  rw [decide_eq_true c1', Bool.true_and] at lows
  refine ⟨_, rfl, z, rfl, fun D hD => ?_⟩
  refine lc_str (fun i H2 => Same H H2 ∧ H2 D = some (.lst (((z.cps.toList.take i).map fun c => decide (97 ≤ c) && decide (c ≤ 122)).map V.bl))) ⟨same_upd hD, upd_same⟩ ?_ ?_
  · rintro i c H2 hi ⟨s2, hD2⟩
    refine ⟨rfl, yes_ ?_⟩
    refine ⟨_, rfl, c, _, rfl, rfl, _, hD2, ?_, fun p o e => ?_, ?_⟩
    · rw [List.length_map, List.length_map, List.length_take]
      exact small1000 (by omega)
    · rw [upd_ne (ne_of_none e hD)]
      exact s2 _ _ e
    · rw [upd_same, abc_in, List.take_add_one, hi]
      simp only [Option.toList, List.map_append, List.map_cons, List.map_nil]
  · rintro H2 ⟨s2, hD2⟩
    refine ⟨D, _, rfl, SqL.of hD2, ?_⟩
    rw [List.take_length, List.all_map]
    have e : (z.cps.toList.all (id ∘ fun c => decide (97 ≤ c) && decide (c ≤ 122))) = wordB z := by rw [lows]; rfl
    rw [e]
    exact q H2 s2
theorem ok_is_name (ev : Env P K mg) : FnOk P w K mg base CX0 2 ev.f_is_name ev.d_is_name p_is_name spIsName := by
  refine ev.A_is_name.F.ok sc_is_name (fun vs H Q E h => ?_) (fun cdv A outer s H vs Q E hr h => ?_)
  · obtain ⟨z, rfl, _⟩ := h
    rfl
  obtain ⟨z, rfl, hz, q⟩ := h
  refine ⟨_, (pss_one (ps_ret (pe_and (pe_cmpR op_le (pe_callB call_len_str (by rfl) ev.B.len_ PySem.boot_len (pa_cons (pv 0) pa_nil)) (pe_glob (v := .int 6) (by rfl) ev.c_LONGEST ⟨_, rfl⟩) (nomark _)) (pe_one (pe_call (ok_is_word ev) (hr.mono (by decide)) (by rfl) ev.A_is_word.m ev.A_is_word.F.kp ev.A_is_word.b .nil pass0 (pa_cons (pv 0) pa_nil)))))), ?_⟩
  have zl := len_cps z
  have lows : lowB z = (decide (1 ≤ z.cps.toList.length) && decide (z.cps.toList.length ≤ 6) && z.cps.toList.all fun c => decide (97 ≤ c) && decide (c ≤ 122)) := rfl
  refine ⟨_, rfl, _, rfl, small_le (by omega), _, _, rfl, rfl, _, rfl, ite2 (fun c2 => ?_) (fun c2 => ?_)⟩
  rotate_left
  · have c2' : ¬ z.cps.toList.length ≤ 6 := fun n => c2 (decide_eq_true (by omega))
    have e : lowB z = false := by rw [lows, decide_eq_false c2', Bool.and_false]; rfl
    rw [e] at q
    exact q H (Same.refl _)
  have c2' : z.cps.toList.length ≤ 6 := by have := of_decide_eq_true c2; omega
  have e : wordB z = lowB z := by
    rw [lows, decide_eq_true c2', Bool.and_true]
    rfl
  refine ⟨_, rfl, z, rfl, hz, ?_⟩
  rw [e]
  exact q

/-- a number within its bounds: True and False are none -/
def numB (v : V) (lo hi : Int) : Bool := match v with | .int i => decide (lo ≤ i) && decide (i ≤ hi) | _ => false
def isNum (v : V) : Prop := (∃ i : Int, v = .int i) ∨ ∃ b, v = .bl b
def spWithin : Sp := fun vs H Q _ => ∃ (v : V) (lo hi : Int), vs = [v, .int lo, .int hi] ∧ isNum v ∧ Q (.bl (numB v lo hi)) H
theorem ok_is_within (ev : Env P K mg) : FnOk P w K mg base CX0 1 ev.f_is_within ev.d_is_within p_is_within spWithin := by
  refine ev.A_is_within.F.ok sc_is_within (fun vs H Q E h => ?_) (fun cdv A outer s H vs Q E hr h => ?_)
  · obtain ⟨v, lo, hi, rfl, _⟩ := h
    rfl
  obtain ⟨v, lo, hi, rfl, hv, q⟩ := h
  refine ⟨_, (pss_one (ps_ret (pe_and (pe_not (pe_callB call_isi (by rfl) ev.B.isinstance_ (by decide +kernel) (pa_cons (pv 0) (pa_cons (pe_bltn (v := .ty "bool") (by rfl) ev.B.bool_ (by decide +kernel) rfl) pa_nil)))) (pe_one (pe_chain op_le op_le (pv 1) (pv 0) (pv 2)))))), ?_⟩
  rcases hv with ⟨i, rfl⟩ | ⟨b, rfl⟩
  · refine ⟨_, rfl, _, _, _, _, false, rfl, .ty _, .base (.int i), kit_ty (by decide +kernel), false, rfl, true, rfl, iteT ?_⟩
    refine ⟨_, rfl, _, rfl, _, _, rfl, rfl, _, rfl, ite2 (fun c => ?_) (fun c => ?_)⟩
    · refine ⟨_, rfl, _, _, rfl, rfl, ?_⟩
      have e : numB (.int i) lo hi = decide (i ≤ hi) := by
        show (decide (lo ≤ i) && decide (i ≤ hi)) = _
        rw [c, Bool.true_and]
      rw [e] at q
      exact q
    · have e : numB (.int i) lo hi = false := by
        show (decide (lo ≤ i) && decide (i ≤ hi)) = _
        rw [Bool.eq_false_iff.mpr c, Bool.false_and]
      rw [e] at q
      exact q
  · refine ⟨_, rfl, _, _, _, _, true, rfl, .ty _, .base (.bl b), kit_ty (by decide +kernel), true, rfl, false, rfl, iteF q⟩


def spChkName (C : Addr) : Sp := fun vs H Q E => ∃ z : Str, vs = [.str z] ∧ z.cps.toList.length ≤ 900 ∧ (lowB z = true → ∀ H', Same H H' → Q .non H') ∧
  (lowB z = false → okV (.str z) ∧ ∀ H' d, Same H H' → H' d = none → E (.ref C) (some d) (upd H' d (.xd [("name", .str z)])))
theorem ok_check_name (ev : Env P K mg) : FnOk P w K mg base (L2.CX P w) 3 ev.f_check_name ev.d_check_name p_check_name (spChkName ev.C_BadName) := by
  refine ev.A_check_name.F.okX sc_check_name (fun vs H Q E h => ?_) (fun cdv A outer s H vs Q E hr h => ?_)
  · obtain ⟨z, rfl, _⟩ := h
    rfl
  obtain ⟨z, rfl, hz, q1, q2⟩ := h
  refine ⟨_, (pss_one (ps_if (pt_not (pt_val (pe_call (ok_is_name ev) (hr.mono (by decide)) (by rfl) ev.A_is_name.m ev.A_is_name.F.kp ev.A_is_name.b .nil pass0 (pa_cons (pv 0) pa_nil))))
    (pss_one (ps_raiseE rfl ev.X_BadName hr (takes_of rfl rfl rfl rfl) (pa_cons (pv 0) pa_nil) (by exact rfl))) pss_nil)), ?_⟩
  refine ⟨_, rfl, z, rfl, hz, fun H' s => ⟨_, rfl, ite2 (fun c => ?_) (fun c => ?_)⟩⟩
  · obtain ⟨ok, k⟩ := q2 (by simpa using c)
    exact ⟨_, rfl, _, rfl, ok, fun d hd => k H' d s hd⟩
  · exact q1 (by simpa using c) H' s
def spChkNum (C : Addr) : Sp := fun vs H Q E => ∃ (v : V) (lo hi : Int), vs = [v, .int lo, .int hi] ∧ isNum v ∧ (numB v lo hi = true → Q .non H) ∧
  (numB v lo hi = false → okV v ∧ ∀ d, H d = none → E (.ref C) (some d) (upd H d (.xd [("number", v)])))
theorem ok_check_number (ev : Env P K mg) : FnOk P w K mg base (L2.CX P w) 2 ev.f_check_number ev.d_check_number p_check_number (spChkNum ev.C_BadNumber) := by
  refine ev.A_check_number.F.okX sc_check_number (fun vs H Q E h => ?_) (fun cdv A outer s H vs Q E hr h => ?_)
  · obtain ⟨v, lo, hi, rfl, _⟩ := h
    rfl
  obtain ⟨v, lo, hi, rfl, hv, q1, q2⟩ := h
  refine ⟨_, (pss_one (ps_if (pt_not (pt_val (pe_call (ok_is_within ev) (hr.mono (by decide)) (by rfl) ev.A_is_within.m ev.A_is_within.F.kp ev.A_is_within.b .nil pass0 (pa_cons (pv 0) (pa_cons (pv 1) (pa_cons (pv 2) pa_nil))))))
    (pss_one (ps_raiseE rfl ev.X_BadNumber hr (takes_of rfl rfl rfl rfl) (pa_cons (pv 0) pa_nil) (by exact rfl))) pss_nil)), ?_⟩
  refine ⟨_, rfl, _, rfl, _, rfl, v, lo, hi, rfl, hv, _, rfl, ite2 (fun c => ?_) (fun c => ?_)⟩
  · obtain ⟨ok, k⟩ := q2 (by simpa using c)
    exact ⟨_, rfl, _, rfl, ok, fun d hd => k d hd⟩
  · exact q1 (by simpa using c)


/-- what is refused, and with what -/
inductive Er where
  | name (z : Str)
  | num (v : V)
  | mark (z : Str)
  | rd (n : Int)
def eF : Er → Str
  | .name _ => "name"
  | .num _ => "number"
  | .mark _ => "name"
  | .rd _ => "number"
def eV : Er → V
  | .name z => .str z
  | .num v => v
  | .mark z => .str z
  | .rd n => .int n
/-- the classes: BadName, BadNumber, NoMark, BadReading -/
structure Cs where
  n : Addr
  u : Addr
  m : Addr
  r : Addr
def eC (c : Cs) : Er → Addr
  | .name _ => c.n
  | .num _ => c.u
  | .mark _ => c.m
  | .rd _ => c.r
/-- e is raised, all that stood stands -/
def Rz (c : Cs) (E : XK) (H : Hp) (e : Er) : Prop := ∀ H' d, Same H H' → H' d = none → E (.ref (eC c e)) (some d) (upd H' d (.xd [(eF e, eV e)]))
theorem Rz.same {c : Cs} {E : XK} {H H' : Hp} {e : Er} (s : Same H H') (h : Rz c E H e) : Rz c E H' e := fun H2 d s2 hd => h H2 d (s.trans s2) hd
/-- a number of some size, True or False -/
def numOk (v : V) : Prop := (∃ i : Int, v = .int i ∧ i.natAbs < 2 ^ 60) ∨ ∃ b, v = .bl b
theorem numOk.num {v : V} (h : numOk v) : isNum v := by
  rcases h with ⟨i, rfl, _⟩ | ⟨b, rfl⟩
  · exact .inl ⟨i, rfl⟩
  · exact .inr ⟨b, rfl⟩
theorem int_okV {i : Int} (hi : i.natAbs < 2 ^ 60) : okV (.int i) := .inr (.inl ⟨i, rfl, PySem.Flt.log2_lt_of (by decide) (Nat.lt_of_lt_of_le hi (Nat.pow_le_pow_right (by decide) (by decide)))⟩)
theorem numOk.ok {v : V} (h : numOk v) : okV v := by
  rcases h with ⟨i, rfl, hi⟩ | ⟨b, rfl⟩
  · exact int_okV hi
  · exact .inr (.inr (.inl ⟨b, rfl⟩))
/-- a spot as it is handed in: None or a tuple of two numbers -/
def MkV (H : Hp) (v : V) (xs : List V) : Prop := (v = .non ∧ xs = []) ∨ ∃ a x y, v = .ref a ∧ H a = some (.tup [x, y]) ∧ xs = [x, y] ∧ numOk x ∧ numOk y
theorem MkV.same {H H' : Hp} {v : V} {xs : List V} (s : Same H H') (h : MkV H v xs) : MkV H' v xs := by
  rcases h with h | ⟨a, x, y, rfl, ha, r⟩
  · exact .inl h
  · exact .inr ⟨a, x, y, rfl, s _ _ ha, r⟩
theorem MkV.num {H : Hp} {v : V} {xs : List V} (h : MkV H v xs) : ∀ u ∈ xs, numOk u := by
  rcases h with ⟨_, rfl⟩ | ⟨a, x, y, rfl, ha, rfl, hx, hy⟩
  · intro u hu
    cases hu
  · intro u hu
    simp only [List.mem_cons, List.not_mem_nil, or_false] at hu
    rcases hu with rfl | rfl
    · exact hx
    · exact hy
def badN (v : V) : Bool := !numB v (-999) 999
def markE (z : Str) (xs : List V) : Option Er := if lowB z = true then (xs.find? badN).map .num else some (.name z)
theorem find_at {xs : List V} {p : V → Bool} {i : Nat} {v : V} (h : ∀ u ∈ xs.take i, p u = false) (hi : xs[i]? = some v) (hp : p v = true) : xs.find? p = some v := by
  have e : xs = xs.take i ++ v :: xs.drop (i + 1) := by
    have hl := (List.getElem?_eq_some_iff.mp hi)
    obtain ⟨l, rfl⟩ := hl
    rw [← List.drop_eq_getElem_cons l, List.take_append_drop]
  rw [e, List.find?_append]
  have n : (xs.take i).find? p = none := List.find?_eq_none.mpr fun u hu => by rw [h u hu]; exact Bool.false_ne_true
  rw [n, List.find?_cons, hp]
  rfl
theorem take_step {xs : List V} {p : V → Bool} {i : Nat} {v : V} (h : ∀ u ∈ xs.take i, p u = false) (hi : xs[i]? = some v) (hp : p v = false) : ∀ u ∈ xs.take (i + 1), p u = false := by
  intro u hu
  rw [List.take_add_one, hi] at hu
  rcases List.mem_append.mp hu with hu | hu
  · exact h u hu
  · simp only [Option.toList, List.mem_cons, List.not_mem_nil, or_false] at hu
    rw [hu]
    exact hp
theorem find_no {xs : List V} {p : V → Bool} (h : ∀ u ∈ xs.take xs.length, p u = false) : xs.find? p = none := by
  rw [List.take_length] at h
  exact List.find?_eq_none.mpr fun u hu => by rw [h u hu]; exact Bool.false_ne_true
def css (ev : Env P K mg) : Cs := ⟨ev.C_BadName, ev.C_BadNumber, ev.C_NoMark, ev.C_BadReading⟩
def spChkPlace (c : Cs) : Sp := fun vs H Q E => ∃ (v : V) (xs : List V), vs = [v] ∧ MkV H v xs ∧ (xs.find? badN = none → Q .non H) ∧ (∀ u, xs.find? badN = some u → Rz c E H (.num u))
theorem ok_check_place (ev : Env P K mg) : FnOk P w K mg base (L2.CX P w) 3 ev.f_check_place ev.d_check_place p_check_place (spChkPlace (css ev)) := by
  refine ev.A_check_place.F.okX sc_check_place (fun vs H Q E h => ?_) (fun cdv A outer s H vs Q E hr h => ?_)
  · obtain ⟨v, xs, rfl, _⟩ := h
    rfl
  obtain ⟨v, xs, rfl, hv, q1, q2⟩ := h
  refine ⟨_, (pss_one (ps_if (pt_cmpR op_notN (pv 0) pe_non (nomark _))
    (pss_one (ps_for (passes_of rfl) rfl (pi_tup (pv 0)) (pg_name (i := 1) sc_check_place.nd rfl (Or.inl rfl))
    (pss_one (ps_expr (pe_callS (ok_check_number ev) (hr.mono (by decide)) (by rfl) ev.A_check_number.m ev.A_check_number.F.kp ev.A_check_number.b (fun σ => passAt (takes_of rfl rfl rfl rfl) σ) (pa_cons (pv 1) (pa_cons (pe_un un_neg (pe_glob (v := .int 999) (by rfl) ev.c_MOST ⟨_, rfl⟩)) (pa_cons (pe_glob (v := .int 999) (by rfl) ev.c_MOST ⟨_, rfl⟩) pa_nil)))))))) pss_nil)), ?_⟩
  rcases hv with ⟨rfl, rfl⟩ | ⟨t, x, y, rfl, ht, rfl, hx, hy⟩
  · exact ⟨_, rfl, rfl, _, rfl, iteF (q1 rfl)⟩
  · refine ⟨_, rfl, rfl, _, rfl, iteT ?_⟩
    refine ⟨_, rfl, t, rfl, ⟨_, SqT.of ht⟩, for_tup (K := K) (a := t) (xs := [x, y]) (fun i σ H2 => H2 = H ∧ (∀ u ∈ [x, y].take i, badN u = false) ∧ ∃ y2, σ = [some (.ref t), y2]) ⟨rfl, (fun u hu => by simp at hu), none, rfl⟩ (fun i σ H2 _ h => by rw [h.1]; exact SqT.of ht) ?_ ?_⟩
    · rintro i v σ H2 hi ⟨rfl, hb, y2, rfl⟩
      have hn : numOk v := by
        have hm := List.mem_of_getElem? hi
        simp only [List.mem_cons, List.not_mem_nil, or_false] at hm
        rcases hm with rfl | rfl
        · exact hx
        · exact hy
      refine ⟨_, rfl, _, rfl, v, -999, 999, rfl, hn.num, fun g => ⟨rfl, take_step hb hi (by unfold badN; rw [g]; rfl), _, rfl⟩, fun g => ⟨hn.ok, fun d hd => ?_⟩⟩
      exact q2 v (find_at hb hi (by unfold badN; rw [g]; rfl)) _ d (Same.refl _) hd
    · rintro σ H2 ⟨rfl, hb, y2, rfl⟩
      exact q1 (find_no hb)


theorem nodup_map {α β : Type} {f : α → β} (hf : ∀ a b, f a = f b → a = b) : ∀ {l : List α}, l.Nodup → (l.map f).Nodup
  | [], _ => List.nodup_nil
  | x :: r, h => by
    rw [List.nodup_cons] at h
    rw [List.map_cons, List.nodup_cons]
    refine ⟨fun hm => ?_, nodup_map hf h.2⟩
    obtain ⟨y, hy, e⟩ := List.mem_map.mp hm
    rw [hf _ _ e] at hy
    exact h.1 hy
theorem mkv_nd {ks : List (Str × V)} (h : (ks.map (·.1)).Nodup) : ((mkv ks).map (·.1)).Nodup := by
  rw [mkv_keys]
  exact nodup_map (fun _ _ e => Sum.inr.inj e) h
theorem mkv_val {ks : List (Str × V)} (h : (ks.map (·.1)).Nodup) {p : Str × V} (hp : p ∈ ks) : valV (mkv ks) (Sum.inr p.1 : Key) = some p.2 :=
  val_nodup (mkv_nd h) (Sum.inr p.1, p.2) (List.mem_map.mpr ⟨p, hp, rfl⟩)
theorem rise_nd {rs : List (Int × V)} (h : (rs.map (·.1)).Pairwise (· < ·)) : (rs.map (·.1)).Nodup := by
  unfold List.Nodup
  exact h.imp fun {a b} hab => by omega
theorem rdv_nd {rs : List (Int × V)} (h : (rs.map (·.1)).Nodup) : ((rdv rs).map (·.1)).Nodup := by
  rw [rdv_keys]
  exact nodup_map (fun _ _ e => Sum.inl.inj e) h
theorem rdv_val {rs : List (Int × V)} (h : (rs.map (·.1)).Nodup) {p : Int × V} (hp : p ∈ rs) : valV (rdv rs) (Sum.inl p.1 : Key) = some p.2 :=
  val_nodup (rdv_nd h) (Sum.inl p.1, p.2) (List.mem_map.mpr ⟨p, hp, rfl⟩)
theorem mkv_none {ks : List (Str × V)} {z : Str} (h : z ∉ ks.map (·.1)) : valV (mkv ks) (Sum.inr z : Key) = none := by
  induction ks with
  | nil => rfl
  | cons p r ih =>
    rw [List.map_cons, List.mem_cons, not_or] at h
    show valV ((Sum.inr p.1, p.2) :: mkv r) _ = none
    rw [valV_neg (fun e => h.1 (Sum.inr.inj e).symm)]
    exact ih h.2
/-- a reading as it is handed in -/
def RdV (H : Hp) (v : V) (one tw : Str) (ac hi wt : V) : Prop := ∃ t : Addr, v = .ref t ∧ H t = some (.tup [.str one, .str tw, ac, hi, wt]) ∧ numOk ac ∧ numOk hi ∧ numOk wt ∧ okV (.str one) ∧ okV (.str tw)
theorem RdV.same {H H' : Hp} {v : V} {one tw : Str} {ac hi wt : V} (s : Same H H') (h : RdV H v one tw ac hi wt) : RdV H' v one tw ac hi wt := by
  obtain ⟨t, rfl, ht, r⟩ := h
  exact ⟨t, rfl, s _ _ ht, r⟩
def readE (zs : List Str) (n : Int) (one tw : Str) (ac hi wt : V) : Option Er :=
  if one ∉ zs then some (.mark one) else if tw ∉ zs then some (.mark tw) else if one = tw then some (.rd n) else
  if numB ac (-999) 999 = false then some (.num ac) else if numB hi (-999) 999 = false then some (.num hi) else if numB wt 1 9 = false then some (.num wt) else none
def spChkRead (c : Cs) : Sp := fun vs H Q E => ∃ (d : Addr) (ks : List (Str × V)) (n : Int) (v : V) (one tw : Str) (ac hi wt : V), vs = [.ref d, .int n, v] ∧ H d = some (.dK (mkv ks)) ∧ (ks.map (·.1)).Nodup ∧ n.natAbs < 2 ^ 60 ∧ RdV H v one tw ac hi wt ∧
  (readE (ks.map (·.1)) n one tw ac hi wt = none → ∀ H', Same H H' → Q .non H') ∧ (∀ e, readE (ks.map (·.1)) n one tw ac hi wt = some e → Rz c E H e)
theorem ok_check_reading (ev : Env P K mg) : FnOk P w K mg base (L2.CX P w) 3 ev.f_check_reading ev.d_check_reading p_check_reading (spChkRead (css ev)) := by
  refine ev.A_check_reading.F.okX sc_check_reading (fun vs H Q E h => ?_) (fun cdv A outer s H vs Q E hr h => ?_)
  · obtain ⟨d, ks, n, v, one, tw, ac, hi, wt, rfl, _⟩ := h
    rfl
  obtain ⟨d, ks, n, v, one, tw, ac, hi, wt, rfl, hd, nd, n60, ⟨t, rfl, ht, na, nh, nw, oo, ot⟩, q1, q2⟩ := h
  have hu := hu_of hr
  refine ⟨_, (pss_cons (ps_asg (pv 2) (pg_tup rfl (pgs_cons (pg_name (i := 3) sc_check_reading.nd rfl (Or.inl rfl)) (pgs_cons (pg_name (i := 4) sc_check_reading.nd rfl (Or.inl rfl)) (pgs_cons (pg_name (i := 5) sc_check_reading.nd rfl (Or.inl rfl)) (pgs_cons (pg_name (i := 6) sc_check_reading.nd rfl (Or.inl rfl)) (pgs_cons (pg_name (i := 7) sc_check_reading.nd rfl (Or.inl rfl)) pgs_nil)))))))
    (pss_cons (ps_for (passes_of rfl) rfl (pi_tup (pe_tup (pa_cons (pv 3) (pa_cons (pv 4) pa_nil)))) (pg_name (i := 8) sc_check_reading.nd rfl (Or.inl rfl))
    (pss_one (ps_if (pt_cmp (pc_dnotin hu (pv 8) (pv 0)))
    (pss_one (ps_raiseE rfl ev.X_NoMark hr (takes_of rfl rfl rfl rfl) (pa_cons (pv 8) pa_nil) (by exact rfl))) pss_nil)))
    (pss_cons (ps_if (pt_cmpR op_eq (pv 3) (pv 4) (nomark _))
    (pss_one (ps_raiseE rfl ev.X_BadReading hr (takes_of rfl rfl rfl rfl) (pa_cons (pv 1) pa_nil) (by exact rfl))) pss_nil)
    (pss_cons (ps_expr (pe_callS (ok_check_number ev) (hr.mono (by decide)) (by rfl) ev.A_check_number.m ev.A_check_number.F.kp ev.A_check_number.b (fun σ => passAt (takes_of rfl rfl rfl rfl) σ) (pa_cons (pv 5) (pa_cons (pe_un un_neg (pe_glob (v := .int 999) (by rfl) ev.c_MOST ⟨_, rfl⟩)) (pa_cons (pe_glob (v := .int 999) (by rfl) ev.c_MOST ⟨_, rfl⟩) pa_nil)))))
    (pss_cons (ps_expr (pe_callS (ok_check_number ev) (hr.mono (by decide)) (by rfl) ev.A_check_number.m ev.A_check_number.F.kp ev.A_check_number.b (fun σ => passAt (takes_of rfl rfl rfl rfl) σ) (pa_cons (pv 6) (pa_cons (pe_un un_neg (pe_glob (v := .int 999) (by rfl) ev.c_MOST ⟨_, rfl⟩)) (pa_cons (pe_glob (v := .int 999) (by rfl) ev.c_MOST ⟨_, rfl⟩) pa_nil)))))
    (pss_one (ps_expr (pe_callS (ok_check_number ev) (hr.mono (by decide)) (by rfl) ev.A_check_number.m ev.A_check_number.F.kp ev.A_check_number.b (fun σ => passAt (takes_of rfl rfl rfl rfl) σ) (pa_cons (pv 7) (pa_cons (pe_glob (v := .int 1) (by rfl) ev.c_LEAST_WEIGHT ⟨_, rfl⟩) (pa_cons (pe_glob (v := .int 9) (by rfl) ev.c_MOST_WEIGHT ⟨_, rfl⟩) pa_nil))))))))))), ?_⟩
  refine ⟨_, rfl, t, _, rfl, SqT.of ht, rfl, _, _, rfl, _, _, rfl, _, _, rfl, _, _, rfl, _, _, rfl, rfl, ?_⟩
  refine ⟨_, rfl, _, rfl, two, fun tp ntp => ?_⟩
  have s1 : Same H (upd H tp (.tup [.str one, .str tw])) := same_upd ntp
  refine ⟨tp, rfl, ⟨_, SqT.of upd_same⟩, for_tup (K := K) (a := tp) (xs := [.str one, .str tw]) (fun i σ H2 => H2 = upd H tp (.tup [.str one, .str tw]) ∧ (1 ≤ i → one ∈ ks.map (·.1)) ∧ (2 ≤ i → tw ∈ ks.map (·.1)) ∧ ∃ y8, σ = [some (.ref d), some (.int n), some (.ref t), some (.str one), some (.str tw), some ac, some hi, some wt, y8]) ⟨rfl, (fun w => by omega), (fun w => by omega), none, rfl⟩ (fun i σ H2 _ h => by rw [h.1]; exact SqT.of upd_same) ?_ ?_⟩
  · rintro i v σ H2 hi' ⟨rfl, b1, b2, y8, rfl⟩
    obtain ⟨z, ev', ok, in_, out_⟩ : ∃ z : Str, v = .str z ∧ okV (.str z) ∧ (z ∈ ks.map (·.1) → (1 ≤ i + 1 → one ∈ ks.map (·.1)) ∧ (2 ≤ i + 1 → tw ∈ ks.map (·.1))) ∧ (z ∉ ks.map (·.1) → readE (ks.map (·.1)) n one tw ac hi wt = some (.mark z)) := by
      rcases i with _ | _ | i
      · cases hi'
        exact ⟨one, rfl, oo, fun h => ⟨fun _ => h, fun w => by omega⟩, fun h => by unfold readE; rw [if_pos h]⟩
      · cases hi'
        exact ⟨tw, rfl, ot, fun h => ⟨fun _ => b1 (by omega), fun _ => h⟩, fun h => by unfold readE; rw [if_neg (fun w => w (b1 (by omega))), if_pos h]⟩
      · cases hi'
    subst ev'
    refine ⟨_, rfl, _, rfl, d, _, rfl, DGet.k (k := Sum.inr z) (s1 _ _ hd), _, rfl, ?_⟩
    by_cases hz : z ∈ ks.map (·.1)
    · have i1 := (in_ hz).1
      have i2 := (in_ hz).2
      obtain ⟨p, hp, rfl⟩ := List.mem_map.mp hz
      rw [mkv_val nd hp]
      exact iteF ⟨rfl, i1, i2, _, rfl⟩
    · rw [mkv_none hz]
      exact iteT ⟨_, rfl, _, rfl, ok, fun d' hd' => q2 (.mark z) (out_ hz) _ d' s1 hd'⟩
  · rintro σ H2 ⟨rfl, b1, b2, y8, rfl⟩
    have o1 := b1 (by show 1 ≤ 2; omega)
    have t1 := b2 (by show 2 ≤ 2; omega)
    have r1 : readE (ks.map (·.1)) n one tw ac hi wt = if one = tw then some (.rd n) else if numB ac (-999) 999 = false then some (.num ac) else if numB hi (-999) 999 = false then some (.num hi) else if numB wt 1 9 = false then some (.num wt) else none := by
      unfold readE
      rw [if_neg (fun w => w o1), if_neg (fun w => w t1)]
    refine nx_u ?_
    refine ⟨_, rfl, _, rfl, rfl, _, rfl, ite2 (fun w => ?_) (fun w => ?_)⟩
    · have e : one = tw := V.str.inj (of_decide_eq_true w)
      exact ⟨_, rfl, _, rfl, int_okV n60, fun d' hd' => q2 (.rd n) (by rw [r1, if_pos e]) _ d' s1 hd'⟩
    have ne : ¬ one = tw := fun z => w (decide_eq_true (congrArg V.str z))
    rw [if_neg ne] at r1
    refine next_u ?_
    refine seq_drop ⟨_, rfl, _, rfl, ac, -999, 999, rfl, na.num, fun ga => ?_, fun ga => ⟨na.ok, fun d' hd' => q2 (.num ac) (by rw [r1, if_pos ga]) _ d' s1 hd'⟩⟩
    rw [if_neg (by rw [ga]; exact Bool.noConfusion)] at r1
    refine seq_drop ⟨_, rfl, _, rfl, hi, -999, 999, rfl, nh.num, fun gh => ?_, fun gh => ⟨nh.ok, fun d' hd' => q2 (.num hi) (by rw [r1, if_pos gh]) _ d' s1 hd'⟩⟩
    rw [if_neg (by rw [gh]; exact Bool.noConfusion)] at r1
    refine ⟨_, rfl, wt, 1, 9, rfl, nw.num, fun gw => ?_, fun gw => ⟨nw.ok, fun d' hd' => q2 (.num wt) (by rw [r1, if_pos gw]) _ d' s1 hd'⟩⟩
    rw [if_neg (by rw [gw]; exact Bool.noConfusion)] at r1
    exact q1 r1 _ s1


/-! ### the survey itself -/
def sfl (a1 a2 : Addr) : List (Str × V) := putF "own_readings" (.ref a2) (putF "own_marks" (.ref a1) [])
theorem ne_mr : ¬ (("own_marks" : Str) = "own_readings") := by decide +kernel
theorem sfl_r (a1 a2 : Addr) : (sfl a1 a2).lookup ("own_readings" : Str) = some (.ref a2) := by
  unfold sfl
  rw [lookup_putF, if_pos rfl]
theorem sfl_m (a1 a2 : Addr) : (sfl a1 a2).lookup ("own_marks" : Str) = some (.ref a1) := by
  unfold sfl
  rw [lookup_putF, if_neg ne_mr, lookup_putF, if_pos rfl]
theorem sfl_no (a1 a2 : Addr) {x : Str} (h1 : ¬ x = "own_readings") (h2 : ¬ x = "own_marks") : (sfl a1 a2).lookup x = none := by
  unfold sfl
  rw [lookup_putF, if_neg h1, lookup_putF, if_neg h2]
  all_goals rfl
/-- a survey stands at p: its marks are those of ks by rising names, its readings just rs -/
structure SurvAt (C : Addr) (H : Hp) (p : Addr) (ks : List (Str × V)) (rs : List (Int × V)) : Prop where
  at_ : ∃ (dx a1 a2 : Addr) (ms : List (Str × V)), H p = some (.ins C dx (sfl a1 a2)) ∧ H a1 = some (.dK (mkv ms)) ∧ H a2 = some (.dK (rdv rs)) ∧ (ms.map (·.1)).Perm (ks.map (·.1)) ∧ PyProof.Rows.sortedS (ms.map (·.1)) = true ∧ ∀ q ∈ ms, q ∈ ks
theorem SurvAt.same {C : Addr} {H H' : Hp} {p : Addr} {ks : List (Str × V)} {rs : List (Int × V)} (s : Same H H') (h : SurvAt C H p ks rs) : SurvAt C H' p ks rs := by
  obtain ⟨dx, a1, a2, ms, h1, h2, h3, r⟩ := h
  exact ⟨dx, a1, a2, ms, s _ _ h1, s _ _ h2, s _ _ h3, r⟩
theorem fs_at {α β : Type} {f : α → Option β} {xs : List α} {i : Nat} {x : α} {y : β} (h : ∀ u ∈ xs.take i, f u = none) (hi : xs[i]? = some x) (hf : f x = some y) : xs.findSome? f = some y := by
  have e : xs = xs.take i ++ x :: xs.drop (i + 1) := by
    obtain ⟨l, rfl⟩ := List.getElem?_eq_some_iff.mp hi
    rw [← List.drop_eq_getElem_cons l, List.take_append_drop]
  rw [e, List.findSome?_append]
  have n : (xs.take i).findSome? f = none := List.findSome?_eq_none_iff.mpr h
  rw [n, List.findSome?_cons, hf]
  rfl
theorem fs_step {α β : Type} {f : α → Option β} {xs : List α} {i : Nat} {x : α} (h : ∀ u ∈ xs.take i, f u = none) (hi : xs[i]? = some x) (hf : f x = none) : ∀ u ∈ xs.take (i + 1), f u = none := by
  intro u hu
  rw [List.take_add_one, hi] at hu
  rcases List.mem_append.mp hu with hu | hu
  · exact h u hu
  · simp only [Option.toList, List.mem_cons, List.not_mem_nil, or_false] at hu
    rw [hu]
    exact hf
structure NdK (ks : List (Str × V)) : Prop where
  nd : (ks.map (·.1)).Nodup
structure UpK (rs : List (Int × V)) : Prop where
  up : (rs.map (·.1)).Pairwise (· < ·)
/-- a reading's parts -/
structure RdP where
  one : Str
  tw : Str
  ac : V
  hi : V
  wt : V
/-- what is refused first: the marks by rising names, then the readings by rising numbers -/
def survE (nx : Str → List V) (rd : Int → RdP) (zs ys : List Str) (ns : List Int) : Option Er := match ys.findSome? fun z => markE z (nx z) with
  | some e => some e
  | none => ns.findSome? fun n => readE zs n (rd n).one (rd n).tw (rd n).ac (rd n).hi (rd n).wt
/-- the marks and the readings as they are handed in -/
structure Given (H : Hp) (ks : List (Str × V)) (rs : List (Int × V)) (nx : Str → List V) (rd : Int → RdP) : Prop where
  nd : (ks.map (·.1)).Nodup
  len : ∀ z ∈ ks.map (·.1), z.cps.toList.length ≤ 900 ∧ okV (.str z)
  mkk : ∀ p ∈ ks, MkV H p.2 (nx p.1)
  up : (rs.map (·.1)).Pairwise (· < ·)
  num : ∀ n ∈ rs.map (·.1), n.natAbs < 2 ^ 60
  rdv : ∀ p ∈ rs, RdV H p.2 (rd p.1).one (rd p.1).tw (rd p.1).ac (rd p.1).hi (rd p.1).wt
  k60 : ks.length ≤ 60
  r60 : rs.length ≤ 60
def spInit (C : Addr) (c : Cs) : Sp := fun vs H Q E => ∃ (p dx d1 d2 : Addr) (ks : List (Str × V)) (rs : List (Int × V)) (nx : Str → List V) (rd : Int → RdP), vs = [.ref p, .ref d1, .ref d2] ∧ H p = some (.ins C dx []) ∧ H d1 = some (.dK (mkv ks)) ∧ H d2 = some (.dK (rdv rs)) ∧ Given H ks rs nx rd ∧
  (∀ ys, ys.Perm (ks.map (·.1)) → PyProof.Rows.sortedS ys = true → survE nx rd (ks.map (·.1)) ys (rs.map (·.1)) = none → ∀ H', (∀ q o, H q = some o → q ≠ p → H' q = some o) → Q .non H') ∧
  (∀ ys e, ys.Perm (ks.map (·.1)) → PyProof.Rows.sortedS ys = true → survE nx rd (ks.map (·.1)) ys (rs.map (·.1)) = some e → Rz c E H e)
theorem ok_Survey___init__ (ev : Env P K mg) : FnOk P w K mg base (L2.CX P w) 4 ev.f_Survey___init__ ev.d_Survey___init__ p_Survey___init__ (spInit ev.C_Survey (css ev)) := by
  refine ev.A_Survey___init__.F.okX sc_Survey___init__ (fun vs H Q E h => ?_) (fun cdv A outer s H vs Q E hr h => ?_)
  · obtain ⟨p, dx, d1, d2, ks, rs, nx, rd, rfl, _⟩ := h
    rfl
  obtain ⟨p, dx, d1, d2, ks, rs, nx, rd, rfl, hp, h1, h2, hG, q1, q2⟩ := h
  have hu := hu_of hr
  refine ⟨_, (pss_cons (ps_for (passes_of rfl) rfl (pi_list (pe_callB (call_srtK rfl) (by rfl) ev.B.sorted_ (by decide +kernel) (pa_cons (pv 1) pa_nil))) (pg_name (i := 3) sc_Survey___init__.nd rfl (Or.inl rfl))
    (pss_cons (ps_expr (pe_callS (ok_check_name ev) (hr.mono (by decide)) (by rfl) ev.A_check_name.m ev.A_check_name.F.kp ev.A_check_name.b (fun σ => passAt (takes_of rfl rfl rfl rfl) σ) (pa_cons (pv 3) pa_nil)))
    (pss_one (ps_expr (pe_callS (ok_check_place ev) (hr.mono (by decide)) (by rfl) ev.A_check_place.m ev.A_check_place.F.kp ev.A_check_place.b (fun σ => passAt (takes_of rfl rfl rfl rfl) σ) (pa_cons (pe_dget hu (pv 1) (pv 3) (fun _ _ => rfl)) pa_nil))))))
    (pss_cons (ps_for (passes_of rfl) rfl (pi_list (pe_callB (call_srtK rfl) (by rfl) ev.B.sorted_ (by decide +kernel) (pa_cons (pv 2) pa_nil))) (pg_name (i := 4) sc_Survey___init__.nd rfl (Or.inl rfl))
    (pss_one (ps_expr (pe_callS (ok_check_reading ev) (hr.mono (by decide)) (by rfl) ev.A_check_reading.m ev.A_check_reading.F.kp ev.A_check_reading.b (fun σ => passAt (takes_of rfl rfl rfl rfl) σ) (pa_cons (pv 1) (pa_cons (pv 4) (pa_cons (pe_dget hu (pv 2) (pv 4) (fun _ _ => rfl)) pa_nil)))))))
    (pss_cons (ps_fld (pv 0) (pe_dc (own := [("name", 3)]) (g := gName 3) (tt := tYes) (by rfl) sc_Survey___init__.nd (pi_list (pe_callB (call_srtK rfl) (by rfl) ev.B.sorted_ (by decide +kernel) (pa_cons (pv 1) pa_nil))) (blkOk_by (own := [("name", 3)]) (N := n_Survey___init__) (sc := defScope s_Survey___init__) (by decide +kernel)) (fun _ _ _ _ _ => pg_name (i := 3) sc_Survey___init__.nd rfl (Or.inl rfl)) (fun _ _ _ _ _ => pts_nil) (fun _ _ _ _ _ => (pv 3)) (fun _ _ _ _ _ => (pe_dget hu (pv 1) (pv 3) (fun _ _ => rfl)))) rfl)
    (pss_one (ps_fld (pv 0) (pe_dc (own := [("number", 4)]) (g := gName 4) (tt := tYes) (by rfl) sc_Survey___init__.nd (pi_list (pe_callB (call_srtK rfl) (by rfl) ev.B.sorted_ (by decide +kernel) (pa_cons (pv 2) pa_nil))) (blkOk_by (own := [("number", 4)]) (N := n_Survey___init__) (sc := defScope s_Survey___init__) (by decide +kernel)) (fun _ _ _ _ _ => pg_name (i := 4) sc_Survey___init__.nd rfl (Or.inl rfl)) (fun _ _ _ _ _ => pts_nil) (fun _ _ _ _ _ => (pv 4)) (fun _ _ _ _ _ => (pe_dget hu (pv 2) (pv 4) (fun _ _ => rfl)))) rfl))))), ?_⟩
  have k60 := hG.k60
  have r60 := hG.r60
  have hM : NdK ks := ⟨hG.nd⟩
  have hR : UpK rs := ⟨hG.up⟩
  have kn : (ks.map (·.1)).length < 64 := by rw [List.length_map]; omega
  have rn : (rs.map (·.1)).length < 64 := by rw [List.length_map]; omega
  have rnd := rise_nd hR.up
  -- the marks are looked at
  refine ⟨_, rfl, .inl ⟨d1, _, ks.map (·.1), rfl, .inl h1, mkv_keys ks, kn, fun ys l pm sr nl => ?_⟩⟩
  have s0 : Same H (upd H l (.lst (ys.map V.str))) := same_upd nl
  have vals : ∀ y ∈ ys, ∃ v, (y, v) ∈ ks := fun y hy => by
    obtain ⟨⟨a, v⟩, hv, e⟩ := List.mem_map.mp (pm.mem_iff.mp hy)
    cases e
    exact ⟨v, hv⟩
  refine ⟨l, rfl, ⟨_, SqL.of upd_same⟩, for_list (K := K) (a := l) (xs := ys.map V.str) (fun i σ H2 => Same H H2 ∧ H2 l = some (.lst (ys.map V.str)) ∧ (∀ u ∈ ys.take i, markE u (nx u) = none) ∧ ∃ y3 y4, σ = [some (.ref p), some (.ref d1), some (.ref d2), y3, y4]) ⟨s0, upd_same, (fun u hu => by simp at hu), none, none, rfl⟩ (fun i σ H2 _ h => SqL.of h.2.1) ?_ ?_⟩
  · rintro i x σ H2 hi ⟨s2, hl2, hb, y3, y4, rfl⟩
    rw [List.getElem?_map] at hi
    obtain ⟨y, hy, rfl⟩ : ∃ y, ys[i]? = some y ∧ x = V.str y := by
      cases e : ys[i]? with
      | none => rw [e] at hi; cases hi
      | some y => rw [e] at hi; exact ⟨y, rfl, (Option.some.inj hi).symm⟩
    obtain ⟨v, hv⟩ := vals y (List.mem_of_getElem? hy)
    have hl := hG.len y (List.mem_map.mpr ⟨_, hv, rfl⟩)
    refine seq_drop ⟨_, rfl, y, rfl, hl.1, fun lz H3 s3 => ?_, fun lz => ⟨hl.2, fun H3 d s3 hd => q2 ys (.name y) pm sr ?_ H3 d (s2.trans s3) hd⟩⟩
    rotate_left
    · unfold survE
      rw [fs_at (f := fun z => markE z (nx z)) hb hy (y := .name y) (by show markE y (nx y) = _; unfold markE; rw [if_neg (by rw [lz]; exact Bool.false_ne_true)])]
    have mE : markE y (nx y) = ((nx y).find? badN).map .num := by unfold markE; rw [if_pos lz]
    refine ⟨_, rfl, _, rfl, d1, v, rfl, ?_, v, nx y, rfl, (hG.mkk _ hv).same (s2.trans s3), fun me => ⟨s2.trans s3, s3 _ _ hl2, fs_step hb hy (by show markE y (nx y) = none; rw [mE, me]; rfl), _, _, rfl⟩, fun u me => (q2 ys (.num u) pm sr ?_).same (s2.trans s3)⟩
    · rw [← mkv_val hM.nd hv]
      exact DGet.k (k := Sum.inr y) (s3 _ _ (s2 _ _ h1))
    · unfold survE
      rw [fs_at (f := fun z => markE z (nx z)) hb hy (y := .num u) (by show markE y (nx y) = _; rw [mE, me]; rfl)]
  rintro σ H2 ⟨s2, _, hb, y3, y4, rfl⟩
  rw [List.length_map, List.take_length] at hb
  have me0 : (ys.findSome? fun z => markE z (nx z)) = none := List.findSome?_eq_none_iff.mpr hb
  refine nx_u ?_
  -- the readings are looked at
  refine ⟨_, rfl, .inr ⟨d2, _, rs.map (·.1), rfl, .inl (s2 _ _ h2), rdv_keys rs, rn, fun zs l2 pm2 sr2 nl2 => ?_⟩⟩
  obtain rfl : zs = rs.map (·.1) := srtI_same pm2 sr2 (hR.up.imp fun {a b} h => by omega)
  refine ⟨l2, rfl, ⟨_, SqL.of upd_same⟩, for_list (K := K) (a := l2) (xs := (rs.map (·.1)).map V.int) (fun i σ H3 => Same H H3 ∧ H3 l2 = some (.lst ((rs.map (·.1)).map V.int)) ∧ (∀ n ∈ (rs.map (·.1)).take i, readE (ks.map (·.1)) n (rd n).one (rd n).tw (rd n).ac (rd n).hi (rd n).wt = none) ∧ ∃ y3 y4, σ = [some (.ref p), some (.ref d1), some (.ref d2), y3, y4]) ⟨s2.trans (same_upd nl2), upd_same, (fun u hu => by simp at hu), y3, y4, rfl⟩ (fun i σ H3 _ h => SqL.of h.2.1) ?_ ?_⟩
  · rintro i x σ H3 hi ⟨s3, hl3, hc, y3, y4, rfl⟩
    rw [List.getElem?_map] at hi
    obtain ⟨n, hn, rfl⟩ : ∃ n, (rs.map (·.1))[i]? = some n ∧ x = V.int n := by
      cases e : (rs.map (·.1))[i]? with
      | none => rw [e] at hi; cases hi
      | some n => rw [e] at hi; exact ⟨n, rfl, (Option.some.inj hi).symm⟩
    obtain ⟨⟨n, v⟩, hv, rfl⟩ := List.mem_map.mp (List.mem_of_getElem? hn)
    refine ⟨_, rfl, _, rfl, _, rfl, _, rfl, d2, v, rfl, ?_, d1, ks, n, v, (rd n).one, (rd n).tw, (rd n).ac, (rd n).hi, (rd n).wt, rfl, s3 _ _ h1, hM.nd, hG.num _ (List.mem_map.mpr ⟨_, hv, rfl⟩), (hG.rdv _ hv).same s3, fun me H4 s4 => ⟨s3.trans s4, s4 _ _ hl3, fs_step (f := fun n => readE (ks.map (·.1)) n (rd n).one (rd n).tw (rd n).ac (rd n).hi (rd n).wt) hc hn me, _, _, rfl⟩, fun e me => (q2 ys e pm sr ?_).same s3⟩
    · rw [← rdv_val rnd hv]
      exact DGet.k (k := Sum.inl n) (s3 _ _ h2)
    · unfold survE
      rw [me0]
      exact fs_at (f := fun n => readE (ks.map (·.1)) n (rd n).one (rd n).tw (rd n).ac (rd n).hi (rd n).wt) hc hn me
  rintro σ H3 ⟨s3, _, hc, y3, y4, rfl⟩
  rw [List.length_map, List.take_length] at hc
  have q : ∀ H', SurvAt ev.C_Survey H' p ks rs → (∀ q o, H q = some o → q ≠ p → H' q = some o) → Q .non H' := fun H' _ f => q1 ys pm sr (by
    unfold survE
    rw [me0]
    exact List.findSome?_eq_none_iff.mpr hc) H' f
  refine nx_u ?_
  -- own_marks
  refine ⟨_, rfl, .inl ⟨d1, _, ks.map (·.1), rfl, .inl (s3 _ _ h1), mkv_keys ks, kn, fun zs l3 pm3 sr3 nl3 => ?_⟩⟩
  obtain rfl : zs = ys := srt_same (pm3.trans pm.symm) sr3 sr
  have s4 : Same H (upd H3 l3 (.lst (zs.map V.str))) := s3.trans (same_upd nl3)
  have hl4 : (upd H3 l3 (.lst (zs.map V.str))) l3 = some (.lst (zs.map V.str)) := upd_same
  generalize upd H3 l3 (.lst (zs.map V.str)) = H4 at s4 hl4
  refine ⟨l3, rfl, ⟨_, SqL.of hl4⟩, fun D hD => ?_⟩
  refine dc_list (K := K) (a := l3) (xs := zs.map V.str) (fun i H5 => Same H4 H5 ∧ ∃ ms : List (Str × V), H5 D = some (.dK (mkv ms)) ∧ ms.map (·.1) = zs.take i ∧ ∀ q ∈ ms, q ∈ ks) ⟨same_upd hD, [], upd_same, rfl, (fun _ h => nomatch h)⟩ (fun i H5 _ h => SqL.of (h.1 _ _ hl4)) ?_ ?_
  · rintro i x H5 hi ⟨s5, ms, hD5, hms, hin⟩
    rw [List.getElem?_map] at hi
    obtain ⟨y, hy, rfl⟩ : ∃ y, zs[i]? = some y ∧ x = V.str y := by
      cases e : zs[i]? with
      | none => rw [e] at hi; cases hi
      | some y => rw [e] at hi; exact ⟨y, rfl, (Option.some.inj hi).symm⟩
    obtain ⟨v, hv⟩ := vals y (List.mem_of_getElem? hy)
    have zi : i < zs.length := (List.getElem?_eq_some_iff.mp hy).1
    have znd : zs.Nodup := pm.nodup_iff.mpr hM.nd
    have yn : y ∉ ms.map (·.1) := by
      rw [hms]
      intro hm
      obtain ⟨j, hj, ej⟩ := List.mem_iff_getElem.mp hm
      rw [List.length_take] at hj
      rw [List.getElem_take] at ej
      have e2 : zs[j]? = zs[i]? := by
        rw [hy, List.getElem?_eq_getElem (by omega), ej]
      have := (List.getElem?_inj (by omega) znd).mp e2
      omega
    have dg : DGet H5 d1 (.str y) (some v) := by
      rw [← mkv_val hM.nd hv]
      exact DGet.k (k := Sum.inr y) (s5 _ _ (s4 _ _ h1))
    refine ⟨rfl, yes_ ⟨_, rfl, _, rfl, _, rfl, d1, v, rfl, dg, _, Sum.inr y, rfl, hD5, ?_, fun a o e => ?_, ms ++ [(y, v)], ?_, ?_, ?_⟩⟩
    · have := congrArg List.length hms
      rw [List.length_map, List.length_take] at this
      have := pm.length_eq
      unfold mkv
      rw [List.length_map]
      exact small1000 (by omega)
    · rw [upd_ne (ne_of_none e hD)]
      exact s5 _ _ e
    · rw [upd_same, putK_new _ (valV_none (mkv_no yn)), mkv_app]
    · rw [List.map_append, hms, List.take_add_one, hy]
      rfl
    · intro a ha
      rcases List.mem_append.mp ha with z | z
      · exact hin a z
      · rw [List.mem_singleton.mp z]
        exact hv
  rintro H5 ⟨s5, ms, hD5, hms, hin⟩
  rw [List.length_map, List.take_length] at hms
  have nDp : D ≠ p := (ne_of_none (s4 _ _ hp) hD).symm
  refine ⟨_, rfl, p, ev.C_Survey, dx, [], rfl, s5 _ _ (s4 _ _ hp), ev.cl_Survey, ev.n1_Survey, (by show 0 < 1000; decide), ?_⟩
  have f6 : ∀ a o, H a = some o → a ≠ p → (upd H5 p (.ins ev.C_Survey dx (putF "own_marks" (.ref D) []))) a = some o := fun a o e n => by
    rw [upd_ne n]
    exact s5 _ _ (s4 _ _ e)
  have nd1 : d1 ≠ p := fun z => by rw [z, hp] at h1; cases h1
  have nd2 : d2 ≠ p := fun z => by rw [z, hp] at h2; cases h2
  have hD6 : (upd H5 p (.ins ev.C_Survey dx (putF "own_marks" (.ref D) []))) D = some (.dK (mkv ms)) := by rw [upd_ne nDp]; exact hD5
  have hp6 : (upd H5 p (.ins ev.C_Survey dx (putF "own_marks" (.ref D) []))) p = some (.ins ev.C_Survey dx (putF "own_marks" (.ref D) [])) := upd_same
  generalize upd H5 p (.ins ev.C_Survey dx (putF "own_marks" (.ref D) [])) = H6 at f6 hD6 hp6
  -- own_readings
  refine ⟨_, rfl, .inr ⟨d2, _, rs.map (·.1), rfl, .inl (f6 _ _ h2 nd2), rdv_keys rs, rn, fun ws l4 pm4 sr4 nl4 => ?_⟩⟩
  obtain rfl : ws = rs.map (·.1) := srtI_same pm4 sr4 (hR.up.imp fun {a b} h => by omega)
  have s7 : Same H6 (upd H6 l4 (.lst ((rs.map (·.1)).map V.int))) := same_upd nl4
  have hl7 : (upd H6 l4 (.lst ((rs.map (·.1)).map V.int))) l4 = some (.lst ((rs.map (·.1)).map V.int)) := upd_same
  generalize upd H6 l4 (.lst ((rs.map (·.1)).map V.int)) = H7 at s7 hl7
  refine ⟨l4, rfl, ⟨_, SqL.of hl7⟩, fun D2 hD2 => ?_⟩
  refine dc_list (K := K) (a := l4) (xs := (rs.map (·.1)).map V.int) (fun i H8 => Same H7 H8 ∧ H8 D2 = some (.dK (rdv (rs.take i)))) ⟨same_upd hD2, upd_same⟩ (fun i H8 _ h => SqL.of (h.1 _ _ hl7)) ?_ ?_
  · rintro i x H8 hi ⟨s8, hD8⟩
    rw [List.getElem?_map, List.getElem?_map] at hi
    obtain ⟨⟨n, v⟩, hy, rfl⟩ : ∃ y, rs[i]? = some y ∧ x = V.int y.1 := by
      cases e : rs[i]? with
      | none => rw [e] at hi; cases hi
      | some y => rw [e] at hi; exact ⟨y, rfl, (Option.some.inj hi).symm⟩
    have zi : i < rs.length := (List.getElem?_eq_some_iff.mp hy).1
    have hv := List.mem_of_getElem? hy
    have tk : rs.take (i + 1) = rs.take i ++ [(n, v)] := by rw [List.take_add_one, hy]; rfl
    have yn : n ∉ (rs.take i).map (·.1) := by
      have nd2 := rnd
      rw [← List.take_append_drop (i + 1) rs, tk, List.append_assoc, List.map_append, List.nodup_append] at nd2
      intro hm
      exact nd2.2.2 n hm n (by simp) rfl
    have dg : DGet H8 d2 (.int n) (some v) := by
      rw [← rdv_val rnd hv]
      exact DGet.k (k := Sum.inl n) (s8 _ _ (s7 _ _ (f6 _ _ h2 nd2)))
    refine ⟨rfl, yes_ ⟨_, rfl, _, rfl, _, rfl, d2, v, rfl, dg, _, Sum.inl n, rfl, hD8, ?_, fun a o e => ?_, ?_⟩⟩
    · unfold rdv
      rw [List.length_map, List.length_take]
      exact small1000 (by omega)
    · rw [upd_ne (ne_of_none e hD2)]
      exact s8 _ _ e
    · rw [upd_same, putK_new _ (valV_none (rdv_no yn)), rdv_app, tk]
  rintro H8 ⟨s8, hD8⟩
  rw [List.length_map, List.length_map, List.take_length] at hD8
  have nD2p : D2 ≠ p := (ne_of_none (s7 _ _ hp6) hD2).symm
  refine ⟨_, rfl, p, ev.C_Survey, dx, _, rfl, s8 _ _ (s7 _ _ hp6), ev.cl_Survey, ev.n2_Survey, (by show 1 < 1000; decide), ?_⟩
  refine q _ ⟨dx, D, D2, ms, upd_same, by rw [upd_ne nDp]; exact s8 _ _ (s7 _ _ hD6), by rw [upd_ne nD2p]; exact hD8, by rw [hms]; exact pm, by rw [hms]; exact sr, hin⟩ fun a o e n => ?_
  rw [upd_ne n]
  exact s8 _ _ (s7 _ _ (f6 _ _ e n))


def spOdd : Sp := fun vs H Q _ => ∃ (b c : Addr), vs = [.ref b] ∧ Bag H b c ∧ ∀ (z : Str) (H' : Hp), z.cps.toList.length ≤ 900 → okV (.str z) → Bag H' b c → Kept b c H H' → Q (.str z) H'
theorem ok_law_odd_name (ev : Env P K mg) : FnOk P w K mg base CX0 3 ev.f_law_odd_name ev.d_law_odd_name p_law_odd_name spOdd := by
  refine ev.A_law_odd_name.F.ok sc_law_odd_name (fun vs H Q E h => ?_) (fun cdv A outer s H vs Q E hr h => ?_)
  · obtain ⟨b, c, rfl, _⟩ := h
    rfl
  obtain ⟨b, c, rfl, hB, q⟩ := h
  refine ⟨_, (pss_one (ps_ret (pe_call (ok_law_any ev) (hr.mono (by decide)) (by rfl) ev.A_law_any.m ev.A_law_any.F.kp ev.A_law_any.b .nil pass0 (pa_cons (pv 0) (pa_cons (pe_lst (pa_cons pe_str (pa_cons pe_str (pa_cons pe_str (pa_cons pe_str (pa_cons pe_str (pa_cons pe_str (pa_cons pe_str (pa_cons pe_str pa_nil))))))))) pa_nil))))), ?_⟩
  refine ⟨_, rfl, (by show 8 ≤ sizeLine; decide), fun l nl => ?_⟩
  obtain ⟨lb, lc⟩ := hB.off nl
  refine ⟨b, c, l, _, rfl, hB.upd nl, lb, lc, upd_same, (fun z => nomatch z), (by show 8 ≤ 1000; decide), fun v H2 hv hB2 ex2 => ?_⟩
  obtain ⟨z, rfl, hz, oz⟩ : ∃ z : Str, v = .str z ∧ z.cps.toList.length ≤ 900 ∧ (PySem.reprText z).length ≤ 1000000 := by
    simp only [List.mem_cons, List.not_mem_nil, or_false] at hv
    rcases hv with rfl | rfl | rfl | rfl | rfl | rfl | rfl | rfl <;> exact ⟨_, rfl, by decide +kernel, by decide +kernel⟩
  exact q z H2 hz (.inl ⟨z, rfl, oz⟩) hB2 ((kept_same (same_upd nl)).trans ex2.kept)
def spBad : Sp := fun vs H Q _ => ∃ (b c : Addr), vs = [.ref b] ∧ Bag H b c ∧ ∀ (v : V) (H' : Hp), numOk v → Bag H' b c → Kept b c H H' → Q v H'
theorem ok_law_bad_number (ev : Env P K mg) : FnOk P w K mg base CX0 3 ev.f_law_bad_number ev.d_law_bad_number p_law_bad_number spBad := by
  refine ev.A_law_bad_number.F.ok sc_law_bad_number (fun vs H Q E h => ?_) (fun cdv A outer s H vs Q E hr h => ?_)
  · obtain ⟨b, c, rfl, _⟩ := h
    rfl
  obtain ⟨b, c, rfl, hB, q⟩ := h
  refine ⟨_, (pss_cons (ps_set (i := 1) sc_law_bad_number.nd rfl (Or.inl rfl) (pe_op op_add pe_int (pe_call (ok_law_draw ev) (hr.mono (by decide)) (by rfl) ev.A_law_draw.m ev.A_law_draw.F.kp ev.A_law_draw.b .nil pass0 (pa_cons (pv 0) (pa_cons (pe_op op_pow pe_int pe_int) pa_nil)))))
    (pss_one (ps_ret (pe_call (ok_law_any ev) (hr.mono (by decide)) (by rfl) ev.A_law_any.m ev.A_law_any.F.kp ev.A_law_any.b .nil pass0 (pa_cons (pv 0) (pa_cons (pe_lst (pa_cons pe_int (pa_cons (pe_op op_sub pe_int pe_int) (pa_cons (pv 1) (pa_cons (pe_op op_sub pe_int (pv 1)) (pa_cons pe_bl pa_nil)))))) pa_nil)))))), ?_⟩
  refine seq_asg ⟨_, rfl, _, _, rfl, rfl, ⟨by decide, by decide, by decide⟩, b, c, _, rfl, hB, by decide, by decide, fun r H1 r0 r1 hB1 ex1 => ⟨_, _, rfl, rfl, ?_⟩⟩
  have e9 : (10 : Int) ^ (9 : Int).toNat = 1000000000 := by decide
  rw [e9] at r1
  refine ⟨_, rfl, _, _, rfl, rfl, _, rfl, _, rfl, _, _, rfl, rfl, (by show 5 ≤ sizeLine; decide), fun l nl => ?_⟩
  obtain ⟨lb, lc⟩ := hB1.off nl
  refine ⟨b, c, l, _, rfl, hB1.upd nl, lb, lc, upd_same, (fun z => nomatch z), (by show 5 ≤ 1000; decide), fun v H2 hv hB2 ex2 => q v H2 ?_ hB2 (ex1.kept.trans ((kept_same (same_upd nl)).trans ex2.kept))⟩
  simp only [List.mem_cons, List.not_mem_nil, or_false] at hv
  rcases hv with rfl | rfl | rfl | rfl | rfl
  · exact .inl ⟨_, rfl, by decide⟩
  · exact .inl ⟨_, rfl, by decide⟩
  · exact .inl ⟨_, rfl, by omega⟩
  · exact .inl ⟨_, rfl, by omega⟩
  · exact .inr ⟨_, rfl⟩
def isIntV : V → Bool
  | .int _ => true
  | _ => false
def spWholeB : Sp := fun vs H Q _ => ∃ v : V, vs = [v] ∧ isNum v ∧ Q (.bl (isIntV v)) H
theorem ok_wholeB (ev : Env P K mg) : FnOk P w K mg base CX0 1 ev.f_law_whole ev.d_law_whole p_law_whole spWholeB := by
  refine ev.A_law_whole.F.ok sc_law_whole (fun vs H Q E h => ?_) (fun cdv A outer s H vs Q E hr h => ?_)
  · obtain ⟨v, rfl, _⟩ := h
    rfl
  obtain ⟨v, rfl, hv, q⟩ := h
  refine ⟨_, (pss_one (ps_ret (pe_and (pe_callB call_isi (by rfl) ev.B.isinstance_ (by decide +kernel) (pa_cons (pv 0) (pa_cons (pe_bltn (v := .ty "int") (by rfl) ev.B.int_ (by decide +kernel) rfl) pa_nil))) (pe_one (pe_not (pe_callB call_isi (by rfl) ev.B.isinstance_ (by decide +kernel) (pa_cons (pv 0) (pa_cons (pe_bltn (v := .ty "bool") (by rfl) ev.B.bool_ (by decide +kernel) rfl) pa_nil)))))))), ?_⟩
  rcases hv with ⟨i, rfl⟩ | ⟨t, rfl⟩
  · refine ⟨_, rfl, _, _, _, _, true, rfl, .ty _, .base (.int i), kit_ty (by decide +kernel), true, rfl, ?_⟩
    refine iteT ?_
    exact ⟨_, rfl, _, _, _, _, false, rfl, .ty _, .base (.int i), kit_ty (by decide +kernel), false, rfl, q⟩
  · refine ⟨_, rfl, _, _, _, _, true, rfl, .ty _, .base (.bl t), kit_ty (by decide +kernel), true, rfl, ?_⟩
    refine iteT ?_
    exact ⟨_, rfl, _, _, _, _, true, rfl, .ty _, .base (.bl t), kit_ty (by decide +kernel), true, rfl, q⟩
def spGood : Sp := fun vs H Q _ => ∃ (v : V) (mo : Int), vs = [v, .int mo] ∧ isNum v ∧ Q (.bl (numB v (0 - mo) mo)) H
theorem ok_law_good (ev : Env P K mg) : FnOk P w K mg base CX0 2 ev.f_law_good ev.d_law_good p_law_good spGood := by
  refine ev.A_law_good.F.ok sc_law_good (fun vs H Q E h => ?_) (fun cdv A outer s H vs Q E hr h => ?_)
  · obtain ⟨v, mo, rfl, _⟩ := h
    rfl
  obtain ⟨v, mo, rfl, hv, q⟩ := h
  refine ⟨_, (pss_one (ps_ret (pe_and (pe_call (ok_wholeB ev) (hr.mono (by decide)) (by rfl) ev.A_law_whole.m ev.A_law_whole.F.kp ev.A_law_whole.b .nil pass0 (pa_cons (pv 0) pa_nil)) (pe_one (pe_chain op_le op_le (pe_op op_sub pe_int (pv 1)) (pv 0) (pv 1)))))), ?_⟩
  refine ⟨_, rfl, v, rfl, hv, _, rfl, ?_⟩
  rcases hv with ⟨i, rfl⟩ | ⟨t, rfl⟩
  · refine iteT ⟨_, rfl, _, _, rfl, rfl, _, rfl, _, _, rfl, rfl, _, rfl, ite2 (fun c => ?_) (fun c => ?_)⟩
    · refine ⟨_, rfl, _, _, rfl, rfl, ?_⟩
      have e : numB (.int i) (0 - mo) mo = decide (i ≤ mo) := by
        show (decide (0 - mo ≤ i) && decide (i ≤ mo)) = _
        rw [c, Bool.true_and]
      rw [e] at q
      exact q
    · have e : numB (.int i) (0 - mo) mo = false := by
        show (decide (0 - mo ≤ i) && decide (i ≤ mo)) = _
        rw [Bool.eq_false_iff.mpr c, Bool.false_and]
      rw [e] at q
      exact q
  · exact iteF q


def eT : Er → Str
  | .name _ => "name"
  | .num _ => "number"
  | .mark _ => "nomark"
  | .rd _ => "reading"
/-- None, or a new tuple of the word and the thing -/
def Told (H : Hp) (o : Option Er) (Q : VK) : Prop := (o = none → ∀ H', Same H H' → Q .non H') ∧ ∀ e, o = some e → ∀ a H', Same H H' → H' a = some (.tup [.str (eT e), eV e]) → Q (.ref a) H'
def spWrong : Sp := fun vs H Q _ => ∃ (d : Addr) (ks : List (Str × V)) (n : Int) (v : V) (one tw : Str) (ac hi wt : V), vs = [.ref d, .int n, v] ∧ H d = some (.dK (mkv ks)) ∧ (ks.map (·.1)).Nodup ∧ RdV H v one tw ac hi wt ∧ Told H (readE (ks.map (·.1)) n one tw ac hi wt) Q
theorem ok_law_wrong_reading (ev : Env P K mg) : FnOk P w K mg base CX0 3 ev.f_law_wrong_reading ev.d_law_wrong_reading p_law_wrong_reading spWrong := by
  refine ev.A_law_wrong_reading.F.ok sc_law_wrong_reading (fun vs H Q E h => ?_) (fun cdv A outer s H vs Q E hr h => ?_)
  · obtain ⟨d, ks, n, v, one, tw, ac, hi, wt, rfl, _⟩ := h
    rfl
  obtain ⟨d, ks, n, v, one, tw, ac, hi, wt, rfl, hd, nd, ⟨t, rfl, ht, na, nh, nw, oo, ot⟩, q1, q2⟩ := h
  have hu := hu_of hr
  refine ⟨_, (pss_cons (ps_for PassesOwn.never rfl (pi_tup (pe_slice sl_tup (pv 2) po_none (po_some pe_int))) (pg_name (i := 3) sc_law_wrong_reading.nd rfl (Or.inl rfl))
    (pss_one (ps_if (pt_cmp (pc_dnotin hu (pv 3) (pv 0)))
    (pss_one (ps_ret (pe_tup (pa_cons pe_str (pa_cons (pv 3) pa_nil))))) pss_nil)))
    (pss_cons (ps_if (pt_cmpR op_eq (pe_ix ix_tup (pv 2) pe_int (fun _ _ => rfl)) (pe_ix ix_tup (pv 2) pe_int (fun _ _ => rfl)) (nomark _))
    (pss_one (ps_ret (pe_tup (pa_cons pe_str (pa_cons (pv 1) pa_nil))))) pss_nil)
    (pss_cons (ps_for PassesOwn.never rfl (pi_tup (pe_slice sl_tup (pv 2) (po_some pe_int) (po_some pe_int))) (pg_name (i := 4) sc_law_wrong_reading.nd rfl (Or.inl rfl))
    (pss_one (ps_if (pt_not (pt_val (pe_call (ok_law_good ev) (hr.mono (by decide)) (by rfl) ev.A_law_good.m ev.A_law_good.F.kp ev.A_law_good.b .nil pass0 (pa_cons (pv 4) (pa_cons pe_int pa_nil)))))
    (pss_one (ps_ret (pe_tup (pa_cons pe_str (pa_cons (pv 4) pa_nil))))) pss_nil)))
    (pss_cons (ps_if (PW.pt (pw_or (pt_not (pt_val (pe_call (ok_law_good ev) (hr.mono (by decide)) (by rfl) ev.A_law_good.m ev.A_law_good.F.kp ev.A_law_good.b .nil pass0 (pa_cons (pe_ix ix_tup (pv 2) pe_int (fun _ _ => rfl)) (pa_cons pe_int pa_nil))))) (pw_or1 (pt_cmpR op_lt (pe_ix ix_tup (pv 2) pe_int (fun _ _ => rfl)) pe_int (nomark _)))))
    (pss_one (ps_ret (pe_tup (pa_cons pe_str (pa_cons (pe_ix ix_tup (pv 2) pe_int (fun _ _ => rfl)) pa_nil))))) pss_nil)
    (pss_one (ps_ret pe_non)))))), ?_⟩
  refine ⟨_, rfl, _, rfl, t, _, rfl, SqT.of ht, (by show ¬(HT.sIx 5 0 none = 0 ∧ HT.sIx 5 5 (some 2) = 5); decide), fun p np => ?_⟩
  have s1 : Same H (upd H p (.tup [.str one, .str tw])) := same_upd np
  have hp1 : (upd H p (.tup [.str one, .str tw])) p = some (.tup [.str one, .str tw]) := upd_same
  refine ⟨p, rfl, ⟨_, SqT.of upd_same⟩, for_tup (K := K) (a := p) (xs := [.str one, .str tw]) (fun i σ H2 => H2 = upd H p (.tup [.str one, .str tw]) ∧ (1 ≤ i → one ∈ ks.map (·.1)) ∧ (2 ≤ i → tw ∈ ks.map (·.1)) ∧ ∃ y8, σ = [some (.ref d), some (.int n), some (.ref t), y8, none]) ⟨rfl, (fun w => by omega), (fun w => by omega), none, rfl⟩ (fun i σ H2 _ h => by rw [h.1]; exact SqT.of upd_same) ?_ ?_⟩
  · rintro i v σ H2 hi' ⟨rfl, b1, b2, y8, rfl⟩
    obtain ⟨z, ev', ok, in_, out_⟩ : ∃ z : Str, v = .str z ∧ okV (.str z) ∧ (z ∈ ks.map (·.1) → (1 ≤ i + 1 → one ∈ ks.map (·.1)) ∧ (2 ≤ i + 1 → tw ∈ ks.map (·.1))) ∧ (z ∉ ks.map (·.1) → readE (ks.map (·.1)) n one tw ac hi wt = some (.mark z)) := by
      rcases i with _ | _ | i
      · cases hi'
        exact ⟨one, rfl, oo, fun h => ⟨fun _ => h, fun w => by omega⟩, fun h => by unfold readE; rw [if_pos h]⟩
      · cases hi'
        exact ⟨tw, rfl, ot, fun h => ⟨fun _ => b1 (by omega), fun _ => h⟩, fun h => by unfold readE; rw [if_neg (fun w => w (b1 (by omega))), if_pos h]⟩
      · cases hi'
    subst ev'
    refine ⟨_, rfl, _, rfl, d, _, rfl, DGet.k (k := Sum.inr z) (s1 _ _ hd), _, rfl, ?_⟩
    by_cases hz : z ∈ ks.map (·.1)
    · have i1 := (in_ hz).1
      have i2 := (in_ hz).2
      obtain ⟨p, hp, rfl⟩ := List.mem_map.mp hz
      rw [mkv_val nd hp]
      exact iteF ⟨rfl, i1, i2, _, rfl⟩
    · rw [mkv_none hz]
      exact iteT ⟨_, rfl, two, fun a na => q2 (.mark z) (out_ hz) a _ (s1.trans (same_upd na)) upd_same⟩
  rintro σ H2 ⟨rfl, b1, b2, y8, rfl⟩
  have o1 := b1 (by show 1 ≤ 2; omega)
  have t1 := b2 (by show 2 ≤ 2; omega)
  have r1 : readE (ks.map (·.1)) n one tw ac hi wt = if one = tw then some (.rd n) else if numB ac (-999) 999 = false then some (.num ac) else if numB hi (-999) 999 = false then some (.num hi) else if numB wt 1 9 = false then some (.num wt) else none := by
    unfold readE
    rw [if_neg (fun w => w o1), if_neg (fun w => w t1)]
  have ht1 := s1 _ _ ht
  generalize upd H p (.tup [.str one, .str tw]) = H1 at s1 ht1
  refine nx_u ?_
  refine ⟨_, rfl, t, _, 0, _, rfl, rfl, SqT.of ht1, rfl, _, rfl, t, _, 1, _, rfl, rfl, SqT.of ht1, rfl, rfl, _, rfl, ite2 (fun w => ?_) (fun w => ?_)⟩
  · have e : one = tw := V.str.inj (of_decide_eq_true w)
    exact ⟨_, rfl, two, fun a na => q2 (.rd n) (by rw [r1, if_pos e]) a _ (s1.trans (same_upd na)) upd_same⟩
  have ne : ¬ one = tw := fun z => w (decide_eq_true (congrArg V.str z))
  rw [if_neg ne] at r1
  refine next_u ?_
  refine ⟨_, rfl, _, rfl, _, rfl, t, _, rfl, SqT.of ht1, (by show ¬(HT.sIx 5 0 (some 2) = 0 ∧ HT.sIx 5 5 (some 4) = 5); decide), fun p2 np2 => ?_⟩
  have s2 : Same H (upd H1 p2 (.tup [ac, hi])) := s1.trans (same_upd np2)
  refine ⟨p2, rfl, ⟨_, SqT.of upd_same⟩, for_tup (K := K) (a := p2) (xs := [ac, hi]) (fun i σ H2 => H2 = upd H1 p2 (.tup [ac, hi]) ∧ (1 ≤ i → numB ac (-999) 999 = true) ∧ (2 ≤ i → numB hi (-999) 999 = true) ∧ ∃ y9, σ = [some (.ref d), some (.int n), some (.ref t), y8, y9]) ⟨rfl, (fun w => by omega), (fun w => by omega), none, rfl⟩ (fun i σ H2 _ h => by rw [h.1]; exact SqT.of upd_same) ?_ ?_⟩
  · rintro i v σ H2 hi' ⟨rfl, b1, b2, y9, rfl⟩
    obtain ⟨nv, in_, out_⟩ : numOk v ∧ (numB v (-999) 999 = true → (1 ≤ i + 1 → numB ac (-999) 999 = true) ∧ (2 ≤ i + 1 → numB hi (-999) 999 = true)) ∧ (numB v (-999) 999 = false → readE (ks.map (·.1)) n one tw ac hi wt = some (.num v)) := by
      rcases i with _ | _ | i
      · cases hi'
        exact ⟨na, fun h => ⟨fun _ => h, fun w => by omega⟩, fun h => by rw [r1, if_pos h]⟩
      · cases hi'
        exact ⟨nh, fun h => ⟨fun _ => b1 (by omega), fun _ => h⟩, fun h => by rw [r1, if_neg (by rw [b1 (by omega)]; exact Bool.noConfusion), if_pos h]⟩
      · cases hi'
    refine ⟨_, rfl, v, 999, rfl, nv.num, _, rfl, ite2 (fun c => ?_) (fun c => ?_)⟩
    · exact ⟨_, rfl, two, fun a na => q2 (.num v) (out_ (by simpa using c)) a _ (s2.trans (same_upd na)) upd_same⟩
    · have g : numB v (-999) 999 = true := by simpa using c
      exact ⟨rfl, (in_ g).1, (in_ g).2, _, rfl⟩
  rintro σ H2 ⟨rfl, b1, b2, y9, rfl⟩
  have ga := b1 (by show 1 ≤ 2; omega)
  have gh := b2 (by show 2 ≤ 2; omega)
  rw [if_neg (by rw [ga]; exact Bool.noConfusion), if_neg (by rw [gh]; exact Bool.noConfusion)] at r1
  have ht2 := s2 _ _ ht
  generalize upd H1 p2 (.tup [ac, hi]) = H3 at s2 ht2
  refine nx_u ?_
  refine ⟨_, rfl, t, _, 4, _, rfl, rfl, SqT.of ht2, rfl, wt, 9, rfl, nw.num, _, rfl, ite2 (fun c => ?_) (fun c => ?_)⟩
  · have g : numB wt (0 - 9) 9 = false := by simpa using c
    have e : numB wt 1 9 = false := by
      rcases nw with ⟨i, rfl, _⟩ | ⟨b, rfl⟩
      · have g' : (decide (0 - 9 ≤ i) && decide (i ≤ 9)) = false := g
        show (decide (1 ≤ i) && decide (i ≤ 9)) = false
        simp only [Bool.and_eq_false_iff, decide_eq_false_iff_not] at g' ⊢
        omega
      · rfl
    exact iteT ⟨_, rfl, t, _, 4, _, rfl, rfl, SqT.of ht2, rfl, two, fun a na => q2 (.num wt) (by rw [r1, if_pos e]) a _ (s2.trans (same_upd na)) upd_same⟩
  have g : numB wt (0 - 9) 9 = true := by simpa using c
  rcases nw with ⟨i, rfl, _⟩ | ⟨b, rfl⟩
  rotate_left
  · cases g
  have g' : (decide (0 - 9 ≤ i) && decide (i ≤ 9)) = true := g
  simp only [Bool.and_eq_true, decide_eq_true_eq] at g'
  refine ⟨_, rfl, t, _, 4, _, rfl, rfl, SqT.of ht2, rfl, _, _, rfl, rfl, _, rfl, ite2 (fun c => ?_) (fun c => ?_)⟩
  · have i1 : i < 1 := of_decide_eq_true c
    have e : numB (.int i) 1 9 = false := by
      show (decide (1 ≤ i) && decide (i ≤ 9)) = false
      simp only [Bool.and_eq_false_iff, decide_eq_false_iff_not]
      omega
    exact ⟨_, rfl, t, _, 4, _, rfl, rfl, SqT.of ht2, rfl, two, fun a na => q2 (.num (.int i)) (by rw [r1, if_pos e]) a _ (s2.trans (same_upd na)) upd_same⟩
  · have i1 : ¬ i < 1 := fun z => c (decide_eq_true z)
    have e : numB (.int i) 1 9 = true := by
      show (decide (1 ≤ i) && decide (i ≤ 9)) = true
      simp only [Bool.and_eq_true, decide_eq_true_eq]
      omega
    refine next_u ?_
    exact q1 (by rw [r1, if_neg (by rw [e]; exact Bool.noConfusion)]) _ s2


theorem cps_lt1 (c k : Nat) : (([c] : List Nat) < [k]) ↔ c < k := by
  rw [List.cons_lt_cons_iff]
  simp
theorem sign_a (c : Nat) : (!decide ((⟨#[c]⟩ : Str).cps.toList < (Str.ofString "a").cps.toList)) = decide (97 ≤ c) := by
  have e : (Str.ofString "a").cps.toList = [97] := by decide +kernel
  have e2 : (⟨#[c]⟩ : Str).cps.toList = [c] := rfl
  rw [e, e2, ← decide_not]
  exact decide_eq_decide.mpr (by rw [cps_lt1]; omega)
theorem sign_z (c : Nat) : (!decide ((Str.ofString "z").cps.toList < (⟨#[c]⟩ : Str).cps.toList)) = decide (c ≤ 122) := by
  have e : (Str.ofString "z").cps.toList = [122] := by decide +kernel
  have e2 : (⟨#[c]⟩ : Str).cps.toList = [c] := rfl
  rw [e, e2, ← decide_not]
  exact decide_eq_decide.mpr (by rw [cps_lt1]; omega)
def spDue : Sp := fun vs H Q _ => ∃ (d1 d2 : Addr) (ks : List (Str × V)) (rs : List (Int × V)) (nx : Str → List V) (rd : Int → RdP), vs = [.ref d1, .ref d2] ∧ H d1 = some (.dK (mkv ks)) ∧ H d2 = some (.dK (rdv rs)) ∧ Given H ks rs nx rd ∧
  ∀ ys, ys.Perm (ks.map (·.1)) → PyProof.Rows.sortedS ys = true → Told H (survE nx rd (ks.map (·.1)) ys (rs.map (·.1))) Q
theorem ok_law_due (ev : Env P K mg) : FnOk P w K mg base CX0 4 ev.f_law_due ev.d_law_due p_law_due spDue := by
  refine ev.A_law_due.F.ok sc_law_due (fun vs H Q E h => ?_) (fun cdv A outer s H vs Q E hr h => ?_)
  · obtain ⟨d1, d2, ks, rs, nx, rd, rfl, _⟩ := h
    rfl
  obtain ⟨d1, d2, ks, rs, nx, rd, rfl, h1, h2, hG, q⟩ := h
  have hu := hu_of hr
  refine ⟨_, (pss_cons (ps_for PassesOwn.never rfl (pi_list (pe_callB (call_srtK rfl) (by rfl) ev.B.sorted_ (by decide +kernel) (pa_cons (pv 0) pa_nil))) (pg_name (i := 2) sc_law_due.nd rfl (Or.inl rfl))
    (pss_cons (ps_set (i := 3) sc_law_due.nd rfl (Or.inl rfl) (pe_callB (cr_all rfl) (by rfl) ev.B.all_ (by decide +kernel) (pa_cons (pe_lc (own := [("_law_sign", 6)]) (g := gName 6) (tt := tYes) (by rfl) sc_law_due.nd (pi_str (pv 2)) (blkOk_by (own := [("_law_sign", 6)]) (N := n_law_due) (sc := defScope s_law_due) (by decide +kernel)) (fun _ _ _ _ _ => pg_name (i := 6) sc_law_due.nd rfl (Or.inl rfl)) (fun _ _ _ _ _ => pts_nil) (fun _ _ _ _ _ => (pe_chain op_le_str op_le_str pe_str (pv 6) pe_str))) pa_nil)))
    (pss_cons (ps_if (PW.pt (pw_or (pt_not (pt_val (pv 3))) (pw_or1 (pt_not (pt_chain op_le op_le pe_int (pe_callB call_len_str (by rfl) ev.B.len_ PySem.boot_len (pa_cons (pv 2) pa_nil)) pe_int)))))
    (pss_one (ps_ret (pe_tup (pa_cons pe_str (pa_cons (pv 2) pa_nil))))) pss_nil)
    (pss_one (ps_if (pt_cmpR op_notN (pe_dget hu (pv 0) (pv 2) (fun _ _ => rfl)) pe_non (nomark _))
    (pss_one (ps_for PassesOwn.never rfl (pi_tup (pe_dget hu (pv 0) (pv 2) (fun _ _ => rfl))) (pg_name (i := 4) sc_law_due.nd rfl (Or.inl rfl))
    (pss_one (ps_if (pt_not (pt_val (pe_call (ok_law_good ev) (hr.mono (by decide)) (by rfl) ev.A_law_good.m ev.A_law_good.F.kp ev.A_law_good.b .nil pass0 (pa_cons (pv 4) (pa_cons pe_int pa_nil)))))
    (pss_one (ps_ret (pe_tup (pa_cons pe_str (pa_cons (pv 4) pa_nil))))) pss_nil)))) pss_nil)))))
    (pss_cons (ps_for PassesOwn.never rfl (pi_list (pe_callB (call_srtK rfl) (by rfl) ev.B.sorted_ (by decide +kernel) (pa_cons (pv 1) pa_nil))) (pg_name (i := 4) sc_law_due.nd rfl (Or.inl rfl))
    (pss_cons (ps_set (i := 5) sc_law_due.nd rfl (Or.inl rfl) (pe_call (ok_law_wrong_reading ev) (hr.mono (by decide)) (by rfl) ev.A_law_wrong_reading.m ev.A_law_wrong_reading.F.kp ev.A_law_wrong_reading.b .nil pass0 (pa_cons (pv 0) (pa_cons (pv 4) (pa_cons (pe_dget hu (pv 1) (pv 4) (fun _ _ => rfl)) pa_nil)))))
    (pss_one (ps_if (pt_cmpR op_notN (pv 5) pe_non (nomark _))
    (pss_one (ps_ret (pv 5))) pss_nil))))
    (pss_one (ps_ret pe_non)))), ?_⟩
  have k60 := hG.k60
  have r60 := hG.r60
  have kn : (ks.map (·.1)).length < 64 := by rw [List.length_map]; omega
  have rn : (rs.map (·.1)).length < 64 := by rw [List.length_map]; omega
  have rnd := rise_nd hG.up
  refine ⟨_, rfl, .inl ⟨d1, _, ks.map (·.1), rfl, .inl h1, mkv_keys ks, kn, fun ys l pm sr nl => ?_⟩⟩
  obtain ⟨q1, q2⟩ := q ys pm sr
  have s0 : Same H (upd H l (.lst (ys.map V.str))) := same_upd nl
  have vals : ∀ y ∈ ys, ∃ v, (y, v) ∈ ks := fun y hy => by
    obtain ⟨⟨a, v⟩, hv, e⟩ := List.mem_map.mp (pm.mem_iff.mp hy)
    cases e
    exact ⟨v, hv⟩
  refine ⟨l, rfl, ⟨_, SqL.of upd_same⟩, for_list (K := K) (a := l) (xs := ys.map V.str) (fun i σ H2 => Same H H2 ∧ H2 l = some (.lst (ys.map V.str)) ∧ (∀ u ∈ ys.take i, markE u (nx u) = none) ∧ ∃ y2 y3 y4 y5 y6, σ = [some (.ref d1), some (.ref d2), y2, y3, y4, y5, y6]) ⟨s0, upd_same, (fun u hu => by simp at hu), none, none, none, none, none, rfl⟩ (fun i σ H2 _ h => SqL.of h.2.1) ?_ ?_⟩
  · rintro i x σ H2 hi ⟨s2, hl2, hb, y2, y3, y4, y5, y6, rfl⟩
    rw [List.getElem?_map] at hi
    obtain ⟨z, hy, rfl⟩ : ∃ y, ys[i]? = some y ∧ x = V.str y := by
      cases e : ys[i]? with
      | none => rw [e] at hi; cases hi
      | some y => rw [e] at hi; exact ⟨y, rfl, (Option.some.inj hi).symm⟩
    obtain ⟨v, hv⟩ := vals z (List.mem_of_getElem? hy)
    have hl := hG.len z (List.mem_map.mpr ⟨_, hv, rfl⟩)
    have zl := len_cps z
    have lows : lowB z = (decide (1 ≤ z.cps.toList.length) && decide (z.cps.toList.length ≤ 6) && z.cps.toList.all fun c => decide (97 ≤ c) && decide (c ≤ 122)) := rfl
    have out_ : ∀ e, markE z (nx z) = some e → survE nx rd (ks.map (·.1)) ys (rs.map (·.1)) = some e := fun e me => by
      unfold survE
      rw [fs_at hb hy me]
    have bad : lowB z = false → markE z (nx z) = some (.name z) := fun g => by unfold markE; rw [if_neg (by rw [g]; exact Bool.false_ne_true)]
    refine seq_asg ⟨_, rfl, z, rfl, fun D hD => ?_⟩
    refine lc_str (fun i H3 => Same H2 H3 ∧ H3 D = some (.lst (((z.cps.toList.take i).map fun c => decide (97 ≤ c) && decide (c ≤ 122)).map V.bl))) ⟨same_upd hD, upd_same⟩ ?_ ?_
    · rintro i c H3 hi ⟨s3, hD3⟩
      refine ⟨rfl, yes_ ?_⟩
      have fin : ∀ b : Bool, b = (decide (97 ≤ c) && decide (c ≤ 122)) → Same H2 (upd H3 D (.lst (((z.cps.toList.take i).map fun c => decide (97 ≤ c) && decide (c ≤ 122)).map V.bl ++ [V.bl b]))) ∧ (upd H3 D (.lst (((z.cps.toList.take i).map fun c => decide (97 ≤ c) && decide (c ≤ 122)).map V.bl ++ [V.bl b]))) D = some (.lst (((z.cps.toList.take (i + 1)).map fun c => decide (97 ≤ c) && decide (c ≤ 122)).map V.bl)) := fun b eb => by
        refine ⟨fun p o e => ?_, ?_⟩
        · rw [upd_ne (ne_of_none e hD)]
          exact s3 _ _ e
        · rw [upd_same, eb, List.take_add_one, hi]
          simp only [Option.toList, List.map_append, List.map_cons, List.map_nil]
      have sl : (((z.cps.toList.take i).map fun c => decide (97 ≤ c) && decide (c ≤ 122)).map V.bl).length < sizeLine := by
        rw [List.length_map, List.length_map, List.length_take]
        exact small1000 (by omega)
      refine ⟨_, rfl, _, _, rfl, rfl, _, rfl, ite2 (fun k => ?_) (fun k => ?_)⟩
      · rw [sign_a] at k
        refine ⟨_, _, rfl, rfl, _, hD3, sl, ?_⟩
        exact fin _ (by rw [sign_z, k, Bool.true_and])
      · rw [sign_a] at k
        refine ⟨_, hD3, sl, ?_⟩
        exact fin _ (by rw [Bool.eq_false_iff.mpr k, Bool.false_and])
    rintro H3 ⟨s3, hD3⟩
    refine ⟨D, _, rfl, SqL.of hD3, ?_⟩
    rw [List.take_length, List.all_map]
    have e : (z.cps.toList.all (id ∘ fun c => decide (97 ≤ c) && decide (c ≤ 122))) = z.cps.toList.all fun c => decide (97 ≤ c) && decide (c ≤ 122) := rfl
    rw [e]
    have s23 : Same H H3 := s2.trans s3
    have hl3 := s3 _ _ hl2
    generalize (z.cps.toList.all fun c => decide (97 ≤ c) && decide (c ≤ 122)) = al at lows
    have ret_ : ∀ (Q' : VK) (g : lowB z = false), Q' = Q → ∀ a, H3 a = none → Q' (.ref a) (upd H3 a (.tup [.str "name", .str z])) := fun Q' g eQ a na => by
      rw [eQ]
      exact q2 (.name z) (out_ _ (bad g)) a _ (s23.trans (same_upd na)) upd_same
    refine ⟨_, rfl, _, rfl, ite2 (fun c => ?_) (fun c => ?_)⟩
    · have ea : al = false := by simpa using c
      exact iteT ⟨_, rfl, two, fun a na => ret_ _ (by rw [lows, ea, Bool.and_false]) rfl a na⟩
    have ea : al = true := by simpa using c
    rw [ea, Bool.and_true] at lows
    refine ⟨_, rfl, _, rfl, small_le (by omega), _, _, rfl, rfl, _, rfl, ite2 (fun c1 => ?_) (fun c1 => ?_)⟩
    rotate_left
    · have c1' : ¬ 1 ≤ z.cps.toList.length := fun n => c1 (decide_eq_true (by omega))
      refine ⟨_, rfl, iteT ⟨_, rfl, two, fun a na => ret_ _ (by rw [lows, decide_eq_false c1', Bool.false_and]) rfl a na⟩⟩
    have c1' : 1 ≤ z.cps.toList.length := by have := of_decide_eq_true c1; omega
    refine ⟨_, _, rfl, rfl, _, rfl, ite2 (fun c2 => ?_) (fun c2 => ?_)⟩
    · have c2' : ¬ z.cps.toList.length ≤ 6 := fun n => by
        have e2 : decide ((z.length : Int) ≤ 6) = true := decide_eq_true (by omega)
        rw [e2] at c2
        cases c2
      exact ⟨_, rfl, two, fun a na => ret_ _ (by rw [lows, decide_eq_false c2', Bool.and_false]) rfl a na⟩
    have c2' : z.cps.toList.length ≤ 6 := by
      have e2 : decide ((z.length : Int) ≤ 6) = true := by simpa using c2
      have := of_decide_eq_true e2
      omega
    have lz : lowB z = true := by rw [lows, decide_eq_true c1', decide_eq_true c2']; rfl
    have me : markE z (nx z) = ((nx z).find? badN).map .num := by unfold markE; rw [if_pos lz]
    have dg : ∀ {H4 : Hp}, Same H H4 → DGet H4 d1 (.str z) (some v) := fun {H4} s4 => by
      rw [← mkv_val hG.nd hv]
      exact DGet.k (k := Sum.inr z) (s4 _ _ h1)
    refine next_u ?_
    refine ⟨_, rfl, _, rfl, d1, v, rfl, dg s23, rfl, _, rfl, ?_⟩
    rcases hG.mkk _ hv with ⟨ev', en⟩ | ⟨ta, x, y, ev', ht, en, hx, hy'⟩
    · have ev2 : v = .non := ev'
      have en2 : nx z = [] := en
      subst ev2
      exact iteF ⟨s23, hl3, fs_step hb hy (by rw [me, en2]; rfl), _, _, _, _, _, rfl⟩
    have ev2 : v = .ref ta := ev'
    have en2 : nx z = [x, y] := en
    subst ev2
    refine iteT ⟨_, rfl, _, rfl, d1, _, rfl, dg s23, ta, rfl, ⟨_, SqT.of (s23 _ _ ht)⟩, for_tup (K := K) (a := ta) (xs := [x, y]) (fun j σ H4 => H4 = H3 ∧ (∀ u ∈ [x, y].take j, badN u = false) ∧ ∃ y4 y5 y6, σ = [some (.ref d1), some (.ref d2), some (.str z), some (.bl al), y4, y5, y6]) ⟨rfl, (fun u hu => by simp at hu), _, _, _, rfl⟩ (fun j σ H4 _ h => by rw [h.1]; exact SqT.of (s23 _ _ ht)) ?_ ?_⟩
    · rintro j u σ H4 hj ⟨rfl, hbj, y4, y5, y6, rfl⟩
      have hn : numOk u := by
        have hm := List.mem_of_getElem? hj
        simp only [List.mem_cons, List.not_mem_nil, or_false] at hm
        rcases hm with rfl | rfl
        · exact hx
        · exact hy'
      refine ⟨_, rfl, u, 999, rfl, hn.num, _, rfl, ite2 (fun c => ?_) (fun c => ?_)⟩
      · have g : badN u = true := c
        exact ⟨_, rfl, two, fun a na => q2 (.num u) (out_ _ (by rw [me, en2, find_at hbj hj g]; rfl)) a _ (s23.trans (same_upd na)) upd_same⟩
      · have g : badN u = false := Bool.eq_false_iff.mpr c
        exact ⟨rfl, take_step hbj hj g, _, _, _, rfl⟩
    · rintro σ H4 ⟨rfl, hbj, y4, y5, y6, rfl⟩
      exact ⟨s23, hl3, fs_step hb hy (by rw [me, en2, find_no hbj]; rfl), _, _, _, _, _, rfl⟩
  rintro σ H2 ⟨s2, _, hb, y2, y3, y4, y5, y6, rfl⟩
  rw [List.length_map, List.take_length] at hb
  have me0 : (ys.findSome? fun z => markE z (nx z)) = none := List.findSome?_eq_none_iff.mpr hb
  refine nx_u ?_
  refine ⟨_, rfl, .inr ⟨d2, _, rs.map (·.1), rfl, .inl (s2 _ _ h2), rdv_keys rs, rn, fun zs l2 pm2 sr2 nl2 => ?_⟩⟩
  obtain rfl : zs = rs.map (·.1) := srtI_same pm2 sr2 (hG.up.imp fun {a b} h => by omega)
  refine ⟨l2, rfl, ⟨_, SqL.of upd_same⟩, for_list (K := K) (a := l2) (xs := (rs.map (·.1)).map V.int) (fun i σ H3 => Same H H3 ∧ H3 l2 = some (.lst ((rs.map (·.1)).map V.int)) ∧ (∀ n ∈ (rs.map (·.1)).take i, readE (ks.map (·.1)) n (rd n).one (rd n).tw (rd n).ac (rd n).hi (rd n).wt = none) ∧ ∃ y4 y5, σ = [some (.ref d1), some (.ref d2), y2, y3, y4, y5, y6]) ⟨s2.trans (same_upd nl2), upd_same, (fun u hu => by simp at hu), y4, y5, rfl⟩ (fun i σ H3 _ h => SqL.of h.2.1) ?_ ?_⟩
  · rintro i x σ H3 hi ⟨s3, hl3, hc, y4, y5, rfl⟩
    rw [List.getElem?_map] at hi
    obtain ⟨n, hn, rfl⟩ : ∃ n, (rs.map (·.1))[i]? = some n ∧ x = V.int n := by
      cases e : (rs.map (·.1))[i]? with
      | none => rw [e] at hi; cases hi
      | some n => rw [e] at hi; exact ⟨n, rfl, (Option.some.inj hi).symm⟩
    obtain ⟨⟨n, v⟩, hv, rfl⟩ := List.mem_map.mp (List.mem_of_getElem? hn)
    have rv := (hG.rdv _ hv).same s3
    obtain ⟨tv, ev', _⟩ := hG.rdv _ hv
    refine seq_asg ⟨_, rfl, _, rfl, _, rfl, _, rfl, d2, v, rfl, ?_, d1, ks, n, v, (rd n).one, (rd n).tw, (rd n).ac, (rd n).hi, (rd n).wt, rfl, s3 _ _ h1, hG.nd, rv, fun me H4 s4 => ?_, fun e me a H4 s4 ha => ?_⟩
    · rw [← rdv_val rnd hv]
      exact DGet.k (k := Sum.inl n) (s3 _ _ h2)
    · exact ⟨_, rfl, rfl, _, rfl, iteF ⟨s3.trans s4, s4 _ _ hl3, fs_step (f := fun n => readE (ks.map (·.1)) n (rd n).one (rd n).tw (rd n).ac (rd n).hi (rd n).wt) hc hn me, _, _, rfl⟩⟩
    · refine ⟨_, rfl, rfl, _, rfl, iteT ⟨_, rfl, q2 e ?_ a H4 (s3.trans s4) ha⟩⟩
      unfold survE
      rw [me0]
      exact fs_at (f := fun n => readE (ks.map (·.1)) n (rd n).one (rd n).tw (rd n).ac (rd n).hi (rd n).wt) hc hn me
  rintro σ H3 ⟨s3, _, hc, y4, y5, rfl⟩
  rw [List.length_map, List.take_length] at hc
  refine q1 ?_ _ s3
  unfold survE
  rw [me0]
  exact List.findSome?_eq_none_iff.mpr hc

open PySem.Spec PyProof.Rows in
section

/-! ### a try with any number of clauses 'except x as n' (n in slot i) -/
abbrev Cl : Type := Value × (Addr → Value → Option Addr → TS)
def wManyAs (K : PySem.W.Frag) (i : Nat) (Wout : WX) (D : Ends) (l : List Cl) : WX := l.foldr (fun p W => wAs K p.1 i p.2 W D) Wout
/-- the clause h: its class is p's, its suite does what p says -/
inductive ClAs (X : Cx) (n : Str) : ExceptHandler → Cl → Prop
  | mk {x np c ts st sts pos} : Names X x c →
      (∀ a o cls d pn, Zc cls d o → (∃ vs, o.data = .fields vs) → PSs (X.suite a ((a, o) :: pn)) (st :: sts) (ts a cls d)) →
      ClAs X n (.ExceptHandler (some (.Name x np)) (some n) (st :: sts) pos) (c, ts)
inductive HdsAs (X : Cx) (n : Str) : List ExceptHandler → List Cl → Prop
  | nil : HdsAs X n [] []
  | more {h p hs ps} : ClAs X n h p → HdsAs X n hs ps → HdsAs X n (h :: hs) (p :: ps)
theorem HdsAs.cons {X : Cx} {n x : Str} {np pos : Pos} {c : Value} {ts : Addr → Value → Option Addr → TS} {st : Stmt} {sts : List Stmt} {hs : List ExceptHandler} {ps : List Cl} (hc : Names X x c)
    (hsu : ∀ a o cls d pn, Zc cls d o → (∃ vs, o.data = .fields vs) → PSs (X.suite a ((a, o) :: pn)) (st :: sts) (ts a cls d)) (r : HdsAs X n hs ps) :
    HdsAs X n (.ExceptHandler (some (.Name x np)) (some n) (st :: sts) pos :: hs) ((c, ts) :: ps) := .more (.mk hc hsu) r
/-- what is known once the exception a (of the class cls, its fields at d) has come down: g is the heap now, sI the state it was thrown in -/
structure Down (X : Cx) (pins : List (Addr × Obj)) (σ : L2.St) (H : Hp) (B : Heap) (sI t : Shared) (a : Addr) (cls : Value) (d : Option Addr) : Prop where
  ok : X.Ok
  fr : X.stack = X.env :: X.outer
  loc : X.env.frame = some X.env.locals
  inv : Inv X pins σ H sI
  gnd : ∀ b o, sI.heap.get? b = some o → b ∉ frs X.stack → B.get? b = some o
  up : sI.heap.UpToSlots t.heap
  fly : HandSPX.FlyingZ B (X.env :: X.outer) a (Zc cls d) t.heap
  na : H a = none
  os : t.os = sI.os
  bare : AllBare t.gens
section
variable {X : Cx} {pins : List (Addr × Obj)} {σ : L2.St} {H : Hp} {B : Heap} {sI t : Shared} {a : Addr} {cls : Value} {d : Option Addr}
theorem Down.here (L : Down X pins σ H B sI t a cls d) : Inv X pins σ H t := L.inv.landed L.gnd L.fly.1 L.up L.os L.bare
theorem Down.step (L : Down X pins σ H B sI t a cls d) {g : Heap} (f : HandSPX.FlyingZ B (X.env :: X.outer) a (Zc cls d) g) (u : t.heap.UpToSlots g) : Down X pins σ H B sI { t with heap := g } a cls d :=
  { L with up := L.up.trans u, fly := f }
theorem Down.apart (L : Down X pins σ H B sI t a cls d) : a ∉ frs (X.env :: X.outer) := by
  intro m
  have ⟨o, vs, e, _, dat⟩ := L.fly.there
  have ⟨_, o', e', no⟩ := L.fly.2.2.1.mem m
  exact no vs (Option.some.inj (e'.symm.trans e) ▸ dat)
theorem Down.notL (L : Down X pins σ H B sI t a cls d) : a ≠ X.env.locals := by
  intro e
  refine L.apart (List.mem_filterMap.mpr ⟨X.env, .head _, ?_⟩)
  rw [L.loc, e]
theorem Down.notF (L : Down X pins σ H B sI t a cls d) : a ∉ X.fs := by
  intro m
  have ⟨e, he, q⟩ := List.mem_filterMap.mp m
  exact L.apart (List.mem_filterMap.mpr ⟨e, .tail _ he, q⟩)
/-- the state of a clause's suite -/
theorem Down.insuite (L : Down X pins σ H B sI t a cls d) : ∃ o, t.heap.get? a = some o ∧ Zc cls d o ∧ (∃ vs, o.data = .fields vs) ∧ Inv (X.suite a ((a, o) :: (X.pn ++ pins))) [] σ H t :=
  have ⟨o, vs, e, z, dat⟩ := L.fly.there
  ⟨o, e, z, ⟨vs, dat⟩, L.here.suite e dat L.na L.notL L.notF⟩
/-- the clause's class is looked up, and the exception held against it -/
theorem Down.test (L : Down X pins σ H B sI t a cls d) {x : Str} {np : Pos} {c : Value} {b : Bool} {Q : Bool → Shared → Prop} {E E' : Value → Shared → Prop} (hc : Names X x c) (hb : PySem.W.exmOne X.K cls c = some b) (q : Q b t) :
    wpAny (model X.prog X.w) (X.A.mark (some (.ref a))) (eval (.Name x np) X.env) (fun v s => wpAny (model X.prog X.w) (X.A.mark (some (.ref a))) (excMatches (.ref a) v) Q E s) E' t := by
  have ⟨o, e, z, _, S⟩ := L.insuite
  have LM := PySem.W.exm_one (M := model X.prog X.w) (e := a) L.here.kIn (fun _ _ _ _ k w => wpAny_typeOf_ref (k _ _ e) (z.1 ▸ w)) hb
  rcases hc with ⟨gl, ndb, g | ⟨g, bt, ne⟩⟩
  · exact ld_glob (X := X.suite a _) S gl g (LM.here q) ndb
  · exact ld_blt (X := X.suite a _) S gl g bt (LM.here q) ne ndb
/-- no clause is left: it flies on -/
theorem Down.off (L : Down X pins σ H B sI t a cls d) {W : WX} {D : Ends} (tk : Takes X W) (w : W cls d σ H) : wpAny (model X.prog X.w) X.A (handleBy (.ref a) X.env []) (SP X pins D) X.xe t := by
  have away : wpAny (model X.prog X.w) X.A (setFlight (.ref a) X.env.frame) (fun _ u => wpAny (model X.prog X.w) X.A (throw (.ref a) : Sem Flow) (SP X pins D) X.xe u) X.xe t := by
    rw [L.loc]
    exact HandSPX.setFlight_upZ L.fly fun g held u => wpAny_throw (tk _ _ ⟨a, B, sI, pins, σ, H, cls, d, rfl, L.inv, L.gnd, L.up.trans u, .inr (.inr (L.fr ▸ held)), L.na, L.os, L.bare, w⟩)
  have ⟨_, _, _, o, vs, T, _, _, e, _, dat, tb, _⟩ := id L.fly
  apply wpAny_handleBy_nil
  unfold PySem.passOn
  apply wpAny_bind
  apply wpAny_field e dat tb
  rw [if_neg (by simp)]
  first
    | exact wpAny_bind (wpAny_pure (wpAny_bind away))
    | exact wpAny_bind away
/-- the clauses, one after the other -/
theorem Down.clauses {n : Str} {i : Nat} {W : WX} {D : Ends} (hN : X.N.Nodup) (hi : X.N[i]? = some n) (hln : X.env.kindOf n = some .local) (tk : Takes X W) :
    ∀ {hs : List ExceptHandler} {l : List Cl}, HdsAs X n hs l → ∀ {t : Shared}, Down X pins σ H B sI t a cls d → wManyAs X.K i W D l cls d σ H → wpAny (model X.prog X.w) X.A (handleBy (.ref a) X.env hs) (SP X pins D) X.xe t
  | _, _, .nil, _, L, w => L.off tk w
  | _, _, .more (.mk hc hsu) r, t, L, w => by
    obtain ⟨b, hb, yes, no⟩ := w
    apply wpAny_handleBy_cons _ (fun z => by cases z)
    apply codeAny_handlers_test
    refine L.test hc hb ?_
    cases b
    · exact Down.clauses hN hi hln tk r L (no rfl)
    · apply codeAny_handlers_suite_as
      refine HandSPX.lands_againZ L.fly fun g f u => ?_
      have L' := L.step f u
      have ⟨o, e, z, dat, S⟩ := L'.insuite
      refine store_ok (X := X.suite a _) (v := .ref a) S hN hi (.inl hln) rfl (fun s5 S5 => ?_) (.inr hln)
      have run := (hsu a o cls d (X.pn ++ pins) z dat).run [] s5 _ H _ S5 (yes rfl a L.na)
      refine wpAny_mono run (fun fl s6 told => ?_) (fun _ _ => False.elim)
      cases fl
      case ret => exact told.elim fun v told => told.elim fun σ6 told => told.elim fun H6 told => gone_ok (told.1.unsuite L.ok) hN hi hln fun s7 I => ⟨v, _, H6, I, told.2⟩
      all_goals exact told.elim fun σ6 told => told.elim fun H6 told => gone_ok (told.1.unsuite L.ok) hN hi hln fun s7 I => ⟨_, H6, I, told.2⟩
variable {n : Str} {i : Nat} {body : List Stmt} {h₀ : ExceptHandler} {hds : List ExceptHandler} {l : List Cl} {pos : Pos} {tb : WX → TS} {Wout : WX}
theorem ps_try_manyAs (hs : X.stack = X.env :: X.outer) (hf : X.env.frame = some X.env.locals) (hN : X.N.Nodup) (hi : X.N[i]? = some n) (hln : X.env.kindOf n = some .local) (tk : Takes X Wout)
    (hb : ∀ W pn xe, Takes (X.tr pn xe) W → PassesOwn (model X.prog X.w) X.A X.env xe → PSs (X.tr pn xe) body (tb W))
    (hh : HdsAs X n (h₀ :: hds) l) : PS X (.Try body (h₀ :: hds) [] [] pos) (fun D σ H => tb (wManyAs X.K i Wout D l) D σ H) := by
  constructor
  intro pins s σ H D I h
  have A1 : X.A.frames = some (X.env :: X.outer) := hs ▸ I.ok.frames
  apply wpAny_Try_except
  refine wpAny_mono ((hb _ (X.pn ++ pins) _ ?_ PassesOwn.looking).run [] s σ H D (I.toTry _) h) (fun fl s1 told => ?_) (fun _ _ x => x)
  · rintro _ t ⟨a, B, sI, pins', σ', H', cls, d, rfl, J, gnd, up, sky, na, os, ag, w⟩
    have sky : Sky B (X.env :: X.outer) a (Zc cls d) X.env.locals t.heap := hs ▸ sky
    exact Sky.land Zc.steady A1 hf sky fun g f u => Down.clauses hN hi hln tk hh ⟨I.ok, hs, hf, J.ofTry I.ok, gnd, up.trans u, f, na, os, ag⟩ w
  · cases fl
    case next => exact wpAny_execs_nil (told.elim fun σ' told => told.elim fun H' told => ⟨σ', H', told.1.ofTry I.ok, told.2⟩)
    case ret => exact told.elim fun v told => told.elim fun σ' told => told.elim fun H' told => ⟨v, σ', H', told.1.ofTry I.ok, told.2⟩
    all_goals exact told.elim fun σ' told => told.elim fun H' told => ⟨σ', H', told.1.ofTry I.ok, told.2⟩
end
/-! ### an own class is made whose __init__ may refuse -/
section
variable {X : Cx} {CX : CXT} {pins : List (Addr × Obj)} {σ : L2.St} {H : Hp} {s : Shared} {C f : Addr} {k : Nat} {fd : FuncData} {ps : List Str} {sp : Sp} {E : L2.St → XK} {Q : VK} {us : List Value} {kw : List (Str × Value)}
/-- al, bl: what the __init__ of the instance at x is given, as told and as it stands -/
theorem born (M : Mk X.K C f) (F : FnOk X.prog X.w X.K X.mg X.base CX k f fd ps sp) (hr : Room (k + 1) X.A) (hx : PassesAt CX X σ (E σ)) (I : Inv X pins σ H s) {al : Addr → List V} {bl : Addr → List Value} (rel : ∀ x, Vals (al x) (bl x))
    (bind : ∀ x t, (bl x).length = ps.length → X.K.In t.heap → BindsTo t fd ⟨.ref x :: us, kw⟩ (ps.zip (bl x)))
    (h : ∀ x dx, H x = none → H dx = none → dx ≠ x → sp (al x) (upd (upd H dx (.own x)) x (.ins C dx [])) (fun v H2 => v = .non ∧ Q (.ref x) H2) (E σ)) :
    wpAny (model X.prog X.w) X.A (call (.ref C) us kw) (EP X pins σ Q) X.xe s := by
  have J := I.made (C := C)
  have g := h _ _ (I.hok.fresh (Nat.le_add_right _ 1)) (I.hok.fresh Nat.le.refl) (Nat.succ_ne_self _).symm
  have len := (rel _).length.symm.trans (F.len _ _ _ _ g)
  apply wpAny_call
  apply make_map (f := f) I.kIn M.makes M.init (beq_iff_eq.mp M.fn)
  apply codeAny_mono (F.run _ _ _ _ _ (bl _) (al _) _ (E σ) (hr.make C us kw) (J.env0.make C us kw) (bind _ _ len J.kIn) (rel _) g)
  rintro (_ | fl) t told
  · exact hx _ _ _ _ _ J told
  · cases fl
    case ret u =>
      have ⟨_, _, I3, rv, nn, q⟩ := J.after told
      subst nn
      exact ⟨rv, .ref _, _, I3, rfl, q⟩
    all_goals exact told.elim
variable {x : Str} {e : Expr} {es : List Expr} {t : TA} {p pos : Pos}
/-- C(e, ..) -/
def tMakeS (C : Addr) (sp : Sp) (E : L2.St → XK) (t : TA) : TE := fun σ H Q => t σ H fun vs H1 => ∀ x dx, H1 x = none → H1 dx = none → dx ≠ x →
  sp (.ref x :: vs) (upd (upd H1 dx (.own x)) x (.ins C dx [])) (fun v H2 => v = .non ∧ Q (.ref x) H2) (E σ)
theorem pe_makeS (M : Mk X.K C f) (F : FnOk X.prog X.w X.K X.mg X.base CX k f fd ps sp) (hr : Room (k + 1) X.A) (hg : Gl X x) (hm : X.mg x = some (.ref C)) (hb : Binds X.K fd ps []) (hx : ∀ σ, PassesAt CX X σ (E σ)) (ha : PA X (e :: es) t)
    (h3 : (x == ("__debug__" : Str)) = false := by decide) (h4 : starEach (e :: es) X.env = (false, eval e X.env) :: starEach es X.env := by rfl) (h5 : (backTo pos (starEach es X.env)).any (·.1) = false := by rfl) :
    PE X (.Call (.Name x p) (e :: es) [] pos) (tMakeS C sp E t) := by
  constructor
  intro pins s σ H Q I h
  apply wpAny_Call_Name_kw (ld_glob I hg hm _ h3)
  apply PySem.W.callWith_K (h₀ := X.base) I.ok.mod.kin M.kp _ h4 h5
  refine thn (ha.run pos pins s σ H _ I h) fun us s1 ⟨vs, H1, I1, r, q⟩ => ⟨I1.kIn, ?_⟩
  exact born M F hr (hx σ) I1 (al := fun y => .ref y :: vs) (bl := fun y => .ref y :: us) (fun _ => .cons rfl r) (fun y t l i => by simpa using hb t (.ref y :: us) i (by simpa using l)) q
end

end
theorem look1 (f : Str) (v : V) : List.lookup f [(f, v)] = some v := by simp [List.lookup]
theorem Given.same {H H' : Hp} {ks : List (Str × V)} {rs : List (Int × V)} {nx : Str → List V} {rd : Int → RdP} (s : Same H H') (h : Given H ks rs nx rd) : Given H' ks rs nx rd :=
  ⟨h.nd, h.len, fun p hp => (h.mkk p hp).same s, h.up, h.num, fun p hp => (h.rdv p hp).same s, h.k60, h.r60⟩
/-- told = (w, e.f) -/
def t_sui (C : Addr) (w f : Str) : Addr → Value → Option Addr → TS := fun a cls d => tAsg (tTup (tCons (tC (.str w)) (tCons (tXf a cls d C f (tVar 3)) tNil))) (gName 2)
def spTold : Sp := spDue
theorem ok_law_told (ev : Env P K mg) : FnOk P w K mg base CX0 6 ev.f_law_told ev.d_law_told p_law_told spTold := by
  refine ev.A_law_told.F.ok sc_law_told (fun vs H Q E h => ?_) (fun cdv A outer s H vs Q E hr h => ?_)
  · obtain ⟨d1, d2, ks, rs, nx, rd, rfl, _⟩ := h
    rfl
  obtain ⟨d1, d2, ks, rs, nx, rd, rfl, h1, h2, hG, q⟩ := h
  have hu := hu_of hr
  obtain ⟨_, _, _, _, _, _, _, _, XBadName⟩ := ev.X_BadName
  obtain ⟨_, _, _, _, _, _, _, _, XBadNumber⟩ := ev.X_BadNumber
  obtain ⟨_, _, _, _, _, _, _, _, XNoMark⟩ := ev.X_NoMark
  obtain ⟨_, _, _, _, _, _, _, _, XBadReading⟩ := ev.X_BadReading
  refine ⟨_, pss_cons (ps_set (i := 2) sc_law_told.nd rfl (Or.inl rfl) pe_non)
    (pss_cons (ps_try_manyAs (i := 3) (n := "e") (tb := fun W => tDrop (tMakeS ev.C_Survey (spInit ev.C_Survey (css ev)) (WE W) (tCons (tVar 0) (tCons (tVar 1) tNil)))) (l := [(.ref ev.C_BadName, t_sui ev.C_BadName "name" "name"), (.ref ev.C_BadNumber, t_sui ev.C_BadNumber "number" "number"), (.ref ev.C_NoMark, t_sui ev.C_NoMark "nomark" "name"), (.ref ev.C_BadReading, t_sui ev.C_BadReading "reading" "number")]) (Wout := fun _ _ _ _ => False) rfl rfl sc_law_told.nd rfl rfl takes0
      (fun W pn xe tk po => pss_one (ps_expr (pe_makeS ev.M_Survey (ok_Survey___init__ ev) (hr.mono (by decide)) (by rfl) ev.g_Survey ev.A_Survey___init__.b (fun σ => passAt tk σ) (pa_cons (pv 0) (pa_cons (pv 1) pa_nil)))))
      (.cons ⟨rfl, by decide, Or.inl XBadName.2.1.gC⟩ (fun a oe cls d pn hz hf => pss_one (ps_set (i := 2) sc_law_told.nd rfl (Or.inl rfl) (pe_tup (pa_cons pe_str (pa_cons (pe_xf (C := ev.C_BadName) XBadName.2.2.1 XBadName.2.2.2.1 hz hf (pv 3)) pa_nil))))) (.cons ⟨rfl, by decide, Or.inl XBadNumber.2.1.gC⟩ (fun a oe cls d pn hz hf => pss_one (ps_set (i := 2) sc_law_told.nd rfl (Or.inl rfl) (pe_tup (pa_cons pe_str (pa_cons (pe_xf (C := ev.C_BadNumber) XBadNumber.2.2.1 XBadNumber.2.2.2.1 hz hf (pv 3)) pa_nil))))) (.cons ⟨rfl, by decide, Or.inl XNoMark.2.1.gC⟩ (fun a oe cls d pn hz hf => pss_one (ps_set (i := 2) sc_law_told.nd rfl (Or.inl rfl) (pe_tup (pa_cons pe_str (pa_cons (pe_xf (C := ev.C_NoMark) XNoMark.2.2.1 XNoMark.2.2.2.1 hz hf (pv 3)) pa_nil))))) (.cons ⟨rfl, by decide, Or.inl XBadReading.2.1.gC⟩ (fun a oe cls d pn hz hf => pss_one (ps_set (i := 2) sc_law_told.nd rfl (Or.inl rfl) (pe_tup (pa_cons pe_str (pa_cons (pe_xf (C := ev.C_BadReading) XBadReading.2.2.1 XBadReading.2.2.2.1 hz hf (pv 3)) pa_nil))))) .nil)))))
    (pss_one (ps_ret (pv 2)))), ?_⟩
  refine seq_c ?_
  refine ⟨_, rfl, _, rfl, fun p dx np ndx ne => ?_⟩
  have sM : Same H (upd (upd H dx (.own p)) p (.ins ev.C_Survey dx [])) := (same_upd ndx).trans (same_upd (by rw [upd_ne (Ne.symm ne)]; exact np))
  refine ⟨p, dx, d1, d2, ks, rs, nx, rd, rfl, upd_same, sM _ _ h1, sM _ _ h2, hG.same sM, fun ys pm sr se H' f => ⟨rfl, _, rfl, (q ys pm sr).1 se H' fun a o ha => f a o (sM _ _ ha) (ne_of_none ha np)⟩, fun ys e pm sr se H' d s' nd => ?_⟩
  have q2 := (q ys pm sr).2 e se
  cases e with
    | name z =>
      refine ⟨true, ev.xm_BadName_BadName, fun _ a na => ?_, fun z => Bool.noConfusion z⟩
      refine ⟨_, rfl, rfl, rfl, d, _, _, rfl, upd_same, look1 _ _, two, fun tp ntp => ?_⟩
      exact ⟨_, rfl, q2 tp _ ((sM.trans s').trans ((same_upd nd).trans (same_upd ntp))) upd_same⟩
    | num z =>
      refine ⟨false, ev.xm_BadNumber_BadName, fun z => Bool.noConfusion z, fun _ => ⟨true, ev.xm_BadNumber_BadNumber, fun _ a na => ?_, fun z => Bool.noConfusion z⟩⟩
      refine ⟨_, rfl, rfl, rfl, d, _, _, rfl, upd_same, look1 _ _, two, fun tp ntp => ?_⟩
      exact ⟨_, rfl, q2 tp _ ((sM.trans s').trans ((same_upd nd).trans (same_upd ntp))) upd_same⟩
    | mark z =>
      refine ⟨false, ev.xm_NoMark_BadName, fun z => Bool.noConfusion z, fun _ => ⟨false, ev.xm_NoMark_BadNumber, fun z => Bool.noConfusion z, fun _ => ⟨true, ev.xm_NoMark_NoMark, fun _ a na => ?_, fun z => Bool.noConfusion z⟩⟩⟩
      refine ⟨_, rfl, rfl, rfl, d, _, _, rfl, upd_same, look1 _ _, two, fun tp ntp => ?_⟩
      exact ⟨_, rfl, q2 tp _ ((sM.trans s').trans ((same_upd nd).trans (same_upd ntp))) upd_same⟩
    | rd z =>
      refine ⟨false, ev.xm_BadReading_BadName, fun z => Bool.noConfusion z, fun _ => ⟨false, ev.xm_BadReading_BadNumber, fun z => Bool.noConfusion z, fun _ => ⟨false, ev.xm_BadReading_NoMark, fun z => Bool.noConfusion z, fun _ => ⟨true, ev.xm_BadReading_BadReading, fun _ a na => ?_, fun z => Bool.noConfusion z⟩⟩⟩⟩
      refine ⟨_, rfl, rfl, rfl, d, _, _, rfl, upd_same, look1 _ _, two, fun tp ntp => ?_⟩
      exact ⟨_, rfl, q2 tp _ ((sM.trans s').trans ((same_upd nd).trans (same_upd ntp))) upd_same⟩


theorem putK_mem {κ : Type} [DecidableEq κ] {ks : List (κ × V)} {z : κ} {v : V} {p : κ × V} (h : p ∈ putK ks z v) : p = (z, v) ∨ (p ∈ ks ∧ p.1 ≠ z) := by
  unfold putK at h
  split at h
  · obtain ⟨q, hq, rfl⟩ := List.mem_map.mp h
    by_cases e : q.1 = z
    · rw [if_pos e]
      exact .inl (by rw [← e])
    · rw [if_neg e]
      exact .inr ⟨hq, e⟩
  · rename_i hn
    rcases List.mem_append.mp h with h | h
    · refine .inr ⟨h, fun e => hn ?_⟩
      exact List.any_eq_true.mpr ⟨p, h, decide_eq_true e⟩
    · exact .inl (List.mem_singleton.mp h)
theorem any_key {κ : Type} [DecidableEq κ] {ks : List (κ × V)} {z : κ} : (ks.any fun kv => decide (kv.1 = z)) = true ↔ z ∈ ks.map (·.1) := by
  rw [List.any_eq_true, List.mem_map]
  constructor
  · rintro ⟨p, hp, e⟩
    exact ⟨p, hp, of_decide_eq_true e⟩
  · rintro ⟨p, hp, e⟩
    exact ⟨p, hp, decide_eq_true e⟩
theorem putK_old {κ : Type} [DecidableEq κ] {ks : List (κ × V)} {z : κ} {v : V} (h : z ∈ ks.map (·.1)) : (putK ks z v).map (·.1) = ks.map (·.1) := by
  unfold putK
  rw [if_pos (any_key.mpr h), List.map_map]
  refine List.map_congr_left fun p _ => ?_
  show (if p.1 = z then (p.1, v) else p).1 = p.1
  split <;> rfl
theorem putK_fresh {κ : Type} [DecidableEq κ] {ks : List (κ × V)} {z : κ} {v : V} (h : z ∉ ks.map (·.1)) : putK ks z v = ks ++ [(z, v)] := by
  unfold putK
  rw [if_neg (fun w => h (any_key.mp w))]
theorem mkv_put (ks : List (Str × V)) (z : Str) (v : V) : putK (mkv ks) (Sum.inr z : Key) v = mkv (putK ks z v) := by
  by_cases h : z ∈ ks.map (·.1)
  · have h' : (Sum.inr z : Key) ∈ (mkv ks).map (·.1) := by
      rw [mkv_keys]
      exact List.mem_map.mpr ⟨z, h, rfl⟩
    unfold putK
    rw [if_pos (any_key.mpr h), if_pos (any_key.mpr h')]
    unfold mkv
    rw [List.map_map, List.map_map]
    refine List.map_congr_left fun p _ => ?_
    show (if (Sum.inr p.1 : Key) = Sum.inr z then ((Sum.inr p.1 : Key), v) else (Sum.inr p.1, p.2)) = ((Sum.inr (if p.1 = z then (p.1, v) else p).1 : Key), (if p.1 = z then (p.1, v) else p).2)
    by_cases e : p.1 = z
    · rw [if_pos (congrArg _ e), if_pos e]
    · rw [if_neg (fun w => e (Sum.inr.inj w)), if_neg e]
  · have h' : (Sum.inr z : Key) ∉ (mkv ks).map (·.1) := by
      rw [mkv_keys]
      intro w
      obtain ⟨y, hy, e⟩ := List.mem_map.mp w
      rw [Sum.inr.inj e] at hy
      exact h hy
    rw [putK_fresh h, putK_fresh h']
    unfold mkv
    rw [List.map_append]
    rfl
theorem rdv_put (rs : List (Int × V)) (n : Int) (v : V) (h : n ∈ rs.map (·.1)) : putK (rdv rs) (Sum.inl n : Key) v = rdv (putK rs n v) := by
  have h' : (Sum.inl n : Key) ∈ (rdv rs).map (·.1) := by
    rw [rdv_keys]
    exact List.mem_map.mpr ⟨n, h, rfl⟩
  unfold putK
  rw [if_pos (any_key.mpr h), if_pos (any_key.mpr h')]
  unfold rdv
  rw [List.map_map, List.map_map]
  refine List.map_congr_left fun p _ => ?_
  show (if (Sum.inl p.1 : Key) = Sum.inl n then ((Sum.inl p.1 : Key), v) else (Sum.inl p.1, p.2)) = ((Sum.inl (if p.1 = n then (p.1, v) else p).1 : Key), (if p.1 = n then (p.1, v) else p).2)
  by_cases e : p.1 = n
  · rw [if_pos (congrArg _ e), if_pos e]
  · rw [if_neg (fun w => e (Sum.inl.inj w)), if_neg e]
theorem putK_len {κ : Type} [DecidableEq κ] {ks : List (κ × V)} {z : κ} {v : V} : (putK ks z v).length ≤ ks.length + 1 ∧ ks.length ≤ (putK ks z v).length := by
  by_cases h : z ∈ ks.map (·.1)
  · have e := congrArg List.length (putK_old (v := v) h)
    rw [List.length_map, List.length_map] at e
    omega
  · rw [putK_fresh h, List.length_append]
    simp
theorem MkV.mono {H H' : Hp} {v : V} {xs : List V} (s : Tups H H') (h : MkV H v xs) : MkV H' v xs := by
  rcases h with h | ⟨a, x, y, rfl, ha, r⟩
  · exact .inl h
  · exact .inr ⟨a, x, y, rfl, s _ _ ha, r⟩
theorem RdV.mono {H H' : Hp} {v : V} {one tw : Str} {ac hi wt : V} (s : Tups H H') (h : RdV H v one tw ac hi wt) : RdV H' v one tw ac hi wt := by
  obtain ⟨t, rfl, ht, r⟩ := h
  exact ⟨t, rfl, s _ _ ht, r⟩
theorem Given.mono {H H' : Hp} {ks : List (Str × V)} {rs : List (Int × V)} {nx : Str → List V} {rd : Int → RdP} (s : Tups H H') (h : Given H ks rs nx rd) : Given H' ks rs nx rd :=
  ⟨h.nd, h.len, fun p hp => (h.mkk p hp).mono s, h.up, h.num, fun p hp => (h.rdv p hp).mono s, h.k60, h.r60⟩
theorem Given.putM {H : Hp} {ks : List (Str × V)} {rs : List (Int × V)} {nx : Str → List V} {rd : Int → RdP} (h : Given H ks rs nx rd) {z : Str} {v : V} {xs : List V} (hv : MkV H v xs) (hz : z.cps.toList.length ≤ 900 ∧ okV (.str z)) (k60 : ks.length + 1 ≤ 60) :
    Given H (putK ks z v) rs (fun y => if y = z then xs else nx y) rd := by
  have keys : ∀ y, y ∈ (putK ks z v).map (·.1) → y = z ∨ y ∈ ks.map (·.1) := fun y hy => by
    obtain ⟨p, hp, rfl⟩ := List.mem_map.mp hy
    rcases putK_mem hp with rfl | ⟨hp, _⟩
    · exact .inl rfl
    · exact .inr (List.mem_map.mpr ⟨p, hp, rfl⟩)
  refine ⟨?_, fun y hy => ?_, fun p hp => ?_, h.up, h.num, h.rdv, ?_, h.r60⟩
  · by_cases hm : z ∈ ks.map (·.1)
    · rw [putK_old hm]
      exact h.nd
    · rw [putK_fresh hm, List.map_append]
      refine List.nodup_append.mpr ⟨h.nd, List.nodup_cons.mpr ⟨List.not_mem_nil, List.nodup_nil⟩, fun a ha b hb e => hm ?_⟩
      have hb' : b = z := by simpa using hb
      rw [← hb', ← e]
      exact ha
  · rcases keys y hy with rfl | hy
    · exact hz
    · exact h.len y hy
  · rcases putK_mem hp with rfl | ⟨hp, ne⟩
    · show MkV H v (if z = z then xs else nx z)
      rw [if_pos rfl]
      exact hv
    · show MkV H p.2 (if p.1 = z then xs else nx p.1)
      rw [if_neg ne]
      exact h.mkk p hp
  · exact Nat.le_trans putK_len.1 k60
theorem Given.putR {H : Hp} {ks : List (Str × V)} {rs : List (Int × V)} {nx : Str → List V} {rd : Int → RdP} (h : Given H ks rs nx rd) {n : Int} {v : V} {r : RdP} (hv : RdV H v r.one r.tw r.ac r.hi r.wt) (hn : n ∈ rs.map (·.1)) :
    Given H ks (putK rs n v) nx (fun m => if m = n then r else rd m) := by
  refine ⟨h.nd, h.len, h.mkk, ?_, ?_, fun p hp => ?_, h.k60, ?_⟩
  · rw [putK_old hn]
    exact h.up
  · rw [putK_old hn]
    exact h.num
  · rcases putK_mem hp with rfl | ⟨hp, ne⟩
    · show RdV H v (if n = n then r else rd n).one (if n = n then r else rd n).tw (if n = n then r else rd n).ac (if n = n then r else rd n).hi (if n = n then r else rd n).wt
      rw [if_pos rfl]
      exact hv
    · show RdV H p.2 (if p.1 = n then r else rd p.1).one (if p.1 = n then r else rd p.1).tw (if p.1 = n then r else rd p.1).ac (if p.1 = n then r else rd p.1).hi (if p.1 = n then r else rd p.1).wt
      rw [if_neg ne]
      exact h.rdv p hp
  · have e := congrArg List.length (putK_old (v := v) hn)
    rw [List.length_map, List.length_map] at e
    rw [e]
    exact h.r60
theorem dpInts {H : Hp} : ∀ ns : List Int, DpAll K H (ns.map V.int) (ns.map PyData.int)
  | [] => .nil
  | n :: r => .cons (.int n) (dpInts r)
theorem shpInts (ns : List Int) : SeqAt.shaped (.list (ns.map PyData.int)) = true := by
  have c : ∀ l : List Int, PyData.canLayAll0 (l.map PyData.int) = true := fun l => by
    induction l with
    | nil => rfl
    | cons x r ih =>
      show (PyData.canLay0 (.int x) && PyData.canLayAll0 (r.map PyData.int)) = true
      rw [ih]
      rfl
  unfold SeqAt.shaped
  rw [show PyData.canLay0 (.list (ns.map PyData.int)) = true from c ns, Bool.true_and]
  apply decide_eq_true
  have d : ∀ l : List Int, PyData.depthAll (l.map PyData.int) = 0 := fun l => by
    induction l with
    | nil => rfl
    | cons x r ih =>
      show max (PyData.depth (.int x)) (PyData.depthAll (r.map PyData.int)) = 0
      rw [ih]
      rfl
  show PyData.depthAll (ns.map PyData.int) + 1 ≤ 64
  rw [d ns]
  decide
/-- a row of readings -/
def RowAt (H : Hp) (l : Addr) (xs : List V) : Prop := H l = some (.lst xs) ∧ ∀ v ∈ xs, ∃ r : RdP, RdV H v r.one r.tw r.ac r.hi r.wt
theorem five : 5 ≤ sizeLine := by decide
theorem RowAt.kept {H H' : Hp} {b c l : Addr} {xs : List V} (hB : Bag H b c) (k : Kept b c H H') (lb : l ≠ b) (lc : l ≠ c) (h : RowAt H l xs) : RowAt H' l xs :=
  ⟨k _ _ h.1 lb lc, fun v hv => (h.2 v hv).elim fun r hr => ⟨r, hr.mono (tups_kept hB k)⟩⟩
theorem row_app {H0 H : Hp} {b c l t : Addr} {xs : List V} {one tw : Str} {ac hi wt : V} (hB : Bag H b c) (kp : Kept b c H0 H) (nl : H0 l = none) (lb : l ≠ b) (lc : l ≠ c) (hr : RowAt H l xs) (nt : H t = none)
    (na : numOk ac) (nh : numOk hi) (nw : numOk wt) (oo : okV (.str one)) (ot : okV (.str tw)) :
    (upd H t (.tup [.str one, .str tw, ac, hi, wt])) l = some (.lst xs) ∧ Bag (upd (upd H t (.tup [.str one, .str tw, ac, hi, wt])) l (.lst (xs ++ [.ref t]))) b c ∧ Kept b c H0 (upd (upd H t (.tup [.str one, .str tw, ac, hi, wt])) l (.lst (xs ++ [.ref t]))) ∧
      RowAt (upd (upd H t (.tup [.str one, .str tw, ac, hi, wt])) l (.lst (xs ++ [.ref t]))) l (xs ++ [.ref t]) := by
  have lt : l ≠ t := ne_of_none hr.1 nt
  have e1 : (upd H t (.tup [.str one, .str tw, ac, hi, wt])) l = some (.lst xs) := by rw [upd_ne lt]; exact hr.1
  have et : (upd (upd H t (.tup [.str one, .str tw, ac, hi, wt])) l (.lst (xs ++ [.ref t]))) t = some (.tup [.str one, .str tw, ac, hi, wt]) := by rw [upd_ne (Ne.symm lt), upd_same]
  have tu : Tups H (upd (upd H t (.tup [.str one, .str tw, ac, hi, wt])) l (.lst (xs ++ [.ref t]))) := (tups_same (same_upd nt)).trans (tups_upd e1 (fun xs z => nomatch z))
  refine ⟨e1, bag_upd (hB.upd nt) lb lc, fun a o ha nb nc => ?_, upd_same, fun v hv => ?_⟩
  · have hH := kp _ _ ha nb nc
    rw [upd_ne (ne_of_none ha nl), upd_ne (ne_of_none hH nt)]
    exact hH
  · rcases List.mem_append.mp hv with hv | hv
    · obtain ⟨r, hr'⟩ := hr.2 v hv
      exact ⟨r, hr'.mono tu⟩
    · rw [List.mem_singleton.mp hv]
      exact ⟨⟨one, tw, ac, hi, wt⟩, t, rfl, et, na, nh, nw, oo, ot⟩
/-- the rest of a bend: the sixth row, one of the six put -/
theorem bend_tail {b c d1 d2 l1 l2 l : Addr} {ks : List (Str × V)} {rs : List (Int × V)} {nx : Str → List V} {rd : Int → RdP} {r n : Int} {one tw : Str} {ac hi wt bad : V} {x0 x1 x2 x3 x4 : V} {H Hx : Hp} {Q : VK}
    (hB0 : Bag H b c) (h1 : H d1 = some (.dK (mkv ks))) (h2 : H d2 = some (.dK (rdv rs))) (n12 : d1 ≠ d2) (d1b : d1 ≠ b ∧ d1 ≠ c) (d2b : d2 ≠ b ∧ d2 ≠ c) (hG : Given H ks rs nx rd) (k1 : 1 ≤ ks.length) (hn : n ∈ rs.map (·.1))
    (hB : Bag Hx b c) (kp : Kept b c H Hx) (nl0 : H l = none) (lb : l ≠ b) (lc : l ≠ c) (hR : RowAt Hx l [x0, x1, x2, x3, x4]) (na : numOk ac) (nh : numOk hi) (nbad : numOk bad) (oo : okV (.str one)) (ot : okV (.str tw))
    (q : ∀ (ks' : List (Str × V)) (rs' : List (Int × V)) (nx' : Str → List V) (rd' : Int → RdP) (H' : Hp), Bag H' b c → H' d1 = some (.dK (mkv ks')) → H' d2 = some (.dK (rdv rs')) → Given H' ks' rs' nx' rd' → 1 ≤ ks'.length → ks'.length ≤ ks.length + 1 →
      (∀ a o, H a = some o → a ≠ b → a ≠ c → a ≠ d1 → a ≠ d2 → H' a = some o) → Q .non H') :
    tSeq (tDrop (tBM K "list" rAppend (tVar 13) (tCons (tTup (tCons (tVar 8) (tCons (tVar 9) (tCons (tVar 10) (tCons (tVar 11) (tCons (tCall spAny [] E0 (tCons (tVar 0) (tCons (tLst (tCons (tC (V.int 0)) (tCons (tC (V.int 10)) (tCons (tVar 6) (tCons (tOp (rI0 fun i j => V.int (i - j)) (tC (V.int 0)) (tC (V.int 1))) tNil))))) tNil))) tNil)))))) tNil)))
      (sDPut (tVar 2) (tVar 7) (tOp (rIxL K) (tVar 13) (tCall spDraw [] E0 (tCons (tVar 0) (tCons (tC (V.int 6)) tNil)))))
      { nx := fun _ H' => Q V.non H', rt := Q }
      [some (.ref b), some (.ref d1), some (.ref d2), some (.int r), some (.ref l1), some (.ref l2), some bad, some (.int n), some (.str one), some (.str tw), some ac, some hi, some wt, some (.ref l)] Hx := by
  refine seq_drop ⟨_, rfl, .inl ⟨rfl, _, SqL.of hR.1⟩, _, rfl, _, rfl, _, rfl, _, rfl, _, rfl, _, rfl, _, _, rfl, rfl, (by show 4 ≤ sizeLine; decide), fun la nla => ?_⟩
  obtain ⟨lab, lac⟩ := hB.off nla
  refine ⟨b, c, la, _, rfl, hB.upd nla, lab, lac, upd_same, (fun z => nomatch z), (by show 4 ≤ 1000; decide), fun v H2 hv hB2 ex2 => ?_⟩
  have nv : numOk v := by
    simp only [List.mem_cons, List.not_mem_nil, or_false] at hv
    rcases hv with rfl | rfl | rfl | rfl
    · exact .inl ⟨_, rfl, by decide⟩
    · exact .inl ⟨_, rfl, by decide⟩
    · exact nbad
    · exact .inl ⟨_, rfl, by decide⟩
  have k2 : Kept b c Hx H2 := (kept_same (same_upd nla)).trans ex2.kept
  have R2 := hR.kept hB k2 lb lc
  refine ⟨five, fun t5 nt5 => ?_⟩
  obtain ⟨e5, hB6, kp6, R6⟩ := row_app hB2 (kp.trans k2) nl0 lb lc R2 nt5 na nh nv oo ot
  refine ⟨l, _, _, rfl, rfl, e5, (by show 5 < sizeLine; decide), ?_⟩
  dsimp only [List.cons_append, List.nil_append] at R6 hB6 kp6 ⊢
  generalize upd (upd _ t5 _) l _ = H6 at R6 hB6 kp6 ⊢
  refine ⟨_, rfl, _, rfl, b, c, 6, rfl, hB6, by decide, by decide, fun rr H7 r0 r1 hB7 ex7 => ?_⟩
  have kp7 := kp6.trans ex7.kept
  have R7 := R6.kept hB6 ex7.kept lb lc
  obtain ⟨j, rfl⟩ := Int.eq_ofNat_of_zero_le r0
  have jl : j < 6 := by omega
  obtain ⟨v9, hv9⟩ : ∃ v9, ([x0, x1, x2, x3, x4, V.ref t5] : List V)[j]? = some v9 := ⟨_, List.getElem?_eq_getElem (by simpa using jl)⟩
  obtain ⟨rp, hrp⟩ := R7.2 v9 (List.mem_of_getElem? hv9)
  have h27 := kp7 _ _ h2 d2b.1 d2b.2
  have sl : (rdv rs).length < sizeLine := by
    unfold rdv
    rw [List.length_map]
    have := hG.r60
    exact small1000 (by omega)
  refine ⟨l, _, _, v9, rfl, rfl, SqL.of R7.1, atI_nat (j := j) hv9, _, rfl, _, rfl, d2, _, rfl, DPut.k (k := Sum.inl n) h27 sl, ?_⟩
  have tu : Tups H7 (upd H7 d2 (.dK (putK (rdv rs) (Sum.inl n : Key) v9))) := tups_upd h27 (fun xs z => nomatch z)
  have hG7 := hG.mono (tups_kept hB0 kp7)
  refine q ks (putK rs n v9) nx _ _ (bag_upd hB7 d2b.1 d2b.2) ?_ ?_ ((hG7.putR hrp hn).mono tu) k1 (Nat.le_succ _) fun a o ha nb nc m1 m2 => ?_
  · rw [upd_ne n12]
    exact kp7 _ _ h1 d1b.1 d1b.2
  · rw [upd_same, rdv_put _ _ _ hn]
  · rw [upd_ne m2]
    exact kp7 _ _ ha nb nc


def spBend : Sp := fun vs H Q _ => ∃ (b c d1 d2 : Addr) (ks : List (Str × V)) (rs : List (Int × V)) (nx : Str → List V) (rd : Int → RdP), vs = [.ref b, .ref d1, .ref d2] ∧ Bag H b c ∧ H d1 = some (.dK (mkv ks)) ∧ H d2 = some (.dK (rdv rs)) ∧ d1 ≠ d2 ∧ Given H ks rs nx rd ∧ 1 ≤ ks.length ∧ ks.length + 1 ≤ 60 ∧
  ∀ (ks' : List (Str × V)) (rs' : List (Int × V)) (nx' : Str → List V) (rd' : Int → RdP) (H' : Hp), Bag H' b c → H' d1 = some (.dK (mkv ks')) → H' d2 = some (.dK (rdv rs')) → Given H' ks' rs' nx' rd' → 1 ≤ ks'.length → ks'.length ≤ ks.length + 1 →
    (∀ a o, H a = some o → a ≠ b → a ≠ c → a ≠ d1 → a ≠ d2 → H' a = some o) → Q .non H'
theorem ok_law_bend (ev : Env P K mg) : FnOk P w K mg base CX0 4 ev.f_law_bend ev.d_law_bend p_law_bend spBend := by
  refine ev.A_law_bend.F.ok sc_law_bend (fun vs H Q E h => ?_) (fun cdv A outer s H vs Q E hr h => ?_)
  · obtain ⟨b, c, d1, d2, ks, rs, nx, rd, rfl, _⟩ := h
    rfl
  obtain ⟨b, c, d1, d2, ks, rs, nx, rd, rfl, hB, h1, h2, n12, hG, k1, k60, q⟩ := h
  have hu := hu_of hr
  refine ⟨_, (pss_cons (ps_set (i := 3) sc_law_bend.nd rfl (Or.inl rfl) (pe_call (ok_law_draw ev) (hr.mono (by decide)) (by rfl) ev.A_law_draw.m ev.A_law_draw.F.kp ev.A_law_draw.b .nil pass0 (pa_cons (pv 0) (pa_cons pe_int pa_nil))))
    (pss_cons (ps_set (i := 4) sc_law_bend.nd rfl (Or.inl rfl) (pe_callB (call_srtK rfl) (by rfl) ev.B.sorted_ (by decide +kernel) (pa_cons (pv 1) pa_nil)))
    (pss_cons (ps_set (i := 5) sc_law_bend.nd rfl (Or.inl rfl) (pe_callB (call_srtK rfl) (by rfl) ev.B.sorted_ (by decide +kernel) (pa_cons (pv 2) pa_nil)))
    (pss_one (ps_if (pt_cmpR op_eq (pv 3) pe_int (nomark _))
    (pss_one (ps_dput hu (pv 1) (pe_call (ok_law_odd_name ev) (hr.mono (by decide)) (by rfl) ev.A_law_odd_name.m ev.A_law_odd_name.F.kp ev.A_law_odd_name.b .nil pass0 (pa_cons (pv 0) pa_nil)) (pe_call (ok_law_any ev) (hr.mono (by decide)) (by rfl) ev.A_law_any.m ev.A_law_any.F.kp ev.A_law_any.b .nil pass0 (pa_cons (pv 0) (pa_cons (pe_lst (pa_cons pe_non (pa_cons (pe_tup (pa_cons pe_int (pa_cons (pe_call (ok_law_bad_number ev) (hr.mono (by decide)) (by rfl) ev.A_law_bad_number.m ev.A_law_bad_number.F.kp ev.A_law_bad_number.b .nil pass0 (pa_cons (pv 0) pa_nil)) pa_nil))) pa_nil))) pa_nil))) rfl)) (pss_one (ps_if (pt_cmpR op_eq (pv 3) pe_int (nomark _))
    (pss_cons (ps_set (i := 6) sc_law_bend.nd rfl (Or.inl rfl) (pe_call (ok_law_bad_number ev) (hr.mono (by decide)) (by rfl) ev.A_law_bad_number.m ev.A_law_bad_number.F.kp ev.A_law_bad_number.b .nil pass0 (pa_cons (pv 0) pa_nil)))
    (pss_one (ps_dput hu (pv 1) (pe_call (ok_law_any ev) (hr.mono (by decide)) (by rfl) ev.A_law_any.m ev.A_law_any.F.kp ev.A_law_any.b .nil pass0 (pa_cons (pv 0) (pa_cons (pv 4) pa_nil))) (pe_call (ok_law_any ev) (hr.mono (by decide)) (by rfl) ev.A_law_any.m ev.A_law_any.F.kp ev.A_law_any.b .nil pass0 (pa_cons (pv 0) (pa_cons (pe_lst (pa_cons (pe_tup (pa_cons (pv 6) (pa_cons pe_int pa_nil))) (pa_cons (pe_tup (pa_cons pe_int (pa_cons (pv 6) pa_nil))) pa_nil))) pa_nil))) rfl))) (pss_one (ps_if (pt_cmpR (op_neD hr.units) (pv 5) (pe_lst pa_nil) (nomark _))
    (pss_cons (ps_set (i := 7) sc_law_bend.nd rfl (Or.inl rfl) (pe_call (ok_law_any ev) (hr.mono (by decide)) (by rfl) ev.A_law_any.m ev.A_law_any.F.kp ev.A_law_any.b .nil pass0 (pa_cons (pv 0) (pa_cons (pv 5) pa_nil))))
    (pss_cons (ps_asg (pe_dget hu (pv 2) (pv 7) (fun _ _ => rfl)) (pg_tup rfl (pgs_cons (pg_name (i := 8) sc_law_bend.nd rfl (Or.inl rfl)) (pgs_cons (pg_name (i := 9) sc_law_bend.nd rfl (Or.inl rfl)) (pgs_cons (pg_name (i := 10) sc_law_bend.nd rfl (Or.inl rfl)) (pgs_cons (pg_name (i := 11) sc_law_bend.nd rfl (Or.inl rfl)) (pgs_cons (pg_name (i := 12) sc_law_bend.nd rfl (Or.inl rfl)) pgs_nil)))))))
    (pss_cons (ps_set (i := 6) sc_law_bend.nd rfl (Or.inl rfl) (pe_call (ok_law_bad_number ev) (hr.mono (by decide)) (by rfl) ev.A_law_bad_number.m ev.A_law_bad_number.F.kp ev.A_law_bad_number.b .nil pass0 (pa_cons (pv 0) pa_nil)))
    (pss_cons (ps_set (i := 13) sc_law_bend.nd rfl (Or.inl rfl) (pe_lst (pa_cons (pe_tup (pa_cons (pv 8) (pa_cons pe_str (pa_cons (pv 10) (pa_cons (pv 11) (pa_cons (pv 12) pa_nil)))))) pa_nil)))
    (pss_cons (ps_expr (pe_bm PySem.F.plainAttrs_list PySem.F.slot_list_append PySem.F.type_list_append mt_append (pv 13) (pa_cons (pe_tup (pa_cons pe_str (pa_cons (pv 9) (pa_cons (pv 10) (pa_cons (pv 11) (pa_cons pe_int pa_nil)))))) pa_nil)))
    (pss_cons (ps_expr (pe_bm PySem.F.plainAttrs_list PySem.F.slot_list_append PySem.F.type_list_append mt_append (pv 13) (pa_cons (pe_tup (pa_cons (pv 8) (pa_cons (pv 8) (pa_cons (pv 6) (pa_cons (pv 11) (pa_cons (pv 12) pa_nil)))))) pa_nil)))
    (pss_cons (ps_expr (pe_bm PySem.F.plainAttrs_list PySem.F.slot_list_append PySem.F.type_list_append mt_append (pv 13) (pa_cons (pe_tup (pa_cons (pv 8) (pa_cons (pv 9) (pa_cons (pv 6) (pa_cons (pv 11) (pa_cons pe_int pa_nil)))))) pa_nil)))
    (pss_cons (ps_expr (pe_bm PySem.F.plainAttrs_list PySem.F.slot_list_append PySem.F.type_list_append mt_append (pv 13) (pa_cons (pe_tup (pa_cons (pv 8) (pa_cons (pv 9) (pa_cons (pv 10) (pa_cons (pv 6) (pa_cons (pv 12) pa_nil)))))) pa_nil)))
    (pss_cons (ps_expr (pe_bm PySem.F.plainAttrs_list PySem.F.slot_list_append PySem.F.type_list_append mt_append (pv 13) (pa_cons (pe_tup (pa_cons (pv 8) (pa_cons (pv 9) (pa_cons (pv 10) (pa_cons (pv 11) (pa_cons (pe_call (ok_law_any ev) (hr.mono (by decide)) (by rfl) ev.A_law_any.m ev.A_law_any.F.kp ev.A_law_any.b .nil pass0 (pa_cons (pv 0) (pa_cons (pe_lst (pa_cons pe_int (pa_cons pe_int (pa_cons (pv 6) (pa_cons (pe_op op_sub pe_int pe_int) pa_nil))))) pa_nil))) pa_nil)))))) pa_nil)))
    (pss_one (ps_dput hu (pv 2) (pv 7) (pe_ix ix_list (pv 13) (pe_call (ok_law_draw ev) (hr.mono (by decide)) (by rfl) ev.A_law_draw.m ev.A_law_draw.F.kp ev.A_law_draw.b .nil pass0 (pa_cons (pv 0) (pa_cons pe_int pa_nil))) (fun _ _ => rfl)) rfl))))))))))) pss_nil))))))))), ?_⟩
  have kn : (ks.map (·.1)).length < 64 := by rw [List.length_map]; omega
  have r60 := hG.r60
  have rn : (rs.map (·.1)).length < 64 := by rw [List.length_map]; omega
  have d1b : d1 ≠ b ∧ d1 ≠ c := by
    obtain ⟨_, ns, sl, sd, e1, e2, _⟩ := hB
    exact ⟨(fun z => by rw [z, e1] at h1; cases h1), (fun z => by rw [z, e2] at h1; cases h1)⟩
  have d2b : d2 ≠ b ∧ d2 ≠ c := by
    obtain ⟨_, ns, sl, sd, e1, e2, _⟩ := hB
    exact ⟨(fun z => by rw [z, e1] at h2; cases h2), (fun z => by rw [z, e2] at h2; cases h2)⟩
  refine seq_asg ⟨_, rfl, b, c, 7, rfl, hB, by decide, by decide, fun r H1 r0 r1 hB1 ex1 => ?_⟩
  have kp1 : Kept b c H H1 := ex1.kept
  have h11 := kp1 _ _ h1 d1b.1 d1b.2
  have h21 := kp1 _ _ h2 d2b.1 d2b.2
  have hG1 := hG.mono (tups_kept hB kp1)
  refine seq_asg ⟨_, rfl, .inl ⟨d1, _, ks.map (·.1), rfl, .inl h11, mkv_keys ks, kn, fun ys l1 pm sr nl1 => ?_⟩⟩
  have s2 : Same H1 (upd H1 l1 (.lst (ys.map V.str))) := same_upd nl1
  have hl2 : (upd H1 l1 (.lst (ys.map V.str))) l1 = some (.lst (ys.map V.str)) := upd_same
  have hB2 := hB1.upd (o := .lst (ys.map V.str)) nl1
  obtain ⟨l1b, l1c⟩ := hB1.off nl1
  generalize upd H1 l1 (.lst (ys.map V.str)) = H2 at s2 hl2 hB2
  refine seq_asg ⟨_, rfl, .inr ⟨d2, _, rs.map (·.1), rfl, .inl (s2 _ _ h21), rdv_keys rs, rn, fun ns l2 pm2 sr2 nl2 => ?_⟩⟩
  have s3 : Same H2 (upd H2 l2 (.lst (ns.map V.int))) := same_upd nl2
  have hl3 : (upd H2 l2 (.lst (ns.map V.int))) l2 = some (.lst (ns.map V.int)) := upd_same
  have hB3 := hB2.upd (o := .lst (ns.map V.int)) nl2
  obtain ⟨l2b, l2c⟩ := hB2.off nl2
  generalize upd H2 l2 (.lst (ns.map V.int)) = H3 at s3 hl3 hB3
  have kp3 : Kept b c H H3 := kp1.trans (kept_same (s2.trans s3))
  have h13 := (s2.trans s3) _ _ h11
  have h23 := (s2.trans s3) _ _ h21
  have hG3 := hG1.mono (tups_same (s2.trans s3))
  have hl13 := s3 _ _ hl2
  -- what is left to show of a mark put
  have putm : ∀ (H9 : Hp) (z : Str) (v : V) (xs : List V), Bag H9 b c → Kept b c H H9 → H9 d1 = some (.dK (mkv ks)) → MkV H9 v xs → z.cps.toList.length ≤ 900 ∧ okV (.str z) → Q .non (upd H9 d1 (.dK (putK (mkv ks) (Sum.inr z : Key) v))) := fun H9 z v xs hB9 kp9 h19 hv hz => by
    have tu : Tups H9 (upd H9 d1 (.dK (putK (mkv ks) (Sum.inr z : Key) v))) := tups_upd h19 (fun xs z => nomatch z)
    have hG9 : Given H9 ks rs nx rd := hG.mono (tups_kept hB kp9)
    refine q (putK ks z v) rs _ rd _ (bag_upd hB9 d1b.1 d1b.2) ?_ ?_ ((hG9.putM hv hz k60).mono tu) (Nat.le_trans k1 putK_len.2) putK_len.1 fun a o ha nb nc n1 n2 => ?_
    · rw [upd_same, mkv_put]
    · rw [upd_ne (Ne.symm n12)]
      exact kp9 _ _ h2 d2b.1 d2b.2
    · rw [upd_ne n1]
      exact kp9 _ _ ha nb nc
  refine ⟨_, rfl, rfl, _, rfl, ite2 (fun _ => ?_) (fun _ => ?_)⟩
  · refine ⟨_, rfl, _, rfl, b, c, rfl, hB3, fun bad H4 nbad hB4 kp4 => ⟨two, fun tp ntp => ?_⟩⟩
    have s5 : Same H4 (upd H4 tp (.tup [.int 1, bad])) := same_upd ntp
    have ht5 : (upd H4 tp (.tup [.int 1, bad])) tp = some (.tup [.int 1, bad]) := upd_same
    have hB5 := hB4.upd (o := .tup [.int 1, bad]) ntp
    generalize upd H4 tp (.tup [.int 1, bad]) = H5 at s5 ht5 hB5
    refine ⟨two, fun l nl => ?_⟩
    obtain ⟨lb, lc⟩ := hB5.off nl
    refine ⟨b, c, l, _, rfl, hB5.upd nl, lb, lc, upd_same, (fun z => nomatch z), (by show 2 ≤ 1000; decide), fun v H6 hv hB6 ex6 => ?_⟩
    have s56 : Kept b c H5 H6 := (kept_same (same_upd nl)).trans ex6.kept
    have ht6 : H6 tp = some (.tup [.int 1, bad]) := s56 _ _ ht5 (hB5.tup ht5).1 (hB5.tup ht5).2
    have kp6 : Kept b c H H6 := kp3.trans (kp4.trans ((kept_same s5).trans s56))
    refine ⟨_, rfl, _, rfl, b, c, rfl, hB6, fun z H7 hz oz hB7 kp7 => ?_⟩
    have kp : Kept b c H H7 := kp6.trans kp7
    have h17 := kp _ _ h1 d1b.1 d1b.2
    have ht7 : H7 tp = some (.tup [.int 1, bad]) := kp7 _ _ ht6 (hB6.tup ht6).1 (hB6.tup ht6).2
    have sl : (mkv ks).length < sizeLine := by
      unfold mkv
      rw [List.length_map]
      exact small1000 (by omega)
    refine ⟨d1, _, rfl, DPut.k (k := Sum.inr z) h17 sl, ?_⟩
    simp only [List.mem_cons, List.not_mem_nil, or_false] at hv
    rcases hv with rfl | rfl
    · exact putm H7 z _ [] hB7 kp h17 (.inl ⟨rfl, rfl⟩) ⟨hz, oz⟩
    · exact putm H7 z _ [.int 1, bad] hB7 kp h17 (.inr ⟨tp, _, _, rfl, ht7, rfl, .inl ⟨1, rfl, by decide⟩, nbad⟩) ⟨hz, oz⟩
  refine ⟨_, rfl, rfl, _, rfl, ite2 (fun _ => ?_) (fun _ => ?_)⟩
  · refine seq_asg ⟨_, rfl, b, c, rfl, hB3, fun bad H4 nbad hB4 kp4 => ?_⟩
    refine ⟨_, rfl, _, rfl, two, fun t1 nt1 => ?_⟩
    have s5 : Same H4 (upd H4 t1 (.tup [bad, .int 1000])) := same_upd nt1
    have ht5 : (upd H4 t1 (.tup [bad, .int 1000])) t1 = some (.tup [bad, .int 1000]) := upd_same
    have hB5 := hB4.upd (o := .tup [bad, .int 1000]) nt1
    generalize upd H4 t1 (.tup [bad, .int 1000]) = H5 at s5 ht5 hB5
    refine ⟨_, rfl, two, fun t2 nt2 => ?_⟩
    have s6 : Same H5 (upd H5 t2 (.tup [.int 0, bad])) := same_upd nt2
    have hu6 : (upd H5 t2 (.tup [.int 0, bad])) t2 = some (.tup [.int 0, bad]) := upd_same
    have hB6 := hB5.upd (o := .tup [.int 0, bad]) nt2
    generalize upd H5 t2 (.tup [.int 0, bad]) = H6 at s6 hu6 hB6
    have ht6 := s6 _ _ ht5
    refine ⟨two, fun l nl => ?_⟩
    obtain ⟨lb, lc⟩ := hB6.off nl
    refine ⟨b, c, l, _, rfl, hB6.upd nl, lb, lc, upd_same, (fun z => nomatch z), (by show 2 ≤ 1000; decide), fun v H7 hv hB7 ex7 => ?_⟩
    have s67 : Kept b c H6 H7 := (kept_same (same_upd nl)).trans ex7.kept
    have kp37 : Kept b c H3 H7 := kp4.trans ((kept_same (s5.trans s6)).trans s67)
    have ht7 := s67 _ _ ht6 (hB6.tup ht6).1 (hB6.tup ht6).2
    have hu7 := s67 _ _ hu6 (hB6.tup hu6).1 (hB6.tup hu6).2
    have hl7 := kp37 _ _ hl13 l1b l1c
    have yl := pm.length_eq
    rw [List.length_map] at yl
    refine ⟨_, rfl, _, rfl, _, rfl, b, c, l1, _, rfl, hB7, l1b, l1c, hl7, ?_, ?_, fun kz H8 hkz hB8 ex8 => ?_⟩
    · intro e
      have e2 : ys.length = 0 := by rw [← List.length_map (f := V.str), e]; rfl
      omega
    · rw [List.length_map]
      omega
    obtain ⟨z, hz, rfl⟩ := List.mem_map.mp hkz
    have kp : Kept b c H H8 := kp3.trans (kp37.trans ex8.kept)
    have h18 := kp _ _ h1 d1b.1 d1b.2
    have ht8 := ex8.kept _ _ ht7 (hB7.tup ht7).1 (hB7.tup ht7).2
    have hu8 := ex8.kept _ _ hu7 (hB7.tup hu7).1 (hB7.tup hu7).2
    have sl : (mkv ks).length < sizeLine := by
      unfold mkv
      rw [List.length_map]
      exact small1000 (by omega)
    refine ⟨d1, _, rfl, DPut.k (k := Sum.inr z) h18 sl, ?_⟩
    have hzk := hG.len z (pm.mem_iff.mp hz)
    simp only [List.mem_cons, List.not_mem_nil, or_false] at hv
    rcases hv with rfl | rfl
    · exact putm H8 z _ [bad, .int 1000] hB8 kp h18 (.inr ⟨t1, _, _, rfl, ht8, rfl, nbad, .inl ⟨1000, rfl, by decide⟩⟩) hzk
    · exact putm H8 z _ [.int 0, bad] hB8 kp h18 (.inr ⟨t2, _, _, rfl, hu8, rfl, .inl ⟨0, rfl, by decide⟩, nbad⟩) hzk
  refine ⟨_, rfl, (by show 0 ≤ sizeLine; exact Nat.zero_le _), fun le nle => ?_⟩
  have s4 : Same H3 (upd H3 le (.lst [])) := same_upd nle
  have hle : (upd H3 le (.lst [])) le = some (.lst []) := upd_same
  have hB4 := hB3.upd (o := .lst []) nle
  generalize upd H3 le (.lst []) = H4 at s4 hle hB4
  have kp4 : Kept b c H H4 := kp3.trans (kept_same s4)
  have hl4 := s4 _ _ hl3
  refine ⟨.list (ns.map PyData.int), .list [], .lst (SqL.of hl4) (dpInts ns), .lst (SqL.of hle) .nil, shpInts ns, rfl, _, rfl, ite2 (fun e0 => ?_) (fun _ => ?_)⟩
  rotate_left
  · exact q ks rs nx rd H4 hB4 (kp4 _ _ h1 d1b.1 d1b.2) (kp4 _ _ h2 d2b.1 d2b.2) (hG.mono (tups_kept hB kp4)) k1 (Nat.le_succ _) fun a o ha nb nc _ _ => kp4 _ _ ha nb nc
  have nn : ns ≠ [] := fun z => by
    rw [z] at e0
    exact absurd e0 (by decide)
  refine seq_asg ⟨_, rfl, _, rfl, b, c, l2, _, rfl, hB4, l2b, l2c, hl4, (fun z => nn (List.map_eq_nil_iff.mp z)), ?_, fun nv H5 hnv hB5 ex5 => ?_⟩
  · rw [List.length_map, pm2.length_eq]
    omega
  obtain ⟨n, hn, rfl⟩ := List.mem_map.mp hnv
  have hnk : n ∈ rs.map (·.1) := pm2.mem_iff.mp hn
  obtain ⟨⟨n', v⟩, hv, e⟩ := List.mem_map.mp hnk
  obtain rfl : n' = n := e
  have kp5 : Kept b c H H5 := kp4.trans ex5.kept
  have h25 := kp5 _ _ h2 d2b.1 d2b.2
  have hG5 := hG.mono (tups_kept hB kp5)
  obtain ⟨t, ev', ht, na, nh, nw, oo, ot⟩ := hG5.rdv _ hv
  have ev2 : v = .ref t := ev'
  subst ev2
  have dg : DGet H5 d2 (.int n') (some (.ref t)) := by
    rw [← rdv_val (rise_nd hG.up) hv]
    exact DGet.k (k := Sum.inl n') h25
  refine ⟨_, rfl, _, rfl, d2, _, rfl, dg, t, _, rfl, SqT.of ht, rfl, _, _, rfl, _, _, rfl, _, _, rfl, _, _, rfl, _, _, rfl, rfl, ?_⟩
  have om : okV (.str "nomark") := .inl ⟨_, rfl, by decide +kernel⟩
  have n0 : numOk (.int 0) := .inl ⟨0, rfl, by decide⟩
  refine nx_u ?_
  refine seq_asg ⟨_, rfl, b, c, rfl, hB5, fun bad H6 nbad hB6 kp6' => ?_⟩
  have kp6 : Kept b c H H6 := kp5.trans kp6'
  refine seq_asg ⟨_, rfl, _, rfl, _, rfl, _, rfl, five, fun t0 nt0 => ⟨(by show 1 ≤ sizeLine; decide), fun l nl => ?_⟩⟩
  have s7 : Same H6 (upd H6 t0 (.tup [.str (rd n').one, .str "nomark", (rd n').ac, (rd n').hi, (rd n').wt])) := same_upd nt0
  have ht7 : (upd H6 t0 (.tup [.str (rd n').one, .str "nomark", (rd n').ac, (rd n').hi, (rd n').wt])) t0 = some (.tup [.str (rd n').one, .str "nomark", (rd n').ac, (rd n').hi, (rd n').wt]) := upd_same
  have hB7 := hB6.upd (o := .tup [.str (rd n').one, .str "nomark", (rd n').ac, (rd n').hi, (rd n').wt]) nt0
  generalize upd H6 t0 (.tup [.str (rd n').one, .str "nomark", (rd n').ac, (rd n').hi, (rd n').wt]) = H7 at s7 ht7 hB7 nl
  obtain ⟨lb, lc⟩ := hB7.off nl
  have kp7 : Kept b c H H7 := kp6.trans (kept_same s7)
  have R1 : RowAt (upd H7 l (.lst [.ref t0])) l [.ref t0] := ⟨upd_same, fun v hv => by
    rw [List.mem_singleton.mp hv]
    exact ⟨⟨(rd n').one, "nomark", (rd n').ac, (rd n').hi, (rd n').wt⟩, t0, rfl, same_upd nl _ _ ht7, na, nh, nw, oo, om⟩⟩
  have hB1x := hB7.upd (o := .lst [.ref t0]) nl
  have kp1x : Kept b c H (upd H7 l (.lst [.ref t0])) := kp7.trans (kept_same (same_upd nl))
  have nl0 : H l = none := by
    cases e : H l with
    | none => rfl
    | some o => rw [kp7 _ _ e lb lc] at nl; cases nl
  generalize upd H7 l (.lst [.ref t0]) = Hx1 at R1 hB1x kp1x ⊢
  refine seq_drop ⟨_, rfl, .inl ⟨rfl, _, SqL.of R1.1⟩, _, rfl, _, rfl, _, rfl, five, fun t1 nt1 => ?_⟩
  obtain ⟨e1, hB2x, kp2x, R2⟩ := row_app hB1x kp1x nl0 lb lc R1 nt1 na nh n0 om ot
  refine ⟨l, _, _, rfl, rfl, e1, (by show 1 < sizeLine; decide), ?_⟩
  dsimp only [List.cons_append, List.nil_append] at R2 hB2x kp2x ⊢
  generalize upd (upd _ t1 _) l _ = Hx2 at R2 hB2x kp2x ⊢
  refine seq_drop ⟨_, rfl, .inl ⟨rfl, _, SqL.of R2.1⟩, _, rfl, _, rfl, _, rfl, _, rfl, _, rfl, five, fun t2 nt2 => ?_⟩
  obtain ⟨e2, hB3x, kp3x, R3⟩ := row_app hB2x kp2x nl0 lb lc R2 nt2 nbad nh nw oo oo
  refine ⟨l, _, _, rfl, rfl, e2, (by show 2 < sizeLine; decide), ?_⟩
  dsimp only [List.cons_append, List.nil_append] at R3 hB3x kp3x ⊢
  generalize upd (upd _ t2 _) l _ = Hx3 at R3 hB3x kp3x ⊢
  refine seq_drop ⟨_, rfl, .inl ⟨rfl, _, SqL.of R3.1⟩, _, rfl, _, rfl, _, rfl, _, rfl, five, fun t3 nt3 => ?_⟩
  obtain ⟨e3, hB4x, kp4x, R4⟩ := row_app hB3x kp3x nl0 lb lc R3 nt3 nbad nh n0 oo ot
  refine ⟨l, _, _, rfl, rfl, e3, (by show 3 < sizeLine; decide), ?_⟩
  dsimp only [List.cons_append, List.nil_append] at R4 hB4x kp4x ⊢
  generalize upd (upd _ t3 _) l _ = Hx4 at R4 hB4x kp4x ⊢
  refine seq_drop ⟨_, rfl, .inl ⟨rfl, _, SqL.of R4.1⟩, _, rfl, _, rfl, _, rfl, _, rfl, _, rfl, five, fun t4 nt4 => ?_⟩
  obtain ⟨e4, hB5x, kp5x, R5⟩ := row_app hB4x kp4x nl0 lb lc R4 nt4 na nbad nw oo ot
  refine ⟨l, _, _, rfl, rfl, e4, (by show 4 < sizeLine; decide), ?_⟩
  dsimp only [List.cons_append, List.nil_append] at R5 hB5x kp5x ⊢
  generalize upd (upd _ t4 _) l _ = Hx5 at R5 hB5x kp5x ⊢
  exact bend_tail hB h1 h2 n12 d1b d2b hG k1 hnk hB5x kp5x nl0 lb lc R5 na nh nbad oo ot q


/-! ### dicts of one and the same things -/
theorem eqAt_all {A : Around} {s : Shared} {v : V} {u u' : Value} (r : RelV v u) (r' : RelV v u') (f : flatB v = true ∨ ∃ a, v = .ref a) : SeqAt.EqAt A s u u' true := by
  rcases f with f | ⟨a, rfl⟩
  · exact eqAt_same r r' f
  · cases (show u = Value.ref a from r)
    cases (show u' = Value.ref a from r')
    exact SeqAt.EqAt.same _
theorem hits_ref {A : Around} {s : Shared} {kvs : List (Key × V)} {vb : List (Key × Value)} (rb : KV kvs vb) {ks : List (Key × V)} {va : List (Key × Value)} (ra : KV ks va) :
    (∀ p ∈ ks, valV kvs p.1 = some p.2 ∧ (flatB p.2 = true ∨ ∃ a, p.2 = .ref a)) → PySem.W.KeqHits A s vb va true := by
  unfold KV at ra
  induction ra with
  | nil => exact fun _ => .nil
  | @cons p q ps qs h t ih =>
    intro hp
    obtain ⟨e, f⟩ := hp p List.mem_cons_self
    have rr : RelO (some p.2) (valueAt vb p.1) := e ▸ rb.val p.1
    obtain ⟨y, hy, ry⟩ := rr.some_of
    obtain ⟨k, v⟩ := q
    have h1' : p.1 = k := h.1
    rw [h1'] at hy
    show PySem.W.KeqHits A s vb ((k, v) :: qs) (true && true)
    exact .hit hy (eqAt_all h.2 ry f) (ih fun p' hm => hp p' (List.mem_cons_of_mem _ hm))

theorem pick {α β : Type} {p : α → β → Prop} (h : ∀ a, ∃ b, p a b) : ∃ f : α → β, ∀ a, p a (f a) := ⟨fun a => (h a).choose, fun a => (h a).choose_spec⟩
theorem key_uni {κ β : Type} : ∀ {l : List (κ × β)}, (l.map (·.1)).Nodup → ∀ {p p' : κ × β}, p ∈ l → p' ∈ l → p.1 = p'.1 → p = p'
  | [], _, _, _, h, _, _ => nomatch h
  | q :: r, nd, p, p', h, h', e => by
    rw [List.map_cons, List.nodup_cons] at nd
    rcases List.mem_cons.mp h with g | g <;> rcases List.mem_cons.mp h' with g' | g'
    · rw [g, g']
    · rw [g] at e
      exact absurd (List.mem_map.mpr ⟨p', g', e.symm⟩) nd.1
    · rw [g'] at e
      exact absurd (List.mem_map.mpr ⟨p, g, e⟩) nd.1
    · exact key_uni nd.2 g g' e
theorem lowB_ok {z : Str} (h : lowB z = true) : z.cps.toList.length ≤ 900 ∧ okV (.str z) := by
  obtain ⟨⟨z1, z6⟩, hc⟩ := lowB_all h
  refine ⟨by omega, .inl ⟨z, rfl, ?_⟩⟩
  have e := PySem.StrLaws.reprText_len z fun c hm => by
    have := (hc c hm).2
    omega
  have zl := len_cps z
  omega
/-- what the law hands in, before it is bent -/
theorem given_of {H : Hp} {ks : List (Str × V)} {rs : List (Int × V)} {zs : List Str} (hM : MarksIn H ks) (hz : ∀ z ∈ zs, z ∈ ks.map (·.1)) (hR : ReadsIn H zs rs) (hn : ∀ n ∈ rs.map (·.1), n ≤ 90) (k60 : ks.length ≤ 60) (r60 : rs.length ≤ 60) :
    ∃ (nx : Str → List V) (rd : Int → RdP), Given H ks rs nx rd := by
  obtain ⟨nx, hx⟩ : ∃ nx : Str → List V, ∀ z, ∀ p ∈ ks, p.1 = z → MkV H p.2 (nx z) := pick (p := fun (z : Str) (xs : List V) => ∀ p ∈ ks, p.1 = z → MkV H p.2 xs) fun z => by
    by_cases c : ∃ p ∈ ks, p.1 = z
    · obtain ⟨p, hp, e⟩ := c
      obtain ⟨xs, hxs⟩ : ∃ xs, MkV H p.2 xs := by
        rcases hM.val p hp with h | ⟨t, x, y, h, ht, x0, x1, y0, y1⟩
        · exact ⟨[], .inl ⟨h, rfl⟩⟩
        · exact ⟨_, .inr ⟨t, _, _, h, ht, rfl, .inl ⟨x, rfl, by omega⟩, .inl ⟨y, rfl, by omega⟩⟩⟩
      exact ⟨xs, fun p' hp' e' => by rw [key_uni hM.nd hp' hp (e'.trans e.symm)]; exact hxs⟩
    · exact ⟨[], fun p hp e => absurd ⟨p, hp, e⟩ c⟩
  obtain ⟨rd, hr⟩ : ∃ rd : Int → RdP, ∀ n, ∀ p ∈ rs, p.1 = n → RdV H p.2 (rd n).one (rd n).tw (rd n).ac (rd n).hi (rd n).wt := pick (p := fun (n : Int) (r : RdP) => ∀ p ∈ rs, p.1 = n → RdV H p.2 r.one r.tw r.ac r.hi r.wt) fun n => by
    by_cases c : ∃ p ∈ rs, p.1 = n
    · obtain ⟨p, hp, e⟩ := c
      obtain ⟨r, hr⟩ : ∃ r : RdP, RdV H p.2 r.one r.tw r.ac r.hi r.wt := by
        obtain ⟨t, o, w, ac, hi, wt, e, h, o1, o2, ne, a0, a1, h0, h1, w0, w1⟩ := hR.val p hp
        exact ⟨⟨o, w, .int ac, .int hi, .int wt⟩, t, e, h, .inl ⟨ac, rfl, by omega⟩, .inl ⟨hi, rfl, by omega⟩, .inl ⟨wt, rfl, by omega⟩, (lowB_ok (hM.low _ (hz _ o1))).2, (lowB_ok (hM.low _ (hz _ o2))).2⟩
      exact ⟨r, fun p' hp' e' => by rw [key_uni (rise_nd hR.up) hp' hp (e'.trans e.symm)]; exact hr⟩
    · exact ⟨⟨"", "", .non, .non, .non⟩, fun p hp e => absurd ⟨p, hp, e⟩ c⟩
  exact ⟨nx, rd, hM.nd, fun z hz' => lowB_ok (hM.low z hz'), fun p hp => hx _ p hp rfl, hR.up, fun n hn' => by
    have h1 := hR.one n hn'
    have h2 := hn n hn'
    omega, fun p hp => hr _ p hp rfl, k60, r60⟩
theorem numOk.flat {v : V} (h : numOk v) : flat1 v = true := by
  rcases h with ⟨i, rfl, _⟩ | ⟨b, rfl⟩ <;> rfl
/-- what is told of a refusal is plain -/
theorem Given.flat {H : Hp} {ks : List (Str × V)} {rs : List (Int × V)} {nx : Str → List V} {rd : Int → RdP} (hG : Given H ks rs nx rd) {ys : List Str} (hy : ∀ y ∈ ys, y ∈ ks.map (·.1)) {e : Er} (h : survE nx rd (ks.map (·.1)) ys (rs.map (·.1)) = some e) : flat1 (eV e) = true := by
  have mk : ∀ z ∈ ks.map (·.1), ∀ e, markE z (nx z) = some e → flat1 (eV e) = true := fun z hz e he => by
    obtain ⟨p, hp, rfl⟩ := List.mem_map.mp hz
    unfold markE at he
    split at he
    · cases c : (nx p.1).find? badN with
      | none => rw [c] at he; cases he
      | some u =>
        rw [c] at he
        cases he
        exact ((hG.mkk p hp).num u (List.mem_of_find?_eq_some c)).flat
    · cases he
      rfl
  have rk : ∀ n ∈ rs.map (·.1), ∀ e, readE (ks.map (·.1)) n (rd n).one (rd n).tw (rd n).ac (rd n).hi (rd n).wt = some e → flat1 (eV e) = true := fun n hn e he => by
    obtain ⟨p, hp, rfl⟩ := List.mem_map.mp hn
    obtain ⟨t, _, _, na, nh, nw, _⟩ := hG.rdv p hp
    unfold readE at he
    repeat' split at he
    all_goals first
      | (cases he; done)
      | (cases he; rfl)
      | (cases he; exact na.flat)
      | (cases he; exact nh.flat)
      | (cases he; exact nw.flat)
  unfold survE at h
  split at h
  · rename_i e' he
    cases h
    obtain ⟨y, hy', e1⟩ := List.exists_of_findSome?_eq_some he
    exact mk y (hy y hy') _ e1
  · obtain ⟨n, hn, e1⟩ := List.exists_of_findSome?_eq_some h
    exact rk n hn _ e1
/-! ### lists of dicts of one and the same things -/
/-- None, or a tuple of the word and the thing -/
def TV (H : Hp) (o : Option Er) (v : V) : Prop := (o = none ∧ v = .non) ∨ ∃ e a, o = some e ∧ v = .ref a ∧ H a = some (.tup [.str (eT e), eV e])
theorem TV.same {H H' : Hp} {o : Option Er} {v : V} (s : Same H H') (h : TV H o v) : TV H' o v := by
  rcases h with h | ⟨e, a, h1, h2, h3⟩
  · exact .inl h
  · exact .inr ⟨e, a, h1, h2, s _ _ h3⟩
theorem Told.of {H : Hp} {o : Option Er} {Q : VK} (h : ∀ v H', Same H H' → TV H' o v → Q v H') : Told H o Q :=
  ⟨fun e H' s => h _ H' s (.inl ⟨e, rfl⟩), fun e he a H' s ha => h _ H' s (.inr ⟨e, a, he, rfl, ha⟩)⟩
theorem TV.sm {H : Hp} {o : Option Er} {u v : V} (h : TV H o u) (h' : TV H o v) (fl : ∀ e, o = some e → flat1 (eV e) = true) : Sm K H 3 u v := by
  rcases h with ⟨h1, rfl⟩ | ⟨e, a, h1, rfl, ha⟩
  · rcases h' with ⟨_, rfl⟩ | ⟨e', _, h2, _⟩
    · exact Sm.flat rfl 3
    · rw [h1] at h2
      cases h2
  · rcases h' with ⟨h2, _⟩ | ⟨e', b, h2, rfl, hb⟩
    · rw [h1] at h2
      cases h2
    · rw [h1] at h2
      cases h2
      exact (SmT.tup2 (n := 2) (SqT.of ha) (SqT.of hb) (SmT.flat rfl 2) (SmT.flat (fl e h1) 2)).sm
def DDR : Eqv := fun x y H => ∃ a b kvs, x = .ref a ∧ y = .ref b ∧ H a = some (.dK kvs) ∧ H b = some (.dK kvs) ∧ (kvs.map (·.1)).Nodup ∧ ∀ p ∈ kvs, flatB p.2 = true ∨ ∃ a, p.2 = .ref a
theorem mon_dR : Mon DDR := fun x y H H' e d => by
  obtain ⟨a, b, kvs, h1, h2, ea, eb, r⟩ := d
  exact ⟨a, b, kvs, h1, h2, e _ _ ea, e _ _ eb, r⟩
theorem rcG_dR {X : Cx} : RcG X 0 DDR := by
  intro A pins s σ H x y u v sb I rx ry d
  obtain ⟨a, b, kvs, rfl, rfl, ea, eb, nd, fl⟩ := d
  cases (show u = Value.ref a from rx)
  cases (show v = Value.ref b from ry)
  obtain ⟨_, ya, va, ra, da⟩ := I.hok a _ ea
  obtain ⟨_, yb, vb, rb, db⟩ := I.hok b _ eb
  have hl : va.length = vb.length := ra.length.symm.trans rb.length
  exact PySem.W.keq_eq (knd := mixKind X.prog X.w) (r := true) ya yb da db sb.room.units0 (fun _ => hits_ref rb ra fun p hp => ⟨val_nodup nd p hp, fl p hp⟩) ⟨by simp [hl], H, I, Ext.rfl'⟩
theorem rcG_LdR {X : Cx} : RcG X 1 (DList DDR) := rcG_list mon_dR (rcG_dR.eqG fun _ _ _ d => let ⟨a, b, _, hx, hy, _⟩ := d; ⟨a, b, hx, hy⟩)


def spLaw (K : PySem.W.Frag) : Sp := fun vs H Q _ => ∃ (a : Addr) (ns : List Int), vs = [.ref a] ∧ SqL K H a (ns.map V.int) ∧ ns.length ≤ 63 ∧ ∀ H', Q (.bl true) H'
theorem ok_law (ev : Env P K mg) : FnOk P w K mg base CX0 7 ev.f_law ev.d_law p_law (spLaw K) := by
  refine ev.A_law.F.ok sc_law (fun vs H Q E h => ?_) (fun cdv A outer s H vs Q E hr h => ?_)
  · obtain ⟨a, ns, rfl, _⟩ := h
    rfl
  obtain ⟨a, ns, rfl, hS, h63, q⟩ := h
  have hu := hu_of hr
  refine ⟨_, (pss_cons (ps_set (i := 1) sc_law.nd rfl (Or.inl rfl) (pe_call (ok_law_bag ev) (hr.mono (by decide)) (by rfl) ev.A_law_bag.m ev.A_law_bag.F.kp ev.A_law_bag.b .nil pass0 (pa_cons (pv 0) pa_nil)))
    (pss_cons (ps_set (i := 2) sc_law.nd rfl (Or.inl rfl) pe_bl)
    (pss_cons (ps_for PassesOwn.never rfl (pi_range1 rfl ev.B.range_ (pa_cons pe_int pa_nil)) (pg_name (i := 3) sc_law.nd rfl (Or.inl rfl))
    (pss_cons (ps_set (i := 4) sc_law.nd rfl (Or.inl rfl) (pe_call (ok_law_marks ev) (hr.mono (by decide)) (by rfl) ev.A_law_marks.m ev.A_law_marks.F.kp ev.A_law_marks.b .nil pass0 (pa_cons (pv 1) (pa_cons (pe_op op_add pe_int (pe_call (ok_law_draw ev) (hr.mono (by decide)) (by rfl) ev.A_law_draw.m ev.A_law_draw.F.kp ev.A_law_draw.b .nil pass0 (pa_cons (pv 1) (pa_cons pe_int pa_nil)))) pa_nil))))
    (pss_cons (ps_set (i := 5) sc_law.nd rfl (Or.inl rfl) (pe_call (ok_law_readings ev) (hr.mono (by decide)) (by rfl) ev.A_law_readings.m ev.A_law_readings.F.kp ev.A_law_readings.b .nil pass0 (pa_cons (pv 1) (pa_cons (pe_callB (call_srtK rfl) (by rfl) ev.B.sorted_ (by decide +kernel) (pa_cons (pv 4) pa_nil)) (pa_cons (pe_call (ok_law_draw ev) (hr.mono (by decide)) (by rfl) ev.A_law_draw.m ev.A_law_draw.F.kp ev.A_law_draw.b .nil pass0 (pa_cons (pv 1) (pa_cons pe_int pa_nil))) pa_nil)))))
    (pss_cons (ps_for PassesOwn.never rfl (pi_range1 rfl ev.B.range_ (pa_cons (pe_call (ok_law_draw ev) (hr.mono (by decide)) (by rfl) ev.A_law_draw.m ev.A_law_draw.F.kp ev.A_law_draw.b .nil pass0 (pa_cons (pv 1) (pa_cons pe_int pa_nil))) pa_nil)) (pg_name (i := 6) sc_law.nd rfl (Or.inl rfl))
    (pss_one (ps_expr (pe_call (ok_law_bend ev) (hr.mono (by decide)) (by rfl) ev.A_law_bend.m ev.A_law_bend.F.kp ev.A_law_bend.b .nil pass0 (pa_cons (pv 1) (pa_cons (pv 4) (pa_cons (pv 5) pa_nil)))))))
    (pss_cons (ps_set (i := 7) sc_law.nd rfl (Or.inl rfl) (pe_lst (pa_cons (pe_callTy call_dictD (by rfl) ev.B.dict_ (by decide +kernel) (pa_cons (pv 4) pa_nil)) (pa_cons (pe_callTy call_dictD (by rfl) ev.B.dict_ (by decide +kernel) (pa_cons (pv 5) pa_nil)) pa_nil))))
    (pss_cons (ps_set (i := 8) sc_law.nd rfl (Or.inl rfl) (pe_call (ok_law_due ev) (hr.mono (by decide)) (by rfl) ev.A_law_due.m ev.A_law_due.F.kp ev.A_law_due.b .nil pass0 (pa_cons (pv 4) (pa_cons (pv 5) pa_nil))))
    (pss_cons (ps_set (i := 2) sc_law.nd rfl (Or.inl rfl) (pe_and (pv 2) (pe_one (pe_call (ok_same ev 4) (hr.mono (by decide)) (by rfl) ev.A_law_same.m ev.A_law_same.F.kp ev.A_law_same.b .nil pass0 (pa_cons (pe_call (ok_law_told ev) (hr.mono (by decide)) (by rfl) ev.A_law_told.m ev.A_law_told.F.kp ev.A_law_told.b .nil pass0 (pa_cons (pv 4) (pa_cons (pv 5) pa_nil))) (pa_cons (pv 8) pa_nil))))))
    (pss_one (ps_set (i := 2) sc_law.nd rfl (Or.inl rfl) (pe_and (pv 2) (pe_one (pe_cmpR (op_eqG rcG_LdR (hr.mono (by decide))) (pv 7) (pe_lst (pa_cons (pv 4) (pa_cons (pv 5) pa_nil))) (nomark _)))))))))))))
    (pss_one (ps_ret (pe_and (pv 2) (pe_one (pe_call (ok_same ev 4) (hr.mono (by decide)) (by rfl) ev.A_law_same.m ev.A_law_same.F.kp ev.A_law_same.b .nil pass0 (pa_cons (pe_glob (v := .int 999) (by rfl) ev.c_MOST ⟨_, rfl⟩) (pa_cons pe_int pa_nil)))))))))), ?_⟩
  refine seq_asg ⟨_, rfl, a, ns, rfl, hS, h63, fun b c H1 hB1 nb nc s1 => ?_⟩
  refine seq_c ?_
  refine ⟨4, rfl, by decide, by decide, for_range (lo := 0) (n := 4) (fun i σ H' => Bag H' b c ∧ ∃ y3 y4 y5 y6 y7 y8, σ = [some (.ref a), some (.ref b), some (.bl true), y3, y4, y5, y6, y7, y8]) ⟨hB1, none, none, none, none, none, none, rfl⟩ ?_ ?_⟩
  rotate_left
  · rintro σ H2 ⟨_, y3, y4, y5, y6, y7, y8, rfl⟩
    exact ⟨_, rfl, true, rfl, iteT ⟨_, _, rfl, Sm.flat rfl 3, fun H' _ => q H'⟩⟩
  rintro i σ H2 hi ⟨hB2, y3, y4, y5, y6, y7, y8, rfl⟩
  -- the marks
  refine seq_asg ⟨_, rfl, _, rfl, b, c, 5, rfl, hB2, by decide, by decide, fun r H3 r0 r1 hB3 ex3 => ⟨_, _, rfl, rfl, b, c, _, rfl, hB3, by omega, by omega, fun d1 ks H4 _ h1 hM k1 k20 hB4 kp4 d1b d1c => ?_⟩⟩
  -- the readings
  have kn : (ks.map (·.1)).length < 64 := by rw [List.length_map]; omega
  refine seq_asg ⟨_, rfl, _, rfl, .inl ⟨d1, _, ks.map (·.1), rfl, .inl h1, mkv_keys ks, kn, fun ys l pm sr nl => ?_⟩⟩
  obtain ⟨lb, lc⟩ := hB4.off nl
  have yl : ys.length = ks.length := by rw [pm.length_eq, List.length_map]
  refine ⟨_, rfl, b, c, 7, rfl, hB4.upd nl, by decide, by decide, fun g H5 g0 g1 hB5 ex5 => ?_⟩
  have hl5 : H5 l = some (.lst (ys.map V.str)) := (ex5 l lb lc).trans upd_same
  have h15 : H5 d1 = some (.dK (mkv ks)) := (ex5 d1 d1b d1c).trans (same_upd nl _ _ h1)
  have tu45 : Tups H4 H5 := (tups_same (same_upd nl)).trans (tups_kept (hB4.upd nl) ex5.kept)
  refine ⟨b, c, l, ys, _, rfl, hB5, lb, lc, hl5, by omega, by omega, by omega, by omega, fun d2 rs H6 nd2 h2 hR rle r90 hB6 kp6 d2b d2c => ?_⟩
  have h16 : H6 d1 = some (.dK (mkv ks)) := kp6 _ _ h15 d1b d1c
  have n12 : d1 ≠ d2 := ne_of_none h15 nd2
  have hM6 : MarksIn H6 ks := (hM.mono tu45).mono (tups_kept hB5 kp6)
  obtain ⟨nx, rd, hG⟩ := given_of hM6 (fun z hz => pm.mem_iff.mp hz) hR r90 (by omega) (by omega)
  have k5 : ks.length ≤ 5 := by omega
  clear hM hM6 tu45 hl5 h15 hR
  -- bent
  refine ⟨_, rfl, b, c, 3, rfl, hB6, by decide, by decide, fun g2 H7 g20 g21 hB7 ex7 => ⟨g2, rfl, by omega, by omega, for_range (lo := 0) (n := g2.toNat) (fun j σ H' => Bag H' b c ∧ ∃ ks rs nx rd y3 y6 y7 y8, σ = [some (.ref a), some (.ref b), some (.bl true), y3, some (.ref d1), some (.ref d2), y6, y7, y8] ∧ H' d1 = some (.dK (mkv ks)) ∧ H' d2 = some (.dK (rdv rs)) ∧ Given H' ks rs nx rd ∧ 1 ≤ ks.length ∧ ks.length ≤ 5 + j)
    ⟨hB7, ks, rs, nx, rd, _, _, _, _, rfl, (ex7 d1 d1b d1c).trans h16, (ex7 d2 d2b d2c).trans h2, hG.mono (tups_kept hB6 ex7.kept), k1, by omega⟩ ?_ ?_⟩⟩
  · rintro j σ H8 hj ⟨hB8, ks, rs, nx, rd, y3, y6, y7, y8, rfl, h18, h28, hG8, k1, kj⟩
    refine ⟨_, rfl, _, rfl, _, rfl, b, c, d1, d2, ks, rs, nx, rd, rfl, hB8, h18, h28, n12, hG8, k1, by omega, fun ks' rs' nx' rd' H' hB' h1' h2' hG' k1' kl' _ => ?_⟩
    exact ⟨hB', ks', rs', nx', rd', _, _, _, _, rfl, h1', h2', hG', k1', by omega⟩
  rintro σ H8 ⟨hB8, ks, rs, nx, rd, y3, y6, y7, y8, rfl, h18, h28, hG8, k1, kj⟩
  refine nx_u ?_
  -- a copy of both
  refine seq_asg ⟨_, rfl, d1, _, rfl, .inl h18, fun c1 nc1 => ?_⟩
  have s9 : Same H8 (upd H8 c1 (.dK (mkv ks))) := same_upd nc1
  have hc1 : (upd H8 c1 (.dK (mkv ks))) c1 = some (.dK (mkv ks)) := upd_same
  generalize upd H8 c1 (.dK (mkv ks)) = H9 at s9 hc1
  refine ⟨_, rfl, d2, _, rfl, .inl (s9 _ _ h28), fun c2 nc2 => ?_⟩
  have s10 : Same H9 (upd H9 c2 (.dK (rdv rs))) := same_upd nc2
  have hc2 : (upd H9 c2 (.dK (rdv rs))) c2 = some (.dK (rdv rs)) := upd_same
  generalize upd H9 c2 (.dK (rdv rs)) = H10 at s10 hc2
  refine ⟨two, fun lh nlh => ?_⟩
  have s11 : Same H10 (upd H10 lh (.lst [.ref c1, .ref c2])) := same_upd nlh
  have hlh : (upd H10 lh (.lst [.ref c1, .ref c2])) lh = some (.lst [.ref c1, .ref c2]) := upd_same
  generalize upd H10 lh (.lst [.ref c1, .ref c2]) = H11 at s11 hlh
  have s811 : Same H8 H11 := s9.trans (s10.trans s11)
  have hc1' := (s10.trans s11) _ _ hc1
  have hc2' := s11 _ _ hc2
  -- what is due
  refine seq_asg ⟨_, rfl, _, rfl, d1, d2, ks, rs, nx, rd, rfl, s811 _ _ h18, s811 _ _ h28, hG8.mono (tups_same s811), fun ys pm sr => Told.of fun u H12 s12 hu => ?_⟩
  have s812 := s811.trans s12
  have fl : ∀ e, survE nx rd (ks.map (·.1)) ys (rs.map (·.1)) = some e → flat1 (eV e) = true := fun e he => hG8.flat (fun y hy => pm.mem_iff.mp hy) he
  refine seq_asg ⟨_, rfl, true, rfl, iteT ⟨_, rfl, _, rfl, d1, d2, ks, rs, nx, rd, rfl, s812 _ _ h18, s812 _ _ h28, hG8.mono (tups_same s812), fun ys' pm' sr' => ?_⟩⟩
  obtain rfl : ys' = ys := srt_same (pm'.trans pm.symm) sr' sr
  refine Told.of fun v H13 s13 hv => ⟨_, rfl, _, _, rfl, hv.sm (hu.same s13) fl, fun H14 s14 => ?_⟩
  have s814 := s812.trans (s13.trans s14)
  have s1114 := s12.trans (s13.trans s14)
  refine ⟨_, rfl, true, rfl, iteT ⟨_, rfl, _, rfl, _, rfl, two, fun lz nlz => ?_⟩⟩
  have s15 : Same H14 (upd H14 lz (.lst [.ref d1, .ref d2])) := same_upd nlz
  have hlz : (upd H14 lz (.lst [.ref d1, .ref d2])) lz = some (.lst [.ref d1, .ref d2]) := upd_same
  generalize upd H14 lz (.lst [.ref d1, .ref d2]) = H15 at s15 hlz
  have s815 := s814.trans s15
  have s1115 := s1114.trans s15
  refine ⟨⟨lh, lz, _, _, rfl, rfl, s1115 _ _ hlh, hlz, Prs.cons ⟨c1, d1, mkv ks, rfl, rfl, s1115 _ _ hc1', s815 _ _ h18, mkv_nd hG8.nd, fun p hp => ?_⟩ (Prs.cons ⟨c2, d2, rdv rs, rfl, rfl, s1115 _ _ hc2', s815 _ _ h28, rdv_nd (rise_nd hG8.up), fun p hp => ?_⟩ Prs.nil)⟩, fun H16 e16 => ?_⟩
  · obtain ⟨p0, hp0, rfl⟩ := List.mem_map.mp hp
    rcases hG8.mkk p0 hp0 with ⟨e, _⟩ | ⟨x, _, _, e, _⟩
    · exact .inl (by show flatB p0.2 = true; rw [e]; rfl)
    · exact .inr ⟨x, e⟩
  · obtain ⟨p0, hp0, rfl⟩ := List.mem_map.mp hp
    obtain ⟨x, e, _⟩ := hG8.rdv p0 hp0
    exact .inr ⟨x, e⟩
  · exact ⟨hB8.same (s815.trans e16), _, _, _, _, _, _, rfl⟩

end
open PyProof.Rows PySem.SupX PySem.W in
theorem supL_mkP {P : Program} {K : PySem.W.Frag} {B newId i : String} {bmB : List Value} {C fI : Addr} {n f qual : Str} {params : Arguments} {pre post : Str} {j j2 : Nat} {w1 w2 w3 w4 : Pos}
    {oc : Value} {od : Option Addr} {doc pm : Value} {an : Option Addr} {cda : Addr} {ct : Value} {osl : Array (Option Value)} {cc : Addr} {cl : Value} {cld : Option Addr} {csl : Array (Option Value)} {ccl : Value} {cdd : Option Addr} {vs : Array Value} {ccs : Array (Option Value)} {file : Str} {tf : Tok} {pj p0 p1 p2 p3 p4 q1 q2 q3 q4 : Pos}
    (FB : ExcBaseFacts B newId i bmB) (KF : KxsFacts B i) (SF : StoreFacts B bmB "object.__setattr__" "object")
    (iC : findIn K (.ref C) "__init__" = some (some (.ref fI)))
    (l : K.lookup fI = some ⟨oc, od, .func (ksFn "__init__" qual params (sB f [.Constant (.str pre) j w1, .FormattedValue (.Name f w2) 114 none w3, .Constant (.str post) j2 w4] pj p0 p1 p2 p3 p4 q1 q2 q3 q4) (sS f) .none .none doc pm an (.ref cda) ct cc), osl⟩)
    (cd : codeIn K (.ref cda) qual = true) (lc : K.lookup cc = some ⟨cl, cld, .cell (some (.ref C)), csl⟩) (lk : K.lookup cda = some ⟨ccl, cdd, .fields vs, ccs⟩) (hvs : vs[2]? = some (.str file tf)) (hfile : ((P.main.file : Str) == file) = true)
    (hl : (p2.endLine == p3.line) = true) (hb : ∀ (s : Shared) (x v : Value), BindsTo s (ksFn "__init__" qual params (sB f [.Constant (.str pre) j w1, .FormattedValue (.Name f w2) 114 none w3, .Constant (.str post) j2 w4] pj p0 p1 p2 p3 p4 q1 q2 q3 q4) (sS f) .none .none doc pm an (.ref cda) ct cc) ⟨[x, v], []⟩ [("self", x), (f, v)])
    (ini : excInitIn K C bmB newId = true) (over : excOver K C bmB = true) (sa : findIn K (.ref C) "__setattr__" = some (some (.builtin "object.__setattr__"))) (tk : takerIn K C f = some none) (hd : hasDictIn K C = true) (tC : typeIn K (.ref fI) = some (.type "function"))
    (sub : subIn K (.ref C) (.type B) = some true) (mro : mroIn K C (.ref C) = some true) (sup : ks_superIn K C C "__init__" = some (some (.builtin i))) (opq : nsIn K cStatics "thirdparty.any" = some none) (top : (P.main.scope.names.lookup ("super" : Str)).isSome = false)
    (hd1 : (params.posonlyargs ++ params.args).head?.map (·.arg) = some "self") (nn : (f != "self" && f != "__class__" && f != "super" && f != "__debug__") = true) (lf : (sS f).names.lookup f = some .local) (hz : pre.length ≤ 1000) (hz2 : post.length ≤ 1000)
    (kC : keepIn K (.ref C) = true) (exC : subIn K (.ref C) (.type "BaseException") = some true) (tyC : typeIn K (.ref C) = some (.type "type")) (xf : XfC K C) (nf : findIn K (.ref C) f = some none) : SupL P K n f C := by
  intro mg gC nos
  simp only [Bool.and_eq_true, bne_iff_ne, ne_eq] at nn
  obtain ⟨⟨⟨n1, n2⟩, n3⟩, n4⟩ := nn
  have dbg : (f == ("__debug__" : Str)) = false := by simpa using n4
  exact ⟨B, newId, i, bmB, fI, qual, params, _, ⟨FB, KF, SF, ini, over, sa, tk, hd, iC, tC, sub, mro, sup, opq, nos, top, hd1, dbg, n1, n2, n3,
    ⟨oc, od, doc, pm, an, cda, ct, osl, cc, cl, cld, csl, ccl, cdd, vs, ccs, file, tf, pj, p0, p1, p2, p3, p4, q1, q2, q3, q4, l, cd, lc, lk, hvs, hfile, hl, hb⟩⟩, ⟨gC, kC, exC, tyC⟩, xf, nf,
    fun w v u hv r => tells_rp (okV_shows hv r) lf dbg hz hz2⟩

structure Put (K : PySem.W.Frag) (name : String) (st : Stmt) (f : Addr) : Prop where
  a : PySem.W.nsIn K mainGlobals (Str.ofString name) = some (some (.ref f))
  l : ∃ (oc : Value) (od : Option Addr) (kV dc pm : Value) (an : Option Addr) (cd ct : Value) (sl : Array (Option Value)), K.lookup f = some ⟨oc, od, .func (PySem.W.fnOf (Str.ofString name) (Str.ofString name) (defArgs st) (defBody st) (defScope st) .none kV dc pm an cd ct), sl⟩ ∧ PySem.W.codeIn K cd (Str.ofString name) = true
  k : PySem.W.keepIn K (.ref f) = true
theorem put_mk {K : PySem.W.Frag} {name : String} {st : Stmt} {f : Addr} {oc : Value} {od : Option Addr} {kV dc pm : Value} {an : Option Addr} {cd ct : Value} {sl : Array (Option Value)} (a : PySem.W.nsIn K mainGlobals (Str.ofString name) = some (some (.ref f)))
    (l : K.lookup f = some ⟨oc, od, .func (PySem.W.fnOf (Str.ofString name) (Str.ofString name) (defArgs st) (defBody st) (defScope st) .none kV dc pm an cd ct), sl⟩) (c : PySem.W.codeIn K cd (Str.ofString name) = true) (k : PySem.W.keepIn K (.ref f) = true) : Put K name st f :=
  ⟨a, ⟨oc, od, kV, dc, pm, an, cd, ct, sl, l, c⟩, k⟩
structure PutM (K : PySem.W.Frag) (C : Addr) (name qual : String) (st : Stmt) (f : Addr) : Prop where
  me : Meth K C (Str.ofString name) f
  l : ∃ (oc : Value) (od : Option Addr) (kV dc pm : Value) (an : Option Addr) (cd ct : Value) (sl : Array (Option Value)), K.lookup f = some ⟨oc, od, .func (PySem.W.fnOf (Str.ofString name) (Str.ofString qual) (defArgs st) (defBody st) (defScope st) .none kV dc pm an cd ct), sl⟩ ∧ PySem.W.codeIn K cd (Str.ofString qual) = true
theorem putM_mk {K : PySem.W.Frag} {C : Addr} {name qual : String} {st : Stmt} {f : Addr} {oc : Value} {od : Option Addr} {kV dc pm : Value} {an : Option Addr} {cd ct : Value} {sl : Array (Option Value)} (a : PySem.W.findIn K (.ref C) (Str.ofString name) = some (some (.ref f))) (i : PySem.W.isFn K (.ref f) = true)
    (l : K.lookup f = some ⟨oc, od, .func (PySem.W.fnOf (Str.ofString name) (Str.ofString qual) (defArgs st) (defBody st) (defScope st) .none kV dc pm an cd ct), sl⟩) (c : PySem.W.codeIn K cd (Str.ofString qual) = true) (k : PySem.W.keepIn K (.ref f) = true) : PutM K C name qual st f :=
  ⟨⟨a, i, k⟩, ⟨oc, od, kV, dc, pm, an, cd, ct, sl, l, c⟩⟩
theorem all_mk {l : PySem.W.OpenLaw} {w : World} {K : PySem.W.Frag} {h : Heap} {mg : Str → Option Value} {fa f_is_word f_is_name f_is_within f_check_name f_check_number f_check_place f_check_reading f_Survey___init__ f_law_bag f_law_draw f_law_whole f_law_same f_law_any f_law_name f_law_names f_law_odd_name f_law_marks f_law_readings f_law_bad_number f_law_bend f_law_good f_law_wrong_reading f_law_due f_law_told f_law C_Survey C_BadName C_BadNumber C_BadReading C_NoMark : Addr} {t1 t2 t3 t4 t5 : Tok} (X : K.In h) (G : h.Ns mainGlobals mg) (hfa : mg "law" = some (.ref fa))
    (p_is_word : Put K "is_word" s_is_word f_is_word)
    (p_is_name : Put K "is_name" s_is_name f_is_name)
    (p_is_within : Put K "is_within" s_is_within f_is_within)
    (p_check_name : Put K "check_name" s_check_name f_check_name)
    (p_check_number : Put K "check_number" s_check_number f_check_number)
    (p_check_place : Put K "check_place" s_check_place f_check_place)
    (p_check_reading : Put K "check_reading" s_check_reading f_check_reading)
    (p_Survey___init__ : PutM K C_Survey "__init__" "Survey.__init__" s_Survey___init__ f_Survey___init__)
    (p_law_bag : Put K "_law_bag" s_law_bag f_law_bag)
    (p_law_draw : Put K "_law_draw" s_law_draw f_law_draw)
    (p_law_whole : Put K "_law_whole" s_law_whole f_law_whole)
    (p_law_same : Put K "_law_same" s_law_same f_law_same)
    (p_law_any : Put K "_law_any" s_law_any f_law_any)
    (p_law_name : Put K "_law_name" s_law_name f_law_name)
    (p_law_names : Put K "_law_names" s_law_names f_law_names)
    (p_law_odd_name : Put K "_law_odd_name" s_law_odd_name f_law_odd_name)
    (p_law_marks : Put K "_law_marks" s_law_marks f_law_marks)
    (p_law_readings : Put K "_law_readings" s_law_readings f_law_readings)
    (p_law_bad_number : Put K "_law_bad_number" s_law_bad_number f_law_bad_number)
    (p_law_bend : Put K "_law_bend" s_law_bend f_law_bend)
    (p_law_good : Put K "_law_good" s_law_good f_law_good)
    (p_law_wrong_reading : Put K "_law_wrong_reading" s_law_wrong_reading f_law_wrong_reading)
    (p_law_due : Put K "_law_due" s_law_due f_law_due)
    (p_law_told : Put K "_law_told" s_law_told f_law_told)
    (p_law : Put K "law" s_law f_law)
    (aS : PySem.W.nsIn K mainGlobals "Survey" = some (some (.ref C_Survey)))
    (pgS : PySem.W.plainGet K C_Survey Str.empty = true)
    (hdS : PySem.W.hasDictIn K C_Survey = true)
    (poS : PySem.W.plainOver K C_Survey = true)
    (saS : PySem.W.findIn K (.ref C_Survey) "__setattr__" = some (some (.builtin "object.__setattr__")))
    (mkS : PySem.W.makesIn K C_Survey = true)
    (kcS : PySem.W.keepIn K (.ref C_Survey) = true)
    (n1S : PySem.W.findIn K (.ref C_Survey) "own_marks" = some none)
    (n2S : PySem.W.findIn K (.ref C_Survey) "own_readings" = some none)
    (cM : PySem.W.nsIn K mainGlobals "MOST" = some (some (.int 999 t1)))
    (cL : PySem.W.nsIn K mainGlobals "LEAST_WEIGHT" = some (some (.int 1 t2)))
    (cW : PySem.W.nsIn K mainGlobals "MOST_WEIGHT" = some (some (.int 9 t3)))
    (cG : PySem.W.nsIn K mainGlobals "LONGEST" = some (some (.int 6 t4)))
    (cT : PySem.W.nsIn K mainGlobals "LETTERS" = some (some (.str "abcdefghijklmnopqrstuvwxyz" t5)))
    (g_BadName : PySem.W.nsIn K mainGlobals "BadName" = some (some (.ref C_BadName)))
    (e_BadName : SupL l.prog K "BadName" "name" C_BadName)
    (g_BadNumber : PySem.W.nsIn K mainGlobals "BadNumber" = some (some (.ref C_BadNumber)))
    (e_BadNumber : SupL l.prog K "BadNumber" "number" C_BadNumber)
    (g_BadReading : PySem.W.nsIn K mainGlobals "BadReading" = some (some (.ref C_BadReading)))
    (e_BadReading : SupL l.prog K "BadReading" "number" C_BadReading)
    (g_NoMark : PySem.W.nsIn K mainGlobals "NoMark" = some (some (.ref C_NoMark)))
    (e_NoMark : SupL l.prog K "NoMark" "name" C_NoMark)
    (xm_BadName_BadName : PySem.W.exmOne K (.ref C_BadName) (.ref C_BadName) = some true)
    (xm_BadName_BadNumber : PySem.W.exmOne K (.ref C_BadName) (.ref C_BadNumber) = some false)
    (xm_BadName_BadReading : PySem.W.exmOne K (.ref C_BadName) (.ref C_BadReading) = some false)
    (xm_BadName_NoMark : PySem.W.exmOne K (.ref C_BadName) (.ref C_NoMark) = some false)
    (xm_BadNumber_BadName : PySem.W.exmOne K (.ref C_BadNumber) (.ref C_BadName) = some false)
    (xm_BadNumber_BadNumber : PySem.W.exmOne K (.ref C_BadNumber) (.ref C_BadNumber) = some true)
    (xm_BadNumber_BadReading : PySem.W.exmOne K (.ref C_BadNumber) (.ref C_BadReading) = some false)
    (xm_BadNumber_NoMark : PySem.W.exmOne K (.ref C_BadNumber) (.ref C_NoMark) = some false)
    (xm_BadReading_BadName : PySem.W.exmOne K (.ref C_BadReading) (.ref C_BadName) = some false)
    (xm_BadReading_BadNumber : PySem.W.exmOne K (.ref C_BadReading) (.ref C_BadNumber) = some false)
    (xm_BadReading_BadReading : PySem.W.exmOne K (.ref C_BadReading) (.ref C_BadReading) = some true)
    (xm_BadReading_NoMark : PySem.W.exmOne K (.ref C_BadReading) (.ref C_NoMark) = some false)
    (xm_NoMark_BadName : PySem.W.exmOne K (.ref C_NoMark) (.ref C_BadName) = some false)
    (xm_NoMark_BadNumber : PySem.W.exmOne K (.ref C_NoMark) (.ref C_BadNumber) = some false)
    (xm_NoMark_BadReading : PySem.W.exmOne K (.ref C_NoMark) (.ref C_BadReading) = some false)
    (xm_NoMark_NoMark : PySem.W.exmOne K (.ref C_NoMark) (.ref C_NoMark) = some true)
    (z_len : PySem.W.nsIn K mainGlobals "len" = some none)
    (z_list : PySem.W.nsIn K mainGlobals "list" = some none)
    (z_isinstance : PySem.W.nsIn K mainGlobals "isinstance" = some none)
    (z_int : PySem.W.nsIn K mainGlobals "int" = some none)
    (z_bool : PySem.W.nsIn K mainGlobals "bool" = some none)
    (z_str : PySem.W.nsIn K mainGlobals "str" = some none)
    (z_dict : PySem.W.nsIn K mainGlobals "dict" = some none)
    (z_tuple : PySem.W.nsIn K mainGlobals "tuple" = some none)
    (z_all : PySem.W.nsIn K mainGlobals "all" = some none)
    (z_range : PySem.W.nsIn K mainGlobals "range" = some none)
    (z_sorted : PySem.W.nsIn K mainGlobals "sorted" = some none)
    (z_super : PySem.W.nsIn K mainGlobals "super" = some none) :
    ∃ fd : FuncData, (∀ (s : Shared) (v : Value), BindsTo s fd ⟨[v], []⟩ [("_law_script", v)]) ∧ ∀ base : Heap, K.In base → base.Ns mainGlobals mg → FnOk l.prog w K mg base CX0 7 fa fd ["_law_script"] (spLaw K) := by
  have e := hfa.symm.trans (PySem.W.mg_of X G p_law.a)
  cases e
  obtain ⟨a_is_word, ⟨oc_is_word, od_is_word, kV_is_word, dc_is_word, pm_is_word, an_is_word, cd_is_word, ct_is_word, sl_is_word, l_is_word, c_is_word⟩, k_is_word⟩ := p_is_word
  have F_is_word := fun_mk (st := s_is_word) l_is_word c_is_word k_is_word
  have b_is_word := F_is_word.binds (ps := p_is_word) fun _ _ _ _ _ _ us hl => match us, hl with | [_], _ => rfl
  obtain ⟨a_is_name, ⟨oc_is_name, od_is_name, kV_is_name, dc_is_name, pm_is_name, an_is_name, cd_is_name, ct_is_name, sl_is_name, l_is_name, c_is_name⟩, k_is_name⟩ := p_is_name
  have F_is_name := fun_mk (st := s_is_name) l_is_name c_is_name k_is_name
  have b_is_name := F_is_name.binds (ps := p_is_name) fun _ _ _ _ _ _ us hl => match us, hl with | [_], _ => rfl
  obtain ⟨a_is_within, ⟨oc_is_within, od_is_within, kV_is_within, dc_is_within, pm_is_within, an_is_within, cd_is_within, ct_is_within, sl_is_within, l_is_within, c_is_within⟩, k_is_within⟩ := p_is_within
  have F_is_within := fun_mk (st := s_is_within) l_is_within c_is_within k_is_within
  have b_is_within := F_is_within.binds (ps := p_is_within) fun _ _ _ _ _ _ us hl => match us, hl with | [_, _, _], _ => rfl
  obtain ⟨a_check_name, ⟨oc_check_name, od_check_name, kV_check_name, dc_check_name, pm_check_name, an_check_name, cd_check_name, ct_check_name, sl_check_name, l_check_name, c_check_name⟩, k_check_name⟩ := p_check_name
  have F_check_name := fun_mk (st := s_check_name) l_check_name c_check_name k_check_name
  have b_check_name := F_check_name.binds (ps := p_check_name) fun _ _ _ _ _ _ us hl => match us, hl with | [_], _ => rfl
  obtain ⟨a_check_number, ⟨oc_check_number, od_check_number, kV_check_number, dc_check_number, pm_check_number, an_check_number, cd_check_number, ct_check_number, sl_check_number, l_check_number, c_check_number⟩, k_check_number⟩ := p_check_number
  have F_check_number := fun_mk (st := s_check_number) l_check_number c_check_number k_check_number
  have b_check_number := F_check_number.binds (ps := p_check_number) fun _ _ _ _ _ _ us hl => match us, hl with | [_, _, _], _ => rfl
  obtain ⟨a_check_place, ⟨oc_check_place, od_check_place, kV_check_place, dc_check_place, pm_check_place, an_check_place, cd_check_place, ct_check_place, sl_check_place, l_check_place, c_check_place⟩, k_check_place⟩ := p_check_place
  have F_check_place := fun_mk (st := s_check_place) l_check_place c_check_place k_check_place
  have b_check_place := F_check_place.binds (ps := p_check_place) fun _ _ _ _ _ _ us hl => match us, hl with | [_], _ => rfl
  obtain ⟨a_check_reading, ⟨oc_check_reading, od_check_reading, kV_check_reading, dc_check_reading, pm_check_reading, an_check_reading, cd_check_reading, ct_check_reading, sl_check_reading, l_check_reading, c_check_reading⟩, k_check_reading⟩ := p_check_reading
  have F_check_reading := fun_mk (st := s_check_reading) l_check_reading c_check_reading k_check_reading
  have b_check_reading := F_check_reading.binds (ps := p_check_reading) fun _ _ _ _ _ _ us hl => match us, hl with | [_, _, _], _ => rfl
  obtain ⟨me_Survey___init__, ⟨oc_Survey___init__, od_Survey___init__, kV_Survey___init__, dc_Survey___init__, pm_Survey___init__, an_Survey___init__, cd_Survey___init__, ct_Survey___init__, sl_Survey___init__, l_Survey___init__, c_Survey___init__⟩⟩ := p_Survey___init__
  have F_Survey___init__ := fun_mk (st := s_Survey___init__) l_Survey___init__ c_Survey___init__ me_Survey___init__.kp
  have b_Survey___init__ := F_Survey___init__.binds (ps := p_Survey___init__) fun _ _ _ _ _ _ us hl => match us, hl with | [_, _, _], _ => rfl
  obtain ⟨a_law_bag, ⟨oc_law_bag, od_law_bag, kV_law_bag, dc_law_bag, pm_law_bag, an_law_bag, cd_law_bag, ct_law_bag, sl_law_bag, l_law_bag, c_law_bag⟩, k_law_bag⟩ := p_law_bag
  have F_law_bag := fun_mk (st := s_law_bag) l_law_bag c_law_bag k_law_bag
  have b_law_bag := F_law_bag.binds (ps := p_law_bag) fun _ _ _ _ _ _ us hl => match us, hl with | [_], _ => rfl
  obtain ⟨a_law_draw, ⟨oc_law_draw, od_law_draw, kV_law_draw, dc_law_draw, pm_law_draw, an_law_draw, cd_law_draw, ct_law_draw, sl_law_draw, l_law_draw, c_law_draw⟩, k_law_draw⟩ := p_law_draw
  have F_law_draw := fun_mk (st := s_law_draw) l_law_draw c_law_draw k_law_draw
  have b_law_draw := F_law_draw.binds (ps := p_law_draw) fun _ _ _ _ _ _ us hl => match us, hl with | [_, _], _ => rfl
  obtain ⟨a_law_whole, ⟨oc_law_whole, od_law_whole, kV_law_whole, dc_law_whole, pm_law_whole, an_law_whole, cd_law_whole, ct_law_whole, sl_law_whole, l_law_whole, c_law_whole⟩, k_law_whole⟩ := p_law_whole
  have F_law_whole := fun_mk (st := s_law_whole) l_law_whole c_law_whole k_law_whole
  have b_law_whole := F_law_whole.binds (ps := p_law_whole) fun _ _ _ _ _ _ us hl => match us, hl with | [_], _ => rfl
  obtain ⟨a_law_same, ⟨oc_law_same, od_law_same, kV_law_same, dc_law_same, pm_law_same, an_law_same, cd_law_same, ct_law_same, sl_law_same, l_law_same, c_law_same⟩, k_law_same⟩ := p_law_same
  have F_law_same := fun_mk (st := s_law_same) l_law_same c_law_same k_law_same
  have b_law_same := F_law_same.binds (ps := p_law_same) fun _ _ _ _ _ _ us hl => match us, hl with | [_, _], _ => rfl
  obtain ⟨a_law_any, ⟨oc_law_any, od_law_any, kV_law_any, dc_law_any, pm_law_any, an_law_any, cd_law_any, ct_law_any, sl_law_any, l_law_any, c_law_any⟩, k_law_any⟩ := p_law_any
  have F_law_any := fun_mk (st := s_law_any) l_law_any c_law_any k_law_any
  have b_law_any := F_law_any.binds (ps := p_law_any) fun _ _ _ _ _ _ us hl => match us, hl with | [_, _], _ => rfl
  obtain ⟨a_law_name, ⟨oc_law_name, od_law_name, kV_law_name, dc_law_name, pm_law_name, an_law_name, cd_law_name, ct_law_name, sl_law_name, l_law_name, c_law_name⟩, k_law_name⟩ := p_law_name
  have F_law_name := fun_mk (st := s_law_name) l_law_name c_law_name k_law_name
  have b_law_name := F_law_name.binds (ps := p_law_name) fun _ _ _ _ _ _ us hl => match us, hl with | [_], _ => rfl
  obtain ⟨a_law_names, ⟨oc_law_names, od_law_names, kV_law_names, dc_law_names, pm_law_names, an_law_names, cd_law_names, ct_law_names, sl_law_names, l_law_names, c_law_names⟩, k_law_names⟩ := p_law_names
  have F_law_names := fun_mk (st := s_law_names) l_law_names c_law_names k_law_names
  have b_law_names := F_law_names.binds (ps := p_law_names) fun _ _ _ _ _ _ us hl => match us, hl with | [_, _], _ => rfl
  obtain ⟨a_law_odd_name, ⟨oc_law_odd_name, od_law_odd_name, kV_law_odd_name, dc_law_odd_name, pm_law_odd_name, an_law_odd_name, cd_law_odd_name, ct_law_odd_name, sl_law_odd_name, l_law_odd_name, c_law_odd_name⟩, k_law_odd_name⟩ := p_law_odd_name
  have F_law_odd_name := fun_mk (st := s_law_odd_name) l_law_odd_name c_law_odd_name k_law_odd_name
  have b_law_odd_name := F_law_odd_name.binds (ps := p_law_odd_name) fun _ _ _ _ _ _ us hl => match us, hl with | [_], _ => rfl
  obtain ⟨a_law_marks, ⟨oc_law_marks, od_law_marks, kV_law_marks, dc_law_marks, pm_law_marks, an_law_marks, cd_law_marks, ct_law_marks, sl_law_marks, l_law_marks, c_law_marks⟩, k_law_marks⟩ := p_law_marks
  have F_law_marks := fun_mk (st := s_law_marks) l_law_marks c_law_marks k_law_marks
  have b_law_marks := F_law_marks.binds (ps := p_law_marks) fun _ _ _ _ _ _ us hl => match us, hl with | [_, _], _ => rfl
  obtain ⟨a_law_readings, ⟨oc_law_readings, od_law_readings, kV_law_readings, dc_law_readings, pm_law_readings, an_law_readings, cd_law_readings, ct_law_readings, sl_law_readings, l_law_readings, c_law_readings⟩, k_law_readings⟩ := p_law_readings
  have F_law_readings := fun_mk (st := s_law_readings) l_law_readings c_law_readings k_law_readings
  have b_law_readings := F_law_readings.binds (ps := p_law_readings) fun _ _ _ _ _ _ us hl => match us, hl with | [_, _, _], _ => rfl
  obtain ⟨a_law_bad_number, ⟨oc_law_bad_number, od_law_bad_number, kV_law_bad_number, dc_law_bad_number, pm_law_bad_number, an_law_bad_number, cd_law_bad_number, ct_law_bad_number, sl_law_bad_number, l_law_bad_number, c_law_bad_number⟩, k_law_bad_number⟩ := p_law_bad_number
  have F_law_bad_number := fun_mk (st := s_law_bad_number) l_law_bad_number c_law_bad_number k_law_bad_number
  have b_law_bad_number := F_law_bad_number.binds (ps := p_law_bad_number) fun _ _ _ _ _ _ us hl => match us, hl with | [_], _ => rfl
  obtain ⟨a_law_bend, ⟨oc_law_bend, od_law_bend, kV_law_bend, dc_law_bend, pm_law_bend, an_law_bend, cd_law_bend, ct_law_bend, sl_law_bend, l_law_bend, c_law_bend⟩, k_law_bend⟩ := p_law_bend
  have F_law_bend := fun_mk (st := s_law_bend) l_law_bend c_law_bend k_law_bend
  have b_law_bend := F_law_bend.binds (ps := p_law_bend) fun _ _ _ _ _ _ us hl => match us, hl with | [_, _, _], _ => rfl
  obtain ⟨a_law_good, ⟨oc_law_good, od_law_good, kV_law_good, dc_law_good, pm_law_good, an_law_good, cd_law_good, ct_law_good, sl_law_good, l_law_good, c_law_good⟩, k_law_good⟩ := p_law_good
  have F_law_good := fun_mk (st := s_law_good) l_law_good c_law_good k_law_good
  have b_law_good := F_law_good.binds (ps := p_law_good) fun _ _ _ _ _ _ us hl => match us, hl with | [_, _], _ => rfl
  obtain ⟨a_law_wrong_reading, ⟨oc_law_wrong_reading, od_law_wrong_reading, kV_law_wrong_reading, dc_law_wrong_reading, pm_law_wrong_reading, an_law_wrong_reading, cd_law_wrong_reading, ct_law_wrong_reading, sl_law_wrong_reading, l_law_wrong_reading, c_law_wrong_reading⟩, k_law_wrong_reading⟩ := p_law_wrong_reading
  have F_law_wrong_reading := fun_mk (st := s_law_wrong_reading) l_law_wrong_reading c_law_wrong_reading k_law_wrong_reading
  have b_law_wrong_reading := F_law_wrong_reading.binds (ps := p_law_wrong_reading) fun _ _ _ _ _ _ us hl => match us, hl with | [_, _, _], _ => rfl
  obtain ⟨a_law_due, ⟨oc_law_due, od_law_due, kV_law_due, dc_law_due, pm_law_due, an_law_due, cd_law_due, ct_law_due, sl_law_due, l_law_due, c_law_due⟩, k_law_due⟩ := p_law_due
  have F_law_due := fun_mk (st := s_law_due) l_law_due c_law_due k_law_due
  have b_law_due := F_law_due.binds (ps := p_law_due) fun _ _ _ _ _ _ us hl => match us, hl with | [_, _], _ => rfl
  obtain ⟨a_law_told, ⟨oc_law_told, od_law_told, kV_law_told, dc_law_told, pm_law_told, an_law_told, cd_law_told, ct_law_told, sl_law_told, l_law_told, c_law_told⟩, k_law_told⟩ := p_law_told
  have F_law_told := fun_mk (st := s_law_told) l_law_told c_law_told k_law_told
  have b_law_told := F_law_told.binds (ps := p_law_told) fun _ _ _ _ _ _ us hl => match us, hl with | [_, _], _ => rfl
  obtain ⟨a_law, ⟨oc_law, od_law, kV_law, dc_law, pm_law, an_law, cd_law, ct_law, sl_law, l_law, c_law⟩, k_law⟩ := p_law
  have F_law := fun_mk (st := s_law) l_law c_law k_law
  have b_law := F_law.binds (ps := p_law) fun _ _ _ _ _ _ us hl => match us, hl with | [_], _ => rfl
  have B : Bt mg := ⟨PySem.W.mg_none_of X G z_len, PySem.W.mg_none_of X G z_list, PySem.W.mg_none_of X G z_isinstance, PySem.W.mg_none_of X G z_int, PySem.W.mg_none_of X G z_bool, PySem.W.mg_none_of X G z_str, PySem.W.mg_none_of X G z_dict, PySem.W.mg_none_of X G z_tuple, PySem.W.mg_none_of X G z_all, PySem.W.mg_none_of X G z_range, PySem.W.mg_none_of X G z_sorted, PySem.W.mg_none_of X G z_super⟩
  let ev : Env l.prog K mg := { f_is_word := f_is_word, d_is_word := _, A_is_word := ⟨F_is_word, b_is_word, PySem.W.mg_of X G a_is_word⟩, f_is_name := f_is_name, d_is_name := _, A_is_name := ⟨F_is_name, b_is_name, PySem.W.mg_of X G a_is_name⟩, f_is_within := f_is_within, d_is_within := _, A_is_within := ⟨F_is_within, b_is_within, PySem.W.mg_of X G a_is_within⟩, f_check_name := f_check_name, d_check_name := _, A_check_name := ⟨F_check_name, b_check_name, PySem.W.mg_of X G a_check_name⟩, f_check_number := f_check_number, d_check_number := _, A_check_number := ⟨F_check_number, b_check_number, PySem.W.mg_of X G a_check_number⟩, f_check_place := f_check_place, d_check_place := _, A_check_place := ⟨F_check_place, b_check_place, PySem.W.mg_of X G a_check_place⟩, f_check_reading := f_check_reading, d_check_reading := _, A_check_reading := ⟨F_check_reading, b_check_reading, PySem.W.mg_of X G a_check_reading⟩, f_Survey___init__ := f_Survey___init__, d_Survey___init__ := _, A_Survey___init__ := ⟨F_Survey___init__, b_Survey___init__, me_Survey___init__⟩, f_law_bag := f_law_bag, d_law_bag := _, A_law_bag := ⟨F_law_bag, b_law_bag, PySem.W.mg_of X G a_law_bag⟩, f_law_draw := f_law_draw, d_law_draw := _, A_law_draw := ⟨F_law_draw, b_law_draw, PySem.W.mg_of X G a_law_draw⟩, f_law_whole := f_law_whole, d_law_whole := _, A_law_whole := ⟨F_law_whole, b_law_whole, PySem.W.mg_of X G a_law_whole⟩, f_law_same := f_law_same, d_law_same := _, A_law_same := ⟨F_law_same, b_law_same, PySem.W.mg_of X G a_law_same⟩, f_law_any := f_law_any, d_law_any := _, A_law_any := ⟨F_law_any, b_law_any, PySem.W.mg_of X G a_law_any⟩, f_law_name := f_law_name, d_law_name := _, A_law_name := ⟨F_law_name, b_law_name, PySem.W.mg_of X G a_law_name⟩, f_law_names := f_law_names, d_law_names := _, A_law_names := ⟨F_law_names, b_law_names, PySem.W.mg_of X G a_law_names⟩, f_law_odd_name := f_law_odd_name, d_law_odd_name := _, A_law_odd_name := ⟨F_law_odd_name, b_law_odd_name, PySem.W.mg_of X G a_law_odd_name⟩, f_law_marks := f_law_marks, d_law_marks := _, A_law_marks := ⟨F_law_marks, b_law_marks, PySem.W.mg_of X G a_law_marks⟩, f_law_readings := f_law_readings, d_law_readings := _, A_law_readings := ⟨F_law_readings, b_law_readings, PySem.W.mg_of X G a_law_readings⟩, f_law_bad_number := f_law_bad_number, d_law_bad_number := _, A_law_bad_number := ⟨F_law_bad_number, b_law_bad_number, PySem.W.mg_of X G a_law_bad_number⟩, f_law_bend := f_law_bend, d_law_bend := _, A_law_bend := ⟨F_law_bend, b_law_bend, PySem.W.mg_of X G a_law_bend⟩, f_law_good := f_law_good, d_law_good := _, A_law_good := ⟨F_law_good, b_law_good, PySem.W.mg_of X G a_law_good⟩, f_law_wrong_reading := f_law_wrong_reading, d_law_wrong_reading := _, A_law_wrong_reading := ⟨F_law_wrong_reading, b_law_wrong_reading, PySem.W.mg_of X G a_law_wrong_reading⟩, f_law_due := f_law_due, d_law_due := _, A_law_due := ⟨F_law_due, b_law_due, PySem.W.mg_of X G a_law_due⟩, f_law_told := f_law_told, d_law_told := _, A_law_told := ⟨F_law_told, b_law_told, PySem.W.mg_of X G a_law_told⟩, f_law := fa, d_law := _, A_law := ⟨F_law, b_law, PySem.W.mg_of X G a_law⟩, B := B, C_Survey := C_Survey, cl_Survey := ⟨pgS, hdS, poS, saS⟩, M_Survey := ⟨mkS, me_Survey___init__.at_, me_Survey___init__.fn, kcS⟩, g_Survey := PySem.W.mg_of X G aS, n1_Survey := n1S, n2_Survey := n2S, t1 := t1, t2 := t2, t3 := t3, t4 := t4, t5 := t5, c_MOST := PySem.W.mg_of X G cM, c_LEAST_WEIGHT := PySem.W.mg_of X G cL, c_MOST_WEIGHT := PySem.W.mg_of X G cW, c_LONGEST := PySem.W.mg_of X G cG, c_LETTERS := PySem.W.mg_of X G cT, C_BadName := C_BadName, C_BadNumber := C_BadNumber, C_BadReading := C_BadReading, C_NoMark := C_NoMark, X_BadName := e_BadName mg (PySem.W.mg_of X G g_BadName) (PySem.W.mg_none_of X G z_super), X_BadNumber := e_BadNumber mg (PySem.W.mg_of X G g_BadNumber) (PySem.W.mg_none_of X G z_super), X_BadReading := e_BadReading mg (PySem.W.mg_of X G g_BadReading) (PySem.W.mg_none_of X G z_super), X_NoMark := e_NoMark mg (PySem.W.mg_of X G g_NoMark) (PySem.W.mg_none_of X G z_super), xm_BadName_BadName := xm_BadName_BadName, xm_BadName_BadNumber := xm_BadName_BadNumber, xm_BadName_BadReading := xm_BadName_BadReading, xm_BadName_NoMark := xm_BadName_NoMark, xm_BadNumber_BadName := xm_BadNumber_BadName, xm_BadNumber_BadNumber := xm_BadNumber_BadNumber, xm_BadNumber_BadReading := xm_BadNumber_BadReading, xm_BadNumber_NoMark := xm_BadNumber_NoMark, xm_BadReading_BadName := xm_BadReading_BadName, xm_BadReading_BadNumber := xm_BadReading_BadNumber, xm_BadReading_BadReading := xm_BadReading_BadReading, xm_BadReading_NoMark := xm_BadReading_NoMark, xm_NoMark_BadName := xm_NoMark_BadName, xm_NoMark_BadNumber := xm_NoMark_BadNumber, xm_NoMark_BadReading := xm_NoMark_BadReading, xm_NoMark_NoMark := xm_NoMark_NoMark }
  exact ⟨_, fun s v => .of_eq rfl, fun base _ _ => ok_law ev⟩
end G
open PySem PySem.W PyProof.Rows
set_option maxHeartbeats 0 in
theorem PySem.Challenge.cw_gromatic_k04_surveys_made_or_refused_holds : PySem.Challenge.rw_gromatic_k04_surveys_made_or_refused.Holds := by
  w_on; o_law; k_head; (case hw => w_witness2)
  k_fill
  refine L2.walk_of (l := PySem.Challenge.rw_gromatic_k04_surveys_made_or_refused) (n := 63) (k := 7) (x := "_law_script") (CX := fun _ => L2.CX0) (sp := fun w => G.spLaw _) rfl (by decide) rfl ⟨rfl, by decide, by decide⟩ (fun w h Y => PySem.W.kIn_of Y) ?F (fun _ _ a ns hl _ hS => ⟨a, ns, rfl, hS, hl, fun _ => rfl⟩) (fun _ _ _ _ _ h => h)
  case F =>
    intro w mg fa h KX GN hmg
    refine' G.all_mk KX GN hmg (G.put_mk ?a_is_word ?l_is_word ?c_is_word ?k_is_word) (G.put_mk ?a_is_name ?l_is_name ?c_is_name ?k_is_name) (G.put_mk ?a_is_within ?l_is_within ?c_is_within ?k_is_within) (G.put_mk ?a_check_name ?l_check_name ?c_check_name ?k_check_name) (G.put_mk ?a_check_number ?l_check_number ?c_check_number ?k_check_number) (G.put_mk ?a_check_place ?l_check_place ?c_check_place ?k_check_place) (G.put_mk ?a_check_reading ?l_check_reading ?c_check_reading ?k_check_reading) (G.putM_mk ?a_Survey___init__ ?i_Survey___init__ ?l_Survey___init__ ?c_Survey___init__ ?k_Survey___init__) (G.put_mk ?a_law_bag ?l_law_bag ?c_law_bag ?k_law_bag) (G.put_mk ?a_law_draw ?l_law_draw ?c_law_draw ?k_law_draw) (G.put_mk ?a_law_whole ?l_law_whole ?c_law_whole ?k_law_whole) (G.put_mk ?a_law_same ?l_law_same ?c_law_same ?k_law_same) (G.put_mk ?a_law_any ?l_law_any ?c_law_any ?k_law_any) (G.put_mk ?a_law_name ?l_law_name ?c_law_name ?k_law_name) (G.put_mk ?a_law_names ?l_law_names ?c_law_names ?k_law_names) (G.put_mk ?a_law_odd_name ?l_law_odd_name ?c_law_odd_name ?k_law_odd_name) (G.put_mk ?a_law_marks ?l_law_marks ?c_law_marks ?k_law_marks) (G.put_mk ?a_law_readings ?l_law_readings ?c_law_readings ?k_law_readings) (G.put_mk ?a_law_bad_number ?l_law_bad_number ?c_law_bad_number ?k_law_bad_number) (G.put_mk ?a_law_bend ?l_law_bend ?c_law_bend ?k_law_bend) (G.put_mk ?a_law_good ?l_law_good ?c_law_good ?k_law_good) (G.put_mk ?a_law_wrong_reading ?l_law_wrong_reading ?c_law_wrong_reading ?k_law_wrong_reading) (G.put_mk ?a_law_due ?l_law_due ?c_law_due ?k_law_due) (G.put_mk ?a_law_told ?l_law_told ?c_law_told ?k_law_told) (G.put_mk ?a_law ?l_law ?c_law ?k_law) ?aS ?pgS ?hdS ?poS ?saS ?mkS ?kcS ?n1S ?n2S ?cM ?cL ?cW ?cG ?cT ?g_BadName (G.supL_mk (n := "BadName") (f := "name") (j := 0) PySem.F.excBase_ValueError PySem.W.kxs_ValueError PySem.F.store_ValueError ?iC_BadName ?l_BadName ?cd_BadName ?lc_BadName ?lk_BadName ?hvs_BadName ?hfile_BadName ?hl_BadName ?hb_BadName ?ini_BadName ?over_BadName ?sa_BadName ?tk_BadName ?hd_BadName ?tC_BadName ?sub_BadName ?mro_BadName ?sup_BadName ?opq_BadName ?top_BadName ?hd1_BadName ?nn_BadName ?lf_BadName ?hz_BadName ?kC_BadName ?exC_BadName ?tyC_BadName ?xf_BadName ?nf_BadName) ?g_BadNumber (G.supL_mk (n := "BadNumber") (f := "number") (j := 0) PySem.F.excBase_ValueError PySem.W.kxs_ValueError PySem.F.store_ValueError ?iC_BadNumber ?l_BadNumber ?cd_BadNumber ?lc_BadNumber ?lk_BadNumber ?hvs_BadNumber ?hfile_BadNumber ?hl_BadNumber ?hb_BadNumber ?ini_BadNumber ?over_BadNumber ?sa_BadNumber ?tk_BadNumber ?hd_BadNumber ?tC_BadNumber ?sub_BadNumber ?mro_BadNumber ?sup_BadNumber ?opq_BadNumber ?top_BadNumber ?hd1_BadNumber ?nn_BadNumber ?lf_BadNumber ?hz_BadNumber ?kC_BadNumber ?exC_BadNumber ?tyC_BadNumber ?xf_BadNumber ?nf_BadNumber) ?g_BadReading (G.supL_mkP (n := "BadReading") (f := "number") (j := 0) (j2 := 0) PySem.F.excBase_ValueError PySem.W.kxs_ValueError PySem.F.store_ValueError ?iC_BadReading ?l_BadReading ?cd_BadReading ?lc_BadReading ?lk_BadReading ?hvs_BadReading ?hfile_BadReading ?hl_BadReading ?hb_BadReading ?ini_BadReading ?over_BadReading ?sa_BadReading ?tk_BadReading ?hd_BadReading ?tC_BadReading ?sub_BadReading ?mro_BadReading ?sup_BadReading ?opq_BadReading ?top_BadReading ?hd1_BadReading ?nn_BadReading ?lf_BadReading ?hz_BadReading ?hz2_BadReading ?kC_BadReading ?exC_BadReading ?tyC_BadReading ?xf_BadReading ?nf_BadReading) ?g_NoMark (G.supL_mk (n := "NoMark") (f := "name") (j := 0) PySem.F.excBase_LookupError PySem.W.kxs_LookupError PySem.F.store_LookupError ?iC_NoMark ?l_NoMark ?cd_NoMark ?lc_NoMark ?lk_NoMark ?hvs_NoMark ?hfile_NoMark ?hl_NoMark ?hb_NoMark ?ini_NoMark ?over_NoMark ?sa_NoMark ?tk_NoMark ?hd_NoMark ?tC_NoMark ?sub_NoMark ?mro_NoMark ?sup_NoMark ?opq_NoMark ?top_NoMark ?hd1_NoMark ?nn_NoMark ?lf_NoMark ?hz_NoMark ?kC_NoMark ?exC_NoMark ?tyC_NoMark ?xf_NoMark ?nf_NoMark) ?xm_BadName_BadName ?xm_BadName_BadNumber ?xm_BadName_BadReading ?xm_BadName_NoMark ?xm_BadNumber_BadName ?xm_BadNumber_BadNumber ?xm_BadNumber_BadReading ?xm_BadNumber_NoMark ?xm_BadReading_BadName ?xm_BadReading_BadNumber ?xm_BadReading_BadReading ?xm_BadReading_NoMark ?xm_NoMark_BadName ?xm_NoMark_BadNumber ?xm_NoMark_BadReading ?xm_NoMark_NoMark ?z_len ?z_list ?z_isinstance ?z_int ?z_bool ?z_str ?z_dict ?z_tuple ?z_all ?z_range ?z_sorted ?z_super
    (case aS => k_is)
    (case pgS => k_is)
    (case hdS => k_is)
    (case poS => k_is)
    (case saS => k_is)
    (case mkS => k_is)
    (case kcS => k_is)
    (case n1S => k_is)
    (case n2S => k_is)
    (case cM => k_is)
    (case cL => k_is)
    (case cW => k_is)
    (case cG => k_is)
    (case cT => k_is)
    (case g_BadName => k_is)
    (case iC_BadName => k_is)
    (case l_BadName => k_is)
    (case cd_BadName => k_is)
    (case lc_BadName => k_is)
    (case lk_BadName => k_is)
    (case hvs_BadName => first | rfl | kernel_rfl)
    (case hfile_BadName => first | rfl | kernel_rfl | decide +kernel)
    (case hl_BadName => first | rfl | decide)
    (case hb_BadName => exact fun s x v => BindsTo.of_eq rfl)
    (case ini_BadName => kx_is)
    (case over_BadName => kx_is)
    (case sa_BadName => k_is)
    (case tk_BadName => k_is)
    (case hd_BadName => k_is)
    (case tC_BadName => k_is)
    (case sub_BadName => k_is)
    (case mro_BadName => k_is)
    (case sup_BadName => ks_is)
    (case opq_BadName => k_is)
    (case top_BadName => first | rfl | kernel_rfl | decide +kernel)
    (case hd1_BadName => first | rfl | decide)
    (case nn_BadName => first | rfl | decide)
    (case lf_BadName => first | rfl | decide)
    (case hz_BadName => first | decide | decide +kernel)
    (case kC_BadName => k_is)
    (case exC_BadName => k_is)
    (case tyC_BadName => k_is)
    (case xf_BadName => exact ⟨by k_is, by k_is, by k_is, by k_is⟩)
    (case nf_BadName => k_is)
    (case g_BadNumber => k_is)
    (case iC_BadNumber => k_is)
    (case l_BadNumber => k_is)
    (case cd_BadNumber => k_is)
    (case lc_BadNumber => k_is)
    (case lk_BadNumber => k_is)
    (case hvs_BadNumber => first | rfl | kernel_rfl)
    (case hfile_BadNumber => first | rfl | kernel_rfl | decide +kernel)
    (case hl_BadNumber => first | rfl | decide)
    (case hb_BadNumber => exact fun s x v => BindsTo.of_eq rfl)
    (case ini_BadNumber => kx_is)
    (case over_BadNumber => kx_is)
    (case sa_BadNumber => k_is)
    (case tk_BadNumber => k_is)
    (case hd_BadNumber => k_is)
    (case tC_BadNumber => k_is)
    (case sub_BadNumber => k_is)
    (case mro_BadNumber => k_is)
    (case sup_BadNumber => ks_is)
    (case opq_BadNumber => k_is)
    (case top_BadNumber => first | rfl | kernel_rfl | decide +kernel)
    (case hd1_BadNumber => first | rfl | decide)
    (case nn_BadNumber => first | rfl | decide)
    (case lf_BadNumber => first | rfl | decide)
    (case hz_BadNumber => first | decide | decide +kernel)
    (case kC_BadNumber => k_is)
    (case exC_BadNumber => k_is)
    (case tyC_BadNumber => k_is)
    (case xf_BadNumber => exact ⟨by k_is, by k_is, by k_is, by k_is⟩)
    (case nf_BadNumber => k_is)
    (case g_BadReading => k_is)
    (case iC_BadReading => k_is)
    (case l_BadReading => k_is)
    (case cd_BadReading => k_is)
    (case lc_BadReading => k_is)
    (case lk_BadReading => k_is)
    (case hvs_BadReading => first | rfl | kernel_rfl)
    (case hfile_BadReading => first | rfl | kernel_rfl | decide +kernel)
    (case hl_BadReading => first | rfl | decide)
    (case hb_BadReading => exact fun s x v => BindsTo.of_eq rfl)
    (case ini_BadReading => kx_is)
    (case over_BadReading => kx_is)
    (case sa_BadReading => k_is)
    (case tk_BadReading => k_is)
    (case hd_BadReading => k_is)
    (case tC_BadReading => k_is)
    (case sub_BadReading => k_is)
    (case mro_BadReading => k_is)
    (case sup_BadReading => ks_is)
    (case opq_BadReading => k_is)
    (case top_BadReading => first | rfl | kernel_rfl | decide +kernel)
    (case hd1_BadReading => first | rfl | decide)
    (case nn_BadReading => first | rfl | decide)
    (case lf_BadReading => first | rfl | decide)
    (case hz2_BadReading => first | decide | decide +kernel)
    (case hz_BadReading => first | decide | decide +kernel)
    (case kC_BadReading => k_is)
    (case exC_BadReading => k_is)
    (case tyC_BadReading => k_is)
    (case xf_BadReading => exact ⟨by k_is, by k_is, by k_is, by k_is⟩)
    (case nf_BadReading => k_is)
    (case g_NoMark => k_is)
    (case iC_NoMark => k_is)
    (case l_NoMark => k_is)
    (case cd_NoMark => k_is)
    (case lc_NoMark => k_is)
    (case lk_NoMark => k_is)
    (case hvs_NoMark => first | rfl | kernel_rfl)
    (case hfile_NoMark => first | rfl | kernel_rfl | decide +kernel)
    (case hl_NoMark => first | rfl | decide)
    (case hb_NoMark => exact fun s x v => BindsTo.of_eq rfl)
    (case ini_NoMark => kx_is)
    (case over_NoMark => kx_is)
    (case sa_NoMark => k_is)
    (case tk_NoMark => k_is)
    (case hd_NoMark => k_is)
    (case tC_NoMark => k_is)
    (case sub_NoMark => k_is)
    (case mro_NoMark => k_is)
    (case sup_NoMark => ks_is)
    (case opq_NoMark => k_is)
    (case top_NoMark => first | rfl | kernel_rfl | decide +kernel)
    (case hd1_NoMark => first | rfl | decide)
    (case nn_NoMark => first | rfl | decide)
    (case lf_NoMark => first | rfl | decide)
    (case hz_NoMark => first | decide | decide +kernel)
    (case kC_NoMark => k_is)
    (case exC_NoMark => k_is)
    (case tyC_NoMark => k_is)
    (case xf_NoMark => exact ⟨by k_is, by k_is, by k_is, by k_is⟩)
    (case nf_NoMark => k_is)
    (case xm_BadName_BadName => first | k_is | kx_is | rfl)
    (case xm_BadName_BadNumber => first | k_is | kx_is | rfl)
    (case xm_BadName_BadReading => first | k_is | kx_is | rfl)
    (case xm_BadName_NoMark => first | k_is | kx_is | rfl)
    (case xm_BadNumber_BadName => first | k_is | kx_is | rfl)
    (case xm_BadNumber_BadNumber => first | k_is | kx_is | rfl)
    (case xm_BadNumber_BadReading => first | k_is | kx_is | rfl)
    (case xm_BadNumber_NoMark => first | k_is | kx_is | rfl)
    (case xm_BadReading_BadName => first | k_is | kx_is | rfl)
    (case xm_BadReading_BadNumber => first | k_is | kx_is | rfl)
    (case xm_BadReading_BadReading => first | k_is | kx_is | rfl)
    (case xm_BadReading_NoMark => first | k_is | kx_is | rfl)
    (case xm_NoMark_BadName => first | k_is | kx_is | rfl)
    (case xm_NoMark_BadNumber => first | k_is | kx_is | rfl)
    (case xm_NoMark_BadReading => first | k_is | kx_is | rfl)
    (case xm_NoMark_NoMark => first | k_is | kx_is | rfl)
    (case a_is_word => k_is)
    (case l_is_word => k_is)
    (case c_is_word => k_is)
    (case k_is_word => k_is)
    (case a_is_name => k_is)
    (case l_is_name => k_is)
    (case c_is_name => k_is)
    (case k_is_name => k_is)
    (case a_is_within => k_is)
    (case l_is_within => k_is)
    (case c_is_within => k_is)
    (case k_is_within => k_is)
    (case a_check_name => k_is)
    (case l_check_name => k_is)
    (case c_check_name => k_is)
    (case k_check_name => k_is)
    (case a_check_number => k_is)
    (case l_check_number => k_is)
    (case c_check_number => k_is)
    (case k_check_number => k_is)
    (case a_check_place => k_is)
    (case l_check_place => k_is)
    (case c_check_place => k_is)
    (case k_check_place => k_is)
    (case a_check_reading => k_is)
    (case l_check_reading => k_is)
    (case c_check_reading => k_is)
    (case k_check_reading => k_is)
    (case a_Survey___init__ => k_is)
    (case i_Survey___init__ => k_is)
    (case l_Survey___init__ => k_is)
    (case c_Survey___init__ => k_is)
    (case k_Survey___init__ => k_is)
    (case a_law_bag => k_is)
    (case l_law_bag => k_is)
    (case c_law_bag => k_is)
    (case k_law_bag => k_is)
    (case a_law_draw => k_is)
    (case l_law_draw => k_is)
    (case c_law_draw => k_is)
    (case k_law_draw => k_is)
    (case a_law_whole => k_is)
    (case l_law_whole => k_is)
    (case c_law_whole => k_is)
    (case k_law_whole => k_is)
    (case a_law_same => k_is)
    (case l_law_same => k_is)
    (case c_law_same => k_is)
    (case k_law_same => k_is)
    (case a_law_any => k_is)
    (case l_law_any => k_is)
    (case c_law_any => k_is)
    (case k_law_any => k_is)
    (case a_law_name => k_is)
    (case l_law_name => k_is)
    (case c_law_name => k_is)
    (case k_law_name => k_is)
    (case a_law_names => k_is)
    (case l_law_names => k_is)
    (case c_law_names => k_is)
    (case k_law_names => k_is)
    (case a_law_odd_name => k_is)
    (case l_law_odd_name => k_is)
    (case c_law_odd_name => k_is)
    (case k_law_odd_name => k_is)
    (case a_law_marks => k_is)
    (case l_law_marks => k_is)
    (case c_law_marks => k_is)
    (case k_law_marks => k_is)
    (case a_law_readings => k_is)
    (case l_law_readings => k_is)
    (case c_law_readings => k_is)
    (case k_law_readings => k_is)
    (case a_law_bad_number => k_is)
    (case l_law_bad_number => k_is)
    (case c_law_bad_number => k_is)
    (case k_law_bad_number => k_is)
    (case a_law_bend => k_is)
    (case l_law_bend => k_is)
    (case c_law_bend => k_is)
    (case k_law_bend => k_is)
    (case a_law_good => k_is)
    (case l_law_good => k_is)
    (case c_law_good => k_is)
    (case k_law_good => k_is)
    (case a_law_wrong_reading => k_is)
    (case l_law_wrong_reading => k_is)
    (case c_law_wrong_reading => k_is)
    (case k_law_wrong_reading => k_is)
    (case a_law_due => k_is)
    (case l_law_due => k_is)
    (case c_law_due => k_is)
    (case k_law_due => k_is)
    (case a_law_told => k_is)
    (case l_law_told => k_is)
    (case c_law_told => k_is)
    (case k_law_told => k_is)
    (case a_law => k_is)
    (case l_law => k_is)
    (case c_law => k_is)
    (case k_law => k_is)
    (case z_len => k_is)
    (case z_list => k_is)
    (case z_isinstance => k_is)
    (case z_int => k_is)
    (case z_bool => k_is)
    (case z_str => k_is)
    (case z_dict => k_is)
    (case z_tuple => k_is)
    (case z_all => k_is)
    (case z_range => k_is)
    (case z_sorted => k_is)
    (case z_super => k_is)
